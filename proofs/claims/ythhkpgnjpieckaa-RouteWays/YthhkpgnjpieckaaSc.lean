/- mailcoachlaw.routeBegun: what is to be said of the office. -/
import Derived.Test.YthhkpgnjpieckaaSb
import Derived.Test.YthhkpgnjpieckaaOf
namespace Go.Proofs.Ythhkpgnjpieckaa
set_option linter.unusedVariables false
set_option maxRecDepth 100000
open Go.RowKit Go.Maps

def kxy : ByteArray := ⟨#[120, 46, 121]⟩
def kz : ByteArray := ⟨#[122]⟩
theorem fits_xy : fitP officeP 0 kxy = true ∧ fitP officeP 1 kxy = true ∧ fitP officeP 2 kxy = true ∧ fitP officeP 3 kxy = true ∧ fitP officeP 4 kxy = true := by decide +kernel
theorem fits_z : fitP officeP 0 kz = false ∧ fitP officeP 1 kz = false ∧ fitP officeP 2 kz = true ∧ fitP officeP 3 kz = true ∧ fitP officeP 4 kz = false := by decide +kernel
theorem arc_xy (n : Nat) : arcOf officeP kxy n = if n = 1 then some (0, 1) else if n = 3 then some (1, 0) else none := by
  match n with
  | 0 => decide +kernel
  | 1 => decide +kernel
  | 2 => decide +kernel
  | 3 => decide +kernel
  | 4 => decide +kernel
  | n + 5 => unfold arcOf; rw [if_neg (fun h => by have := h.1; simp [officeP] at this; omega), if_neg (by omega), if_neg (by omega)]
theorem arc_z (n : Nat) : arcOf officeP kz n = if n = 3 then some (1, 0) else none := by
  match n with
  | 0 => decide +kernel
  | 1 => decide +kernel
  | 2 => decide +kernel
  | 3 => decide +kernel
  | 4 => decide +kernel
  | n + 5 => unfold arcOf; rw [if_neg (fun h => by have := h.1; simp [officeP] at this; omega), if_neg (by omega)]
theorem path_xy {s : List Nat} {v : Nat} (h : Path (arcOf officeP kxy) 0 s v) : v = 0 ∨ v = 1 := by
  rcases h.inv with ⟨_, rfl⟩ | ⟨s', u, n, _, _, h3⟩
  · exact .inl rfl
  · rw [arc_xy] at h3
    split at h3
    · cases h3; exact .inr rfl
    · split at h3
      · cases h3; exact .inl rfl
      · cases h3
theorem path_z {s : List Nat} {v : Nat} (h : Path (arcOf officeP kz) 1 s v) : v = 0 ∨ v = 1 := by
  rcases h.inv with ⟨_, rfl⟩ | ⟨s', u, n, _, _, h3⟩
  · exact .inr rfl
  · rw [arc_z] at h3
    split at h3
    · cases h3; exact .inl rfl
    · cases h3
theorem p_xy0 : Path (arcOf officeP kxy) 0 [] 0 := .nil
theorem p_xy1 : Path (arcOf officeP kxy) 0 [1] 1 := Path.snoc (s := []) (n := 1) .nil (by rw [arc_xy]; rfl)
theorem p_z1 : Path (arcOf officeP kz) 1 [] 1 := .nil
theorem posts_xy : PostsIs officeP kxy 0 [0, 1] := by
  refine ⟨by decide, fun z => ⟨fun h => ?_, ?_⟩⟩
  · simp at h
    rcases h with rfl | rfl
    · exact ⟨0, rfl, _, p_xy0⟩
    · exact ⟨1, rfl, _, p_xy1⟩
  · rintro ⟨x, rfl, s, hs⟩
    rcases path_xy hs with rfl | rfl <;> decide
theorem bind_lt {n : Nat} (h : n < officeP.binds.length) : n = 0 ∨ n = 1 ∨ n = 2 ∨ n = 3 ∨ n = 4 := by
  have : n < 5 := h
  omega
theorem queues_xy : QueuesIs officeP kxy 0 [0, 1] := by
  obtain ⟨f0, f1, f2, f3, f4⟩ := fits_xy
  refine ⟨by decide, fun z => ⟨fun h => ?_, ?_⟩⟩
  · simp at h
    rcases h with rfl | rfl
    · exact ⟨0, by decide, f0, rfl, rfl, _, p_xy0⟩
    · exact ⟨2, by decide, f2, rfl, rfl, _, p_xy1⟩
  · rintro ⟨n, hn, hf, ht, rfl, s, hs⟩
    rcases bind_lt hn with rfl | rfl | rfl | rfl | rfl
    · decide
    · exact absurd ht (by decide)
    · decide
    · exact absurd ht (by decide)
    · rcases path_xy hs with h | h <;> exact absurd h (by decide)
theorem queues_z : QueuesIs officeP kz 1 [1] := by
  obtain ⟨f0, f1, f2, f3, f4⟩ := fits_z
  refine ⟨by decide, fun z => ⟨fun h => ?_, ?_⟩⟩
  · simp at h
    subst h
    exact ⟨2, by decide, f2, rfl, rfl, _, p_z1⟩
  · rintro ⟨n, hn, hf, ht, rfl, s, hs⟩
    rcases bind_lt hn with rfl | rfl | rfl | rfl | rfl
    · rw [f0] at hf; cases hf
    · exact absurd ht (by decide)
    · decide
    · exact absurd ht (by decide)
    · rw [f4] at hf; cases hf
theorem fin_1 (n : Nat) : finOf officeP kxy 1 n = if n = 2 then some 1 else none := by
  match n with
  | 0 => decide +kernel
  | 1 => decide +kernel
  | 2 => decide +kernel
  | 3 => decide +kernel
  | 4 => decide +kernel
  | n + 5 => unfold finOf; rw [if_neg (fun h => by have := h.1; simp [officeP] at this; omega), if_neg (by omega)]
theorem fin_2 (n : Nat) : finOf officeP kxy 2 n = if n = 4 then some 2 else none := by
  match n with
  | 0 => decide +kernel
  | 1 => decide +kernel
  | 2 => decide +kernel
  | 3 => decide +kernel
  | 4 => decide +kernel
  | n + 5 => unfold finOf; rw [if_neg (fun h => by have := h.1; simp [officeP] at this; omega), if_neg (by omega)]
theorem way_1 : WayIs officeP kxy 0 1 [1, 2] := by
  refine ⟨⟨[1], 1, 2, rfl, p_xy1, by rw [fin_1]; rfl⟩, ?_, by decide⟩
  rintro t ⟨s', u, m, rfl, hp, hf⟩ hlt
  rw [fin_1] at hf
  split at hf
  · rename_i hm
    cases hf
    subst hm
    rcases hp.inv with ⟨_, h⟩ | ⟨s2, u2, n, rfl, hp2, h3⟩
    · cases h
    · have hn : n = 1 ∧ u2 = 0 := by
        rw [arc_xy] at h3
        split at h3
        · cases h3; rename_i h; exact ⟨h, rfl⟩
        · split at h3 <;> cases h3
      obtain ⟨rfl, rfl⟩ := hn
      rcases s2.eq_nil_or_concat with rfl | ⟨s3, k, rfl⟩
      · exact Slt_irr _ hlt
      · rcases hlt with h | ⟨h, _⟩ <;> simp at h <;> omega
  · cases hf
theorem way_2 (t : List Nat) : ¬ Way (arcOf officeP kxy) (finOf officeP kxy 2) 0 t := by
  rintro ⟨s', u, m, rfl, hp, hf⟩
  rw [fin_2] at hf
  split at hf
  · cases hf
    rcases path_xy hp with h | h <;> cases h
  · cases hf
theorem WayIs.uniq {p : PlanD} {key : ByteArray} {v : Nat} {q : Int} {s t : List Nat} (hs : WayIs p key v q s) (ht : WayIs p key v q t) : s = t := by
  rcases Slt_tri s t with h | h | h
  · exact absurd h (ht.least _ hs.way)
  · exact h
  · exact absurd h (hs.least _ ht.way)
theorem rt_facts : rtE officeP 0 kxy = 0 ∧ rtE officeP 1 kz = 0 ∧ rtE officeP 3 kz = 5 ∧ wayE officeP 0 kxy 1 = 0 ∧ wayE officeP 0 kxy 2 = 0 := by decide +kernel


theorem o_posts {w : World} {a1 a2 a3 : Option Addr} {n1 n2 n3 : Nat} (c1 c2 c3 : Nat) (hp : PlanAt w a1 a2 a3 n1 n2 n3 officeP) : Calls Try.prog 33 #[.agg #[.slice a1 n1 c1, .slice a2 n2 c2, .slice a3 n3 c3], .int .i64 0, .string ⟨#[120, 46, 121]⟩] w fun e w' => ∃ a c, e = .returned (.tuple #[.slice a 2 c, .int .i64 0]) ∧ IntsAt w' a [0, 1] ∧ Below w.heap.size w w' := by
  refine (posts_any officeP a1 a2 a3 n1 c1 n2 c2 n3 c3 0 kxy w hp).mono ?_
  rw [rt_facts.1]
  rintro e w' ⟨zs, a, c, rfl, h1, h2, h3, h4, h5⟩
  have : zs = [0, 1] := (h1 rfl).uniq posts_xy
  subst this
  exact ⟨a, c, rfl, h4, h5⟩
theorem o_queues {w : World} {a1 a2 a3 : Option Addr} {n1 n2 n3 : Nat} (c1 c2 c3 : Nat) (hp : PlanAt w a1 a2 a3 n1 n2 n3 officeP) : Calls Try.prog 34 #[.agg #[.slice a1 n1 c1, .slice a2 n2 c2, .slice a3 n3 c3], .int .i64 0, .string ⟨#[120, 46, 121]⟩] w fun e w' => ∃ a c, e = .returned (.tuple #[.slice a 2 c, .int .i64 0]) ∧ IntsAt w' a [0, 1] ∧ Below w.heap.size w w' := by
  refine (queues_any officeP a1 a2 a3 n1 c1 n2 c2 n3 c3 0 kxy w hp).mono ?_
  rw [rt_facts.1]
  rintro e w' ⟨zs, a, c, rfl, h1, h2, h3, h4, h5⟩
  have : zs = [0, 1] := (h1 rfl).uniq queues_xy
  subst this
  exact ⟨a, c, rfl, h4, h5⟩
theorem o_queuesz {w : World} {a1 a2 a3 : Option Addr} {n1 n2 n3 : Nat} (c1 c2 c3 : Nat) (hp : PlanAt w a1 a2 a3 n1 n2 n3 officeP) : Calls Try.prog 34 #[.agg #[.slice a1 n1 c1, .slice a2 n2 c2, .slice a3 n3 c3], .int .i64 1, .string ⟨#[122]⟩] w fun e w' => ∃ a c, e = .returned (.tuple #[.slice a 1 c, .int .i64 0]) ∧ IntsAt w' a [1] ∧ Below w.heap.size w w' := by
  refine (queues_any officeP a1 a2 a3 n1 c1 n2 c2 n3 c3 1 kz w hp).mono ?_
  rw [rt_facts.2.1]
  rintro e w' ⟨zs, a, c, rfl, h1, h2, h3, h4, h5⟩
  have : zs = [1] := (h1 rfl).uniq queues_z
  subst this
  exact ⟨a, c, rfl, h4, h5⟩
theorem o_queuesn {w : World} {a1 a2 a3 : Option Addr} {n1 n2 n3 : Nat} (c1 c2 c3 : Nat) (hp : PlanAt w a1 a2 a3 n1 n2 n3 officeP) : Calls Try.prog 34 #[.agg #[.slice a1 n1 c1, .slice a2 n2 c2, .slice a3 n3 c3], .int .i64 3, .string ⟨#[122]⟩] w fun e w' => ∃ a c, e = .returned (.tuple #[.slice a 0 c, .int .i64 5]) ∧ Below w.heap.size w w' := by
  refine (queues_any officeP a1 a2 a3 n1 c1 n2 c2 n3 c3 3 kz w hp).mono ?_
  rw [rt_facts.2.2.1]
  rintro e w' ⟨zs, a, c, rfl, h1, h2, h3, h4, h5⟩
  have : zs = [] := h2 (by decide)
  subst this
  exact ⟨a, c, rfl, h5⟩
theorem o_way1 {w : World} {a1 a2 a3 : Option Addr} {n1 n2 n3 : Nat} (c1 c2 c3 : Nat) (hp : PlanAt w a1 a2 a3 n1 n2 n3 officeP) : Calls Try.prog 40 #[.agg #[.slice a1 n1 c1, .slice a2 n2 c2, .slice a3 n3 c3], .int .i64 0, .string ⟨#[120, 46, 121]⟩, .int .i64 1] w fun e w' => ∃ a c, e = .returned (.tuple #[.slice a 2 c, .bool true, .int .i64 0]) ∧ IntsAt w' a [1, 2] ∧ Below w.heap.size w w' := by
  refine (way_any officeP a1 a2 a3 n1 c1 n2 c2 n3 c3 0 kxy 1 w hp).mono ?_
  rw [rt_facts.2.2.2.1]
  rintro e w' ⟨ns, is, u, rfl, h1, h2, h3, h4⟩
  have hi : is = true := by
    cases is with
    | true => rfl
    | false => exact absurd way_1.way ((h2 rfl).2 rfl _)
  subst hi
  have : ns = [1, 2] := (h1 rfl).2.uniq way_1
  subst this
  obtain ⟨g, c, rfl, -, -, -, h5⟩ := row_ints (zs := [1, 2]) h3 (by decide)
  exact ⟨_, c, rfl, h5.ints, h4⟩
theorem o_way2 {w : World} {a1 a2 a3 : Option Addr} {n1 n2 n3 : Nat} (c1 c2 c3 : Nat) (hp : PlanAt w a1 a2 a3 n1 n2 n3 officeP) : Calls Try.prog 40 #[.agg #[.slice a1 n1 c1, .slice a2 n2 c2, .slice a3 n3 c3], .int .i64 0, .string ⟨#[120, 46, 121]⟩, .int .i64 2] w fun e w' => ∃ u, e = .returned (.tuple #[u, .bool false, .int .i64 0]) ∧ Below w.heap.size w w' := by
  refine (way_any officeP a1 a2 a3 n1 c1 n2 c2 n3 c3 0 kxy 2 w hp).mono ?_
  rw [rt_facts.2.2.2.2]
  rintro e w' ⟨ns, is, u, rfl, h1, h2, h3, h4⟩
  have hi : is = false := by
    cases is with
    | false => rfl
    | true => exact absurd (h1 rfl).2.way (way_2 _)
  subst hi
  exact ⟨u, rfl, h4⟩
end Go.Proofs.Ythhkpgnjpieckaa
