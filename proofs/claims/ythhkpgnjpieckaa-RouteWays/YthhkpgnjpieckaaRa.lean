/- Plain mathematics of routes: ways in their order (shorter first, of one length the lesser first), the posts that are come to, each by its least way. No Go. -/
namespace Go.Proofs.Ythhkpgnjpieckaa
set_option linter.unusedVariables false
set_option maxRecDepth 100000

/-- Of two ways of one length: the lesser. -/
def Llt : List Nat → List Nat → Prop
  | [], _ => False
  | _ :: _, [] => False
  | a :: r, b :: s => a < b ∨ (a = b ∧ Llt r s)
theorem Llt_irr : ∀ s : List Nat, ¬ Llt s s
  | [], h => h
  | a :: r, h => by
    rcases h with h | ⟨_, h⟩
    · omega
    · exact Llt_irr r h
theorem Llt_trans : ∀ {s t u : List Nat}, Llt s t → Llt t u → Llt s u
  | [], _, _, h, _ => h.elim
  | _ :: _, [], _, h, _ => h.elim
  | _ :: _, _ :: _, [], _, k => k.elim
  | a :: r, b :: s, c :: t, h, k => by
    rcases h with h | ⟨rfl, h⟩
    · rcases k with k | ⟨rfl, k⟩
      · exact .inl (by omega)
      · exact .inl h
    · rcases k with k | ⟨rfl, k⟩
      · exact .inl k
      · exact .inr ⟨rfl, Llt_trans h k⟩
theorem Llt_tri : ∀ {s t : List Nat}, s.length = t.length → Llt s t ∨ s = t ∨ Llt t s
  | [], [], _ => .inr (.inl rfl)
  | [], _ :: _, h => by simp at h
  | _ :: _, [], h => by simp at h
  | a :: r, b :: s, h => by
    rcases Nat.lt_trichotomy a b with h1 | rfl | h1
    · exact .inl (.inl h1)
    · rcases Llt_tri (s := r) (t := s) (by simpa using h) with h2 | rfl | h2
      · exact .inl (.inr ⟨rfl, h2⟩)
      · exact .inr (.inl rfl)
      · exact .inr (.inr (.inr ⟨rfl, h2⟩))
    · exact .inr (.inr (.inl h1))
theorem Llt_snoc : ∀ {s t : List Nat} {n m : Nat}, s.length = t.length → (Llt (s ++ [n]) (t ++ [m]) ↔ Llt s t ∨ (s = t ∧ n < m))
  | [], [], n, m, _ => by simp [Llt]
  | [], _ :: _, _, _, h => by simp at h
  | _ :: _, [], _, _, h => by simp at h
  | a :: r, b :: s, n, m, hl => by
    have ih := Llt_snoc (s := r) (t := s) (n := n) (m := m) (by simpa using hl)
    simp only [List.cons_append, Llt, ih, List.cons.injEq]
    constructor
    · rintro (h | ⟨h1, h | ⟨h2, h⟩⟩)
      · exact .inl (.inl h)
      · exact .inl (.inr ⟨h1, h⟩)
      · exact .inr ⟨⟨h1, h2⟩, h⟩
    · rintro ((h | ⟨h1, h⟩) | ⟨⟨h1, h2⟩, h⟩)
      · exact .inl h
      · exact .inr ⟨h1, .inl h⟩
      · exact .inr ⟨h1, .inr ⟨h2, h⟩⟩

/-- The lesser of two ways. -/
def Slt (s t : List Nat) : Prop := s.length < t.length ∨ (s.length = t.length ∧ Llt s t)
theorem Slt_irr (s : List Nat) : ¬ Slt s s := by
  rintro (h | ⟨_, h⟩)
  · omega
  · exact Llt_irr s h
theorem Slt_trans {s t u : List Nat} (h : Slt s t) (k : Slt t u) : Slt s u := by
  rcases h with h | ⟨h1, h⟩ <;> rcases k with k | ⟨k1, k⟩
  · exact .inl (by omega)
  · exact .inl (by omega)
  · exact .inl (by omega)
  · exact .inr ⟨by omega, Llt_trans h k⟩
theorem Slt_tri (s t : List Nat) : Slt s t ∨ s = t ∨ Slt t s := by
  rcases Nat.lt_trichotomy s.length t.length with h | h | h
  · exact .inl (.inl h)
  · rcases Llt_tri h with k | k | k
    · exact .inl (.inr ⟨h, k⟩)
    · exact .inr (.inl k)
    · exact .inr (.inr (.inr ⟨h.symm, k⟩))
  · exact .inr (.inr (.inl h))
theorem Slt_snoc {s t : List Nat} {n m : Nat} : Slt (s ++ [n]) (t ++ [m]) ↔ Slt s t ∨ (s = t ∧ n < m) := by
  unfold Slt
  simp only [List.length_append, List.length_cons, List.length_nil]
  constructor
  · rintro (h | ⟨h, k⟩)
    · exact .inl (.inl (by omega))
    · rcases (Llt_snoc (by omega)).1 k with k | k
      · exact .inl (.inr ⟨by omega, k⟩)
      · exact .inr k
  · rintro ((h | ⟨h, k⟩) | ⟨rfl, h⟩)
    · exact .inl (by omega)
    · exact .inr ⟨by omega, (Llt_snoc h).2 (.inl k)⟩
    · exact .inr ⟨rfl, (Llt_snoc rfl).2 (.inr ⟨rfl, h⟩)⟩
theorem Slt_nil {t : List Nat} {m : Nat} : Slt [] (t ++ [m]) := .inl (by simp)

/-- A way over posts, from r on: its binds, and where it ends. 'A n = some (u, v)': bind n leads from the post u to the post v. -/
inductive Path (A : Nat → Option (Nat × Nat)) (r : Nat) : List Nat → Nat → Prop
  | nil : Path A r [] r
  | snoc {s : List Nat} {u n v : Nat} : Path A r s u → A n = some (u, v) → Path A r (s ++ [n]) v

theorem Path.inv {A : Nat → Option (Nat × Nat)} {r v : Nat} {s : List Nat} (h : Path A r s v) : (s = [] ∧ v = r) ∨ ∃ s' u n, s = s' ++ [n] ∧ Path A r s' u ∧ A n = some (u, v) := by
  cases h with
  | nil => exact .inl ⟨rfl, rfl⟩
  | snoc h1 h2 => exact .inr ⟨_, _, _, rfl, h1, h2⟩
theorem Path.inv_snoc {A : Nat → Option (Nat × Nat)} {r v n : Nat} {s : List Nat} (h : Path A r (s ++ [n]) v) : ∃ u, Path A r s u ∧ A n = some (u, v) := by
  rcases h.inv with ⟨h1, _⟩ | ⟨s', u, m, h1, h2, h3⟩
  · simp at h1
  · have := List.append_inj' h1 rfl
    simp at this
    obtain ⟨rfl, rfl⟩ := this
    exact ⟨u, h2, h3⟩

/-- The posts so far with their ways. -/
abbrev Trails := List (Nat × List Nat)
def tstep (A : Nat → Option (Nat × Nat)) (u : Nat) (t : List Nat) (L : Trails) (n : Nat) : Trails :=
  match A n with
  | some (u', v) => if u' = u ∧ v ∉ L.map Prod.fst then L ++ [(v, t ++ [n])] else L
  | none => L

/-- How far it has come: all posts ahead of i have been gone on from, and l[i] by its binds below n. -/
structure Came (A : Nat → Option (Nat × Nat)) (r : Nat) (L : Trails) (i n : Nat) : Prop where
  first : L[0]? = some (r, [])
  once : (L.map Prod.fst).Nodup
  path : ∀ x ∈ L, Path A r x.2 x.1
  prev : ∀ x ∈ L, x.2 = [] ∨ ∃ y ∈ L, ∃ m, x.2 = y.2 ++ [m]
  rise : L.Pairwise (fun x y => Slt x.2 y.2)
  least : ∀ x ∈ L, ∀ s, Path A r s x.1 → ¬ Slt s x.2
  shut : ∀ j (hj : j < L.length) m v, A m = some (L[j].1, v) → (j < i ∨ (j = i ∧ m < n)) → v ∈ L.map Prod.fst
  all : ∀ (hi : i < L.length) s v, Path A r s v → Slt s (L[i].2 ++ [n]) → v ∈ L.map Prod.fst
  below : ∀ (hi : i < L.length), ∀ x ∈ L, Slt x.2 (L[i].2 ++ [n])

theorem Came.start (A : Nat → Option (Nat × Nat)) (r : Nat) : Came A r [(r, [])] 0 0 where
  first := rfl
  once := by simp
  path := by intro x hx; simp at hx; subst hx; exact .nil
  prev := by intro x hx; simp at hx; subst hx; exact .inl rfl
  rise := by simp
  least := by
    intro x hx s _ h; simp at hx; subst hx
    rcases h with h | ⟨h, k⟩
    · simp at h
    · cases s <;> simp at h k; exact k
  shut := by intro j hj m v _ h; omega
  all := by
    intro hi s v hp h
    rcases hp.inv with ⟨rfl, rfl⟩ | ⟨s', u, m, rfl, _, _⟩
    · simp
    · rcases Slt_snoc.1 h with h | ⟨_, h⟩
      · rcases h with h | ⟨h, k⟩
        · simp at h
        · cases s' <;> simp at h k; exact k.elim
      · omega
  below := by intro hi x hx; simp at hx; subst hx; exact Slt_nil

theorem mem_get {L : Trails} {x : Nat × List Nat} (h : x ∈ L) : ∃ j, ∃ hj : j < L.length, L[j] = x := List.mem_iff_getElem.1 h

theorem Path_end {A : Nat → Option (Nat × Nat)} {r u v : Nat} {s : List Nat} (h : Path A r s u) (k : Path A r s v) : u = v := by
  rcases h.inv with ⟨rfl, rfl⟩ | ⟨s', x, n, rfl, _, h3⟩
  · rcases k.inv with ⟨_, rfl⟩ | ⟨s', x, n, h1, _, _⟩
    · rfl
    · simp at h1
  · obtain ⟨y, _, h4⟩ := k.inv_snoc
    rw [h3] at h4; simp at h4; exact h4.2

/-- One bind more of l[i]. -/
theorem Came.step {A : Nat → Option (Nat × Nat)} {r : Nat} {L : Trails} {i n : Nat} (h : Came A r L i n) (hi : i < L.length) : Came A r (tstep A L[i].1 L[i].2 L n) i (n + 1) ∧ (tstep A L[i].1 L[i].2 L n)[i]? = some L[i] := by
  have ends : ∀ {s : List Nat} {u : Nat}, Path A r s u → s = L[i].2 → u = L[i].1 := fun h1 e => by subst e; exact Path_end h1 (h.path _ (List.getElem_mem hi))
  have same : (∀ v, A n = some (L[i].1, v) → v ∈ L.map Prod.fst) → Came A r L i (n + 1) := by
    intro hv
    refine ⟨h.first, h.once, h.path, h.prev, h.rise, h.least, ?_, ?_, ?_⟩
    · intro j hj m v hA hm
      by_cases e : j = i ∧ m = n
      · obtain ⟨rfl, rfl⟩ := e; exact hv v hA
      · exact h.shut j hj m v hA (by omega)
    · intro hi' s v hp hs
      rcases hp.inv with ⟨rfl, rfl⟩ | ⟨s', u, m, rfl, h1, h2⟩
      · exact h.all hi' [] _ .nil Slt_nil
      · rcases Slt_snoc.1 hs with h3 | ⟨h3, h4⟩
        · exact h.all hi' _ v hp (Slt_snoc.2 (.inl h3))
        · by_cases e : m < n
          · exact h.all hi' _ v hp (Slt_snoc.2 (.inr ⟨h3, e⟩))
          · have e2 : m = n := by omega
            rw [ends h1 h3, e2] at h2
            exact hv v h2
    · intro hi' x hx
      exact Slt_trans (h.below hi' x hx) (Slt_snoc.2 (.inr ⟨rfl, by omega⟩))
  unfold tstep
  cases hA : A n with
  | none =>
    exact ⟨same (fun v hv => by rw [hA] at hv; cases hv), List.getElem?_eq_getElem hi⟩
  | some p =>
    obtain ⟨u', v⟩ := p
    dsimp only
    by_cases hc : u' = L[i].1 ∧ v ∉ L.map Prod.fst
    · rw [if_pos hc]
      obtain ⟨rfl, hv⟩ := hc
      have hpos : 0 < L.length := by omega
      have hget : ∀ j (hj : j < L.length), (L ++ [(v, L[i].2 ++ [n])])[j]'(by simp; omega) = L[j] := fun j hj => List.getElem_append_left hj
      have hold : ∀ {x : Nat}, x ∈ L.map Prod.fst → x ∈ (L ++ [(v, L[i].2 ++ [n])]).map Prod.fst := fun hx => by simp only [List.map_append, List.mem_append]; exact .inl hx
      have hnew : v ∈ (L ++ [(v, L[i].2 ++ [n])]).map Prod.fst := by simp
      refine ⟨⟨?_, ?_, ?_, ?_, ?_, ?_, ?_, ?_, ?_⟩, by rw [List.getElem?_append_left hi]; exact List.getElem?_eq_getElem hi⟩
      · rw [List.getElem?_append_left hpos]; exact h.first
      · rw [List.map_append, List.nodup_append]
        refine ⟨h.once, by simp, ?_⟩
        intro a ha b hb e
        simp at hb; subst hb; subst e; exact hv ha
      · intro x hx
        rcases List.mem_append.1 hx with hx | hx
        · exact h.path x hx
        · simp at hx; subst hx; exact .snoc (h.path _ (List.getElem_mem hi)) hA
      · intro x hx
        rcases List.mem_append.1 hx with hx | hx
        · rcases h.prev x hx with e | ⟨y, hy, m, e⟩
          · exact .inl e
          · exact .inr ⟨y, List.mem_append.2 (.inl hy), m, e⟩
        · simp at hx; subst hx; exact .inr ⟨L[i], List.mem_append.2 (.inl (List.getElem_mem hi)), n, rfl⟩
      · rw [List.pairwise_append]
        refine ⟨h.rise, by simp, ?_⟩
        intro a ha b hb
        simp at hb; subst hb; exact h.below hi a ha
      · intro x hx s hp hs
        rcases List.mem_append.1 hx with hx | hx
        · exact h.least x hx s hp hs
        · simp at hx; subst hx; exact hv (h.all hi s v hp hs)
      · intro j hj m v' hA' hm
        have hj' : j < L.length := by omega
        rw [hget j hj'] at hA'
        by_cases e : j = i ∧ m = n
        · obtain ⟨rfl, rfl⟩ := e; rw [hA] at hA'; simp at hA'; rw [← hA']; exact hnew
        · exact hold (h.shut j hj' m v' hA' (by omega))
      · intro hi' s v' hp hs
        rw [hget i hi] at hs
        rcases hp.inv with ⟨rfl, rfl⟩ | ⟨s', u, m, rfl, h1, h2⟩
        · exact hold (h.all hi [] _ .nil Slt_nil)
        · rcases Slt_snoc.1 hs with h3 | ⟨h3, h4⟩
          · exact hold (h.all hi _ v' hp (Slt_snoc.2 (.inl h3)))
          · by_cases e : m < n
            · exact hold (h.all hi _ v' hp (Slt_snoc.2 (.inr ⟨h3, e⟩)))
            · have e2 : m = n := by omega
              rw [ends h1 h3, e2, hA] at h2
              simp at h2; rw [← h2]; exact hnew
      · intro hi' x hx
        rw [hget i hi]
        rcases List.mem_append.1 hx with hx | hx
        · exact Slt_trans (h.below hi x hx) (Slt_snoc.2 (.inr ⟨rfl, by omega⟩))
        · simp at hx; subst hx; exact Slt_snoc.2 (.inr ⟨rfl, by omega⟩)
    · rw [if_neg hc]
      refine ⟨same (fun v' hv => ?_), List.getElem?_eq_getElem hi⟩
      rw [hA] at hv; simp at hv
      obtain ⟨rfl, rfl⟩ := hv
      exact Classical.not_not.1 (fun hn => hc ⟨rfl, hn⟩)

/-- All binds of l[i]. -/
def tround (A : Nat → Option (Nat × Nat)) (nb : Nat) (x : Nat × List Nat) (L : Trails) : Trails := (List.range nb).foldl (tstep A x.1 x.2) L
theorem Came.steps {A : Nat → Option (Nat × Nat)} {r : Nat} {L : Trails} {i : Nat} (h : Came A r L i 0) (hi : i < L.length) : ∀ nb, Came A r (tround A nb L[i] L) i nb ∧ (tround A nb L[i] L)[i]? = some L[i]
  | 0 => ⟨h, List.getElem?_eq_getElem hi⟩
  | nb + 1 => by
    obtain ⟨h1, h2⟩ := h.steps hi nb
    unfold tround at h1 h2 ⊢
    rw [List.range_succ, List.foldl_append, List.foldl_cons, List.foldl_nil]
    obtain ⟨hi', e⟩ := List.getElem?_eq_some_iff.1 h2
    have := h1.step hi'
    rw [e] at this
    exact this

/-- All of l[i]'s binds are done: on to the next post. -/
theorem Came.next {A : Nat → Option (Nat × Nat)} {r : Nat} {L : Trails} {i nb : Nat} (h : Came A r L i nb) (hi : i < L.length) (hnb : ∀ m p, A m = some p → m < nb) : Came A r L (i + 1) 0 where
  first := h.first
  once := h.once
  path := h.path
  prev := h.prev
  rise := h.rise
  least := h.least
  shut := by
    intro j hj m v hA hm
    have := hnb m _ hA
    exact h.shut j hj m v hA (by omega)
  all := by
    intro hi' s v hp hs
    rcases hp.inv with ⟨rfl, rfl⟩ | ⟨s', u, m, rfl, h1, h2⟩
    · exact h.all hi [] _ .nil Slt_nil
    · rcases Slt_snoc.1 hs with h3 | ⟨_, h4⟩
      · have hu := h.all hi s' u h1 (Slt_trans h3 (h.below hi _ (List.getElem_mem hi')))
        obtain ⟨x, hx, rfl⟩ := List.mem_map.1 hu
        obtain ⟨j, hj, rfl⟩ := mem_get hx
        have hl := h.least _ hx s' h1
        have hji : j < i + 1 := by
          rcases Nat.lt_or_ge j (i + 1) with h | h5
          · exact h
          · exfalso
            rcases Nat.eq_or_lt_of_le h5 with e | e
            · subst e; exact hl h3
            · exact hl (Slt_trans h3 (List.pairwise_iff_getElem.1 h.rise _ _ hi' hj e))
        exact h.shut j hj m v h2 (by have := hnb m _ h2; omega)
      · omega
  below := by
    intro hi' x hx
    rcases h.prev x hx with e | ⟨y, hy, m, e⟩
    · rw [e]; exact Slt_nil
    · have h1 := h.below hi x hx
      rw [e] at h1 ⊢
      have h2 := List.pairwise_iff_getElem.1 h.rise i (i + 1) hi hi' (by omega)
      rcases Slt_snoc.1 h1 with h3 | ⟨h3, _⟩
      · exact Slt_snoc.2 (.inl (Slt_trans h3 h2))
      · rw [h3]; exact Slt_snoc.2 (.inl h2)

/-- The posts as they are found. -/
inductive Reached (A : Nat → Option (Nat × Nat)) (nb r : Nat) : Trails → Nat → Prop
  | start : Reached A nb r [(r, [])] 0
  | next {L : Trails} {i : Nat} (h : Reached A nb r L i) (hi : i < L.length) : Reached A nb r (tround A nb L[i] L) (i + 1)
theorem Reached.came {A : Nat → Option (Nat × Nat)} {nb r : Nat} (hnb : ∀ m p, A m = some p → m < nb) {L : Trails} {i : Nat} (h : Reached A nb r L i) : Came A r L i 0 ∧ i ≤ L.length := by
  induction h with
  | start => exact ⟨Came.start A r, by simp⟩
  | next h hi ih =>
    obtain ⟨h1, h2⟩ := ih.1.steps hi nb
    obtain ⟨hi', _⟩ := List.getElem?_eq_some_iff.1 h2
    exact ⟨h1.next hi' hnb, by omega⟩

theorem nodup_le : ∀ (n : Nat) (l : List Nat), l.Nodup → (∀ x ∈ l, x < n) → l.length ≤ n
  | 0, l, _, h => by
    cases l with
    | nil => simp
    | cons x r => have := h x (by simp); omega
  | n + 1, l, hn, h => by
    by_cases hm : n ∈ l
    · have := nodup_le n (l.erase n) (hn.erase n) (fun x hx => by
        have h1 := (hn.mem_erase_iff).1 hx
        have := h x h1.2
        have := h1.1
        omega)
      rw [List.length_erase_of_mem hm] at this
      omega
    · have := nodup_le n l hn (fun x hx => by
        have := h x hx
        have : x ≠ n := fun e => hm (e ▸ hx)
        omega)
      omega

/-- What there is once all are found. -/
structure Found (A : Nat → Option (Nat × Nat)) (r : Nat) (L : Trails) : Prop where
  came : ∃ i, L.length ≤ i ∧ Came A r L i 0
theorem Reached.found {A : Nat → Option (Nat × Nat)} {nb r : Nat} (hnb : ∀ m p, A m = some p → m < nb) {L : Trails} {i : Nat} (h : Reached A nb r L i) (hi : ¬ i < L.length) : Found A r L := ⟨i, by omega, (h.came hnb).1⟩
theorem Found.all {A : Nat → Option (Nat × Nat)} {r : Nat} {L : Trails} (h : Found A r L) {s : List Nat} {v : Nat} (hp : Path A r s v) : v ∈ L.map Prod.fst := by
  obtain ⟨i, hi, h⟩ := h
  induction hp with
  | nil => have := h.first; exact List.mem_map.2 ⟨(r, []), List.mem_of_getElem? this, rfl⟩
  | snoc h1 h2 ih =>
    obtain ⟨x, hx, rfl⟩ := List.mem_map.1 ih
    obtain ⟨j, hj, rfl⟩ := mem_get hx
    exact h.shut j hj _ _ h2 (by omega)
theorem Found.mem {A : Nat → Option (Nat × Nat)} {r : Nat} {L : Trails} (h : Found A r L) {v : Nat} : v ∈ L.map Prod.fst ↔ ∃ s, Path A r s v := by
  constructor
  · intro hv
    obtain ⟨x, hx, rfl⟩ := List.mem_map.1 hv
    obtain ⟨i, hi, h⟩ := h
    exact ⟨_, h.path x hx⟩
  · rintro ⟨s, hs⟩; exact h.all hs
theorem Came.short {A : Nat → Option (Nat × Nat)} {r : Nat} {L : Trails} {i n : Nat} (h : Came A r L i n) : ∀ (k j : Nat) (hj : j < L.length), j < k → L[j].2.length ≤ j
  | 0, j, hj, hk => by omega
  | k + 1, j, hj, hk => by
    rcases h.prev _ (List.getElem_mem hj) with e | ⟨y, hy, m, e⟩
    · rw [e]; simp
    · obtain ⟨j', hj', rfl⟩ := mem_get hy
      have hlt : j' < j := by
        rcases Nat.lt_trichotomy j' j with h1 | h1 | h1
        · exact h1
        · subst h1; have := congrArg List.length e; simp at this
        · exfalso
          have := List.pairwise_iff_getElem.1 h.rise j j' hj hj' h1
          rw [e] at this
          rcases this with h2 | ⟨h2, _⟩ <;> simp at h2
          omega
      have := h.short k j' hj' (by omega)
      rw [e]; simp; omega

/-- A way to a queue. 'F m = some u': bind m leads from the post u to the queue. -/
def Way (A : Nat → Option (Nat × Nat)) (F : Nat → Option Nat) (r : Nat) (s : List Nat) : Prop := ∃ s' u m, s = s' ++ [m] ∧ Path A r s' u ∧ F m = some u

theorem Found.least {A : Nat → Option (Nat × Nat)} {F : Nat → Option Nat} {r : Nat} {L : Trails} (h : Found A r L) {j m : Nat} (hj : j < L.length) (hF : F m = some L[j].1)
    (hno : ∀ j' (hj' : j' < j) m', F m' ≠ some L[j'].1) (hm : ∀ m', m' < m → F m' ≠ some L[j].1) : Way A F r (L[j].2 ++ [m]) ∧ (∀ t, Way A F r t → ¬ Slt t (L[j].2 ++ [m])) ∧ (L[j].2 ++ [m]).length ≤ L.length := by
  obtain ⟨i, hi, hc⟩ := h.came
  refine ⟨⟨_, _, m, rfl, hc.path _ (List.getElem_mem hj), hF⟩, ?_, ?_⟩
  · rintro t ⟨s, u, m', rfl, hp, hF'⟩ hs
    have hu := h.all hp
    obtain ⟨x, hx, rfl⟩ := List.mem_map.1 hu
    obtain ⟨j', hj', rfl⟩ := mem_get hx
    have hl := hc.least _ hx s hp
    have hge : j ≤ j' := by
      rcases Nat.lt_or_ge j' j with h1 | h1
      · exact absurd hF' (hno j' h1 m')
      · exact h1
    rcases Nat.eq_or_lt_of_le hge with e | e
    · subst e
      rcases Slt_snoc.1 hs with h1 | ⟨_, h1⟩
      · exact hl h1
      · exact hm m' h1 hF'
    · have h2 := List.pairwise_iff_getElem.1 hc.rise j j' hj hj' e
      rcases Slt_snoc.1 hs with h1 | ⟨h1, _⟩
      · exact hl (Slt_trans h1 h2)
      · rw [h1] at hl; exact hl h2
  · have := hc.short (j + 1) j hj (by omega)
    simp; omega
theorem Found.none {A : Nat → Option (Nat × Nat)} {F : Nat → Option Nat} {r : Nat} {L : Trails} (h : Found A r L) (hno : ∀ j (hj : j < L.length) m, F m ≠ some L[j].1) (t : List Nat) : ¬ Way A F r t := by
  rintro ⟨s, u, m, rfl, hp, hF⟩
  obtain ⟨x, hx, rfl⟩ := List.mem_map.1 (h.all hp)
  obtain ⟨j, hj, rfl⟩ := mem_get hx
  exact hno j hj m hF
end Go.Proofs.Ythhkpgnjpieckaa
