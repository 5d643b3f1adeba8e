/- Plain: lines that rise; two letters pushed alike, whichever is first. -/
import Derived.Test.YthhkpgnjpieckaaLy2
namespace Go.Proofs.Ythhkpgnjpieckaa
set_option linter.unusedVariables false
set_option maxRecDepth 100000

theorem lineFrom_mk : ∀ {xs : List ItemD} {last : Int}, (∀ x ∈ xs, itemOk x = true ∧ last < x.seq) → xs.Pairwise (fun x y => x.seq < y.seq) → lineFrom last xs = true
  | [], last, _, _ => rfl
  | x :: r, last, h, hp => by
    obtain ⟨h1, h2⟩ := h x (by simp)
    obtain ⟨h3, h4⟩ := List.pairwise_cons.1 hp
    rw [lineFrom_yes h1 (by omega)]
    exact lineFrom_mk (fun y hy => ⟨(h y (by simp [hy])).1, h3 y hy⟩) h4
theorem lineFrom_items : ∀ {xs : List ItemD} {last : Int}, lineFrom last xs = true → ∀ x ∈ xs, itemOk x = true
  | [], last, _, x, hx => by simp at hx
  | y :: r, last, h, x, hx => by
    unfold lineFrom at h
    simp only [Bool.and_eq_true, decide_eq_true_eq] at h
    rcases List.mem_cons.1 hx with rfl | hx
    · exact h.1.1
    · exact lineFrom_items h.2 x hx
theorem lineOk_iff {xs : List ItemD} : lineOk xs = true ↔ (∀ x ∈ xs, itemOk x = true) ∧ xs.Pairwise (fun x y => x.seq < y.seq) :=
  ⟨fun h => ⟨lineFrom_items h, (lineFrom_rise h).1⟩, fun h => lineFrom_mk (fun x hx => ⟨h.1 x hx, by have := itemOk_seq (h.1 x hx); omega⟩) h.2⟩

theorem pushL_mem {xs : List ItemD} {x z : ItemD} : z ∈ pushL xs x ↔ z = x ∨ z ∈ xs := by
  unfold pushL
  simp only [List.mem_append, List.mem_singleton]
  have : z ∈ xs ↔ z ∈ xs.take (idxSeq x.seq xs) ∨ z ∈ xs.drop (idxSeq x.seq xs) := by
    conv => lhs; rw [← List.take_append_drop (idxSeq x.seq xs) xs]
    exact List.mem_append
  rw [this]
  constructor
  · rintro ((h | h) | h)
    · exact .inr (.inl h)
    · exact .inl h
    · exact .inr (.inr h)
  · rintro (h | h | h)
    · exact .inl (.inr h)
    · exact .inl (.inl h)
    · exact .inr h
theorem take_below {xs : List ItemD} {s : Int} : ∀ z ∈ xs.take (idxSeq s xs), z.seq < s := by
  intro z hz
  obtain ⟨j, hj, rfl⟩ := List.mem_iff_getElem.1 hz
  have hj' : j < idxSeq s xs := by rw [List.length_take] at hj; omega
  obtain ⟨h1, h2⟩ := idx_below hj'
  rw [List.getElem_take]; exact h2
theorem drop_above {xs : List ItemD} {s : Int} (hl : lineOk xs = true) (hh : pushHas s xs = false) : ∀ z ∈ xs.drop (idxSeq s xs), s < z.seq := by
  intro z hz
  obtain ⟨j, hj, rfl⟩ := List.mem_iff_getElem.1 hz
  rw [List.length_drop] at hj
  rw [List.getElem_drop]
  have h1 : idxSeq s xs < xs.length := by omega
  have h2 := idx_at (s := s) h1
  have h3 : xs[idxSeq s xs].seq ≠ s := by
    intro e
    have := has_yes hl h1 e
    rw [hh] at this; cases this
  rcases Nat.eq_zero_or_pos j with rfl | hj0
  · simp only [Nat.add_zero]; omega
  · have := lineOk_rise hl (i := idxSeq s xs) (j := idxSeq s xs + j) (by omega) (by omega)
    omega
theorem pushL_ok {xs : List ItemD} {x : ItemD} (hl : lineOk xs = true) (hx : itemOk x = true) (hh : pushHas x.seq xs = false) : lineOk (pushL xs x) = true := by
  obtain ⟨h1, h2⟩ := lineOk_iff.1 hl
  refine lineOk_iff.2 ⟨fun z hz => ?_, ?_⟩
  · rcases pushL_mem.1 hz with rfl | hz
    · exact hx
    · exact h1 z hz
  · unfold pushL
    rw [List.append_assoc, List.pairwise_append]
    refine ⟨h2.sublist (List.take_sublist _ _), ?_, ?_⟩
    · rw [List.singleton_append, List.pairwise_cons]
      exact ⟨drop_above hl hh, h2.sublist (List.drop_sublist _ _)⟩
    · intro a ha b hb
      have h3 := take_below a ha
      rcases List.mem_append.1 hb with hb | hb
      · simp at hb; subst hb; exact h3
      · have := drop_above hl hh b hb; omega
theorem has_iff {xs : List ItemD} {s : Int} (hl : lineOk xs = true) : pushHas s xs = true ↔ ∃ z ∈ xs, z.seq = s := by
  constructor
  · intro h
    unfold pushHas at h
    cases he : xs[idxSeq s xs]? with
    | none => rw [he] at h; simp at h
    | some z => rw [he] at h; exact ⟨z, List.mem_of_getElem? he, by simpa using h⟩
  · rintro ⟨z, hz, hs⟩
    obtain ⟨j, hj, rfl⟩ := List.mem_iff_getElem.1 hz
    exact has_yes hl hj hs
theorem rise_ext : ∀ {A B : List ItemD}, A.Pairwise (fun x y => x.seq < y.seq) → B.Pairwise (fun x y => x.seq < y.seq) → (∀ z, z ∈ A ↔ z ∈ B) → A = B
  | [], [], _, _, _ => rfl
  | [], b :: B, _, _, h => by have := (h b).2 (by simp); simp at this
  | a :: A, [], _, _, h => by have := (h a).1 (by simp); simp at this
  | a :: A, b :: B, hA, hB, h => by
    obtain ⟨a1, a2⟩ := List.pairwise_cons.1 hA
    obtain ⟨b1, b2⟩ := List.pairwise_cons.1 hB
    have e : a = b := by
      rcases List.mem_cons.1 ((h a).1 (by simp)) with e | e
      · exact e
      · rcases List.mem_cons.1 ((h b).2 (by simp)) with e' | e'
        · exact e'.symm
        · have := b1 a e; have := a1 b e'; omega
    subst e
    rw [rise_ext a2 b2 (fun z => ?_)]
    constructor
    · intro hz
      rcases List.mem_cons.1 ((h z).1 (by simp [hz])) with e | e
      · subst e; have := a1 z hz; omega
      · exact e
    · intro hz
      rcases List.mem_cons.1 ((h z).2 (by simp [hz])) with e | e
      · subst e; have := b1 z hz; omega
      · exact e

theorem push_zero {xs : List ItemD} {x : ItemD} (h : pushE xs x = 0) : lineOk xs = true ∧ itemOk x = true ∧ pushHas x.seq xs = false := by
  unfold pushE at h
  cases hl : lineOk xs with
  | false => rw [hl] at h; simp at h
  | true =>
    rw [hl] at h
    cases hr : itemOk x with
    | false => rw [hr] at h; simp at h
    | true =>
      rw [hr] at h
      cases hh : pushHas x.seq xs with
      | true => rw [hh] at h; simp at h
      | false => exact ⟨rfl, rfl, rfl⟩
/-- Two letters are pushed alike, whichever is first. -/
theorem push_two {xs : List ItemD} {x y : ItemD} (hx : pushE xs x = 0) (hy : pushE xs y = 0) :
    pushE (pushV xs x) y = pushE (pushV xs y) x ∧ pushV (pushV xs x) y = pushV (pushV xs y) x := by
  obtain ⟨hl, ox, nx⟩ := push_zero hx
  obtain ⟨_, oy, ny⟩ := push_zero hy
  have e1 : pushV xs x = pushL xs x := by unfold pushV; rw [if_pos hx]
  have e2 : pushV xs y = pushL xs y := by unfold pushV; rw [if_pos hy]
  rw [e1, e2]
  have l1 := pushL_ok hl ox nx
  have l2 := pushL_ok hl oy ny
  by_cases hs : x.seq = y.seq
  · have p1 : pushE (pushL xs x) y = 6 := by
      unfold pushE; rw [l1, oy, (has_iff l1).2 ⟨x, pushL_mem.2 (.inl rfl), hs⟩]; rfl
    have p2 : pushE (pushL xs y) x = 6 := by
      unfold pushE; rw [l2, ox, (has_iff l2).2 ⟨y, pushL_mem.2 (.inl rfl), hs.symm⟩]; rfl
    exact ⟨by rw [p1, p2], by unfold pushV; rw [if_neg (by rw [p1]; decide), if_neg (by rw [p2]; decide)]⟩
  · have n1 : pushHas y.seq (pushL xs x) = false := by
      cases h : pushHas y.seq (pushL xs x) with
      | false => rfl
      | true =>
        obtain ⟨z, hz, e⟩ := (has_iff l1).1 h
        rcases pushL_mem.1 hz with rfl | hz
        · exact absurd e hs
        · rw [(has_iff hl).2 ⟨z, hz, e⟩] at ny; cases ny
    have n2 : pushHas x.seq (pushL xs y) = false := by
      cases h : pushHas x.seq (pushL xs y) with
      | false => rfl
      | true =>
        obtain ⟨z, hz, e⟩ := (has_iff l2).1 h
        rcases pushL_mem.1 hz with rfl | hz
        · exact absurd e.symm hs
        · rw [(has_iff hl).2 ⟨z, hz, e⟩] at nx; cases nx
    have p1 : pushE (pushL xs x) y = 0 := by unfold pushE; rw [l1, oy, n1]; rfl
    have p2 : pushE (pushL xs y) x = 0 := by unfold pushE; rw [l2, ox, n2]; rfl
    refine ⟨by rw [p1, p2], ?_⟩
    unfold pushV
    rw [if_pos p1, if_pos p2]
    refine rise_ext (lineOk_iff.1 (pushL_ok l1 oy n1)).2 (lineOk_iff.1 (pushL_ok l2 ox n2)).2 (fun z => ?_)
    rw [pushL_mem, pushL_mem, pushL_mem, pushL_mem]
    constructor
    · rintro (h | h | h)
      · exact .inr (.inl h)
      · exact .inl h
      · exact .inr (.inr h)
    · rintro (h | h | h)
      · exact .inr (.inl h)
      · exact .inl h
      · exact .inr (.inr h)
end Go.Proofs.Ythhkpgnjpieckaa
