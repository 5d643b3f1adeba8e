/- What wayBy of the reference does, plain: the least way of so many binds. -/
import Derived.Test.YthhkpgnjpieckaaSe
namespace Go.Proofs.Ythhkpgnjpieckaa
set_option linter.unusedVariables false
set_option maxRecDepth 100000
open Go.RowKit Go.Maps

theorem path_cons {A : Nat → Option (Nat × Nat)} {r u x n : Nat} {s : List Nat} (h : A n = some (r, u)) (hp : Path A u s x) : Path A r (n :: s) x := by
  induction hp with
  | nil => exact Path.snoc (s := []) .nil h
  | @snoc s y m z _ h2 ih => exact Path.snoc (s := n :: s) ih h2
theorem path_uncons {A : Nat → Option (Nat × Nat)} {r x : Nat} {t : List Nat} (hp : Path A r t x) : ∀ {n s}, t = n :: s → ∃ u, A n = some (r, u) ∧ Path A u s x := by
  induction hp with
  | nil => intro n s e; cases e
  | @snoc t' y m z h1 h2 ih =>
    intro n s e
    cases t' with
    | nil =>
      simp at e
      obtain ⟨rfl, rfl⟩ := e
      rcases h1.inv with ⟨_, rfl⟩ | ⟨_, _, _, e, _, _⟩
      · exact ⟨z, h2, .nil⟩
      · simp at e
    | cons a t'' =>
      simp at e
      obtain ⟨rfl, rfl⟩ := e
      obtain ⟨u, hu, hp⟩ := ih rfl
      exact ⟨u, hu, .snoc hp h2⟩
theorem way_one {A : Nat → Option (Nat × Nat)} {F : Nat → Option Nat} {r m : Nat} : Way A F r [m] ↔ F m = some r := by
  constructor
  · rintro ⟨s, u, n, e, hp, hF⟩
    have := List.append_inj' (show ([] : List Nat) ++ [m] = s ++ [n] from e) rfl
    simp at this
    obtain ⟨rfl, rfl⟩ := this
    rcases hp.inv with ⟨_, rfl⟩ | ⟨_, _, _, e, _, _⟩
    · exact hF
    · simp at e
  · intro h; exact ⟨[], r, m, rfl, .nil, h⟩
theorem way_cons {A : Nat → Option (Nat × Nat)} {F : Nat → Option Nat} {r n : Nat} {s : List Nat} (hs : s ≠ []) : Way A F r (n :: s) ↔ ∃ u, A n = some (r, u) ∧ Way A F u s := by
  constructor
  · rintro ⟨t, u, m, e, hp, hF⟩
    cases t with
    | nil => simp at e; exact absurd e.2 hs
    | cons a t =>
      simp at e
      obtain ⟨rfl, rfl⟩ := e
      obtain ⟨y, hy, hp'⟩ := path_uncons hp rfl
      exact ⟨y, hy, t, u, m, rfl, hp', hF⟩
  · rintro ⟨u, hu, t, y, m, rfl, hp, hF⟩
    exact ⟨n :: t, y, m, rfl, path_cons hu hp, hF⟩
theorem way_ne {A : Nat → Option (Nat × Nat)} {F : Nat → Option Nat} {r : Nat} {s : List Nat} (h : Way A F r s) : s ≠ [] := by
  obtain ⟨t, u, m, rfl, _, _⟩ := h; simp

/-- The first of them that gives something. -/
def firstTo (f : Nat → Option (List Nat)) : Nat → Option (List Nat)
  | 0 => none
  | k + 1 => match firstTo f k with | some l => some l | none => f k
theorem firstTo_some {f : Nat → Option (List Nat)} : ∀ {k : Nat} {l : List Nat}, firstTo f k = some l → ∃ n, n < k ∧ f n = some l ∧ ∀ m, m < n → f m = none
  | 0, l, h => by cases h
  | k + 1, l, h => by
    unfold firstTo at h
    cases hf : firstTo f k with
    | some l' =>
      rw [hf] at h; simp at h; subst h
      obtain ⟨n, h1, h2, h3⟩ := firstTo_some hf
      exact ⟨n, by omega, h2, h3⟩
    | none =>
      rw [hf] at h
      exact ⟨k, by omega, h, fun m hm => firstTo_none hf m hm⟩
where firstTo_none {f : Nat → Option (List Nat)} : ∀ {k : Nat}, firstTo f k = none → ∀ m, m < k → f m = none
  | 0, _, m, hm => by omega
  | k + 1, h, m, hm => by
    unfold firstTo at h
    cases hf : firstTo f k with
    | some l' => rw [hf] at h; cases h
    | none =>
      rw [hf] at h
      by_cases e : m = k
      · subst e; exact h
      · exact firstTo_none hf m (by omega)
theorem firstTo_no {f : Nat → Option (List Nat)} {k : Nat} (h : firstTo f k = none) : ∀ m, m < k → f m = none := firstTo_some.firstTo_none h

/-- By bind k from the post v, so many binds in all. -/
def wayK (p : PlanD) (key : ByteArray) (q : Int) (rec : Int → Option (List Nat)) (n : Nat) (v : Int) (k : Nat) : Option (List Nat) :=
  if (bAt p k).src = v ∧ fitP p k key = true then
    (if n = 0 ∧ toQ p q k = true then some [k] else if 0 < n ∧ (bAt p k).toPost = true then (rec (bAt p k).dst).map (k :: ·) else none)
  else none
/-- The least way of just n binds. -/
def wayF (p : PlanD) (key : ByteArray) (q : Int) : Nat → Int → Option (List Nat)
  | 0, _ => none
  | n + 1, v => firstTo (wayK p key q (wayF p key q n) n v) p.binds.length
theorem wayF_spec {p : PlanD} {key : ByteArray} {q : Int} (hr : RightP p) : ∀ (n : Nat) (v : Nat), (∀ s, wayF p key q n (v : Int) = some s → s.length = n ∧ Way (arcOf p key) (finOf p key q) v s ∧ ∀ t, t.length = n → Way (arcOf p key) (finOf p key q) v t → ¬ Llt t s) ∧ (wayF p key q n (v : Int) = none → ∀ t, t.length = n → ¬ Way (arcOf p key) (finOf p key q) v t)
  | 0, v => ⟨fun s h => (nomatch h), fun _ t ht h => way_ne h (List.length_eq_zero_iff.1 ht)⟩
  | n + 1, v => by
    have ih := wayF_spec (key := key) (q := q) hr n
    have key1 : ∀ k, k < p.binds.length → (∀ s, wayK p key q (wayF p key q n) n (v : Int) k = some s → s.length = n + 1 ∧ Way (arcOf p key) (finOf p key q) v s ∧ (∃ r, s = k :: r) ∧ ∀ r, r.length = n → Way (arcOf p key) (finOf p key q) v (k :: r) → ¬ Llt (k :: r) s) ∧ (wayK p key q (wayF p key q n) n (v : Int) k = none → ∀ r, r.length = n → ¬ Way (arcOf p key) (finOf p key q) v (k :: r)) := by
      intro k hk
      have hsr := hr.src _ (List.getElem_mem hk)
      rw [← bAt_get hk] at hsr
      have hway : ∀ r, r.length = n → Way (arcOf p key) (finOf p key q) v (k :: r) → (bAt p k).src = v ∧ fitP p k key = true ∧ ((n = 0 ∧ r = [] ∧ toQ p q k = true) ∨ (0 < n ∧ (bAt p k).toPost = true ∧ Way (arcOf p key) (finOf p key q) (bAt p k).dst.toNat r)) := by
        intro r hrl hw
        by_cases h0 : n = 0
        · have e : r = [] := List.length_eq_zero_iff.1 (by omega)
          subst e
          have := way_one.1 hw
          unfold finOf at this
          split at this
          · rename_i hh
            simp at this
            exact ⟨by omega, hh.2.1, .inl ⟨h0, rfl, hh.2.2⟩⟩
          · cases this
        · have hne : r ≠ [] := fun e => by rw [e] at hrl; simp at hrl; omega
          obtain ⟨u, hu, hw'⟩ := (way_cons hne).1 hw
          obtain ⟨b1, b2, b3, b4, b5⟩ := arc_some hr hu
          exact ⟨by omega, b2, .inr ⟨by omega, b3, by rw [b5, Int.toNat_natCast]; exact hw'⟩⟩
      unfold wayK
      by_cases hc : (bAt p k).src = v ∧ fitP p k key = true
      · rw [if_pos hc]
        by_cases h1 : n = 0 ∧ toQ p q k = true
        · rw [if_pos h1]
          obtain ⟨rfl, hq⟩ := h1
          refine ⟨fun s hs => ?_, fun h => (nomatch h)⟩
          simp at hs; subst hs
          refine ⟨rfl, way_one.2 ?_, ⟨[], rfl⟩, fun r hrl _ => ?_⟩
          · unfold finOf; rw [if_pos ⟨hk, hc.2, hq⟩, hc.1, Int.toNat_natCast]
          · have e : r = [] := List.length_eq_zero_iff.1 hrl
            subst e; exact Llt_irr _
        · rw [if_neg h1]
          by_cases h2 : 0 < n ∧ (bAt p k).toPost = true
          · rw [if_pos h2]
            have hd := dst_ok hr k h2.2
            obtain ⟨d, hd'⟩ := Int.eq_ofNat_of_zero_le hd.1
            have ha : arcOf p key k = some (v, d) := by
              unfold arcOf; rw [if_pos ⟨hk, hc.2, h2.2⟩, hc.1, hd', Int.toNat_natCast, Int.toNat_natCast]
            obtain ⟨i1, i2⟩ := ih d
            rw [hd']
            cases hw : wayF p key q n (d : Int) with
            | none =>
              refine ⟨fun s hs => (nomatch hs), fun _ r hrl hwr => ?_⟩
              obtain ⟨_, _, h | ⟨_, _, h⟩⟩ := hway r hrl hwr
              · omega
              · rw [hd', Int.toNat_natCast] at h; exact i2 hw r hrl h
            | some l =>
              obtain ⟨j1, j2, j3⟩ := i1 l hw
              refine ⟨fun s hs => ?_, fun h => (nomatch h)⟩
              simp at hs; subst hs
              refine ⟨by simp; omega, (way_cons (way_ne j2)).2 ⟨d, ha, j2⟩, ⟨l, rfl⟩, fun r hrl hwr hlt => ?_⟩
              obtain ⟨_, _, h | ⟨_, _, h⟩⟩ := hway r hrl hwr
              · omega
              · rw [hd', Int.toNat_natCast] at h
                rcases hlt with h3 | ⟨_, h3⟩
                · omega
                · exact j3 r hrl h h3
          · rw [if_neg h2]
            refine ⟨fun s hs => (nomatch hs), fun _ r hrl hwr => ?_⟩
            obtain ⟨_, _, h | h⟩ := hway r hrl hwr
            · exact h1 ⟨h.1, h.2.2⟩
            · exact h2 ⟨h.1, h.2.1⟩
      · rw [if_neg hc]
        refine ⟨fun s hs => (nomatch hs), fun _ r hrl hwr => ?_⟩
        obtain ⟨g1, g2, _⟩ := hway r hrl hwr
        exact hc ⟨g1, g2⟩
    have hlt : ∀ t, t.length = n + 1 → Way (arcOf p key) (finOf p key q) v t → ∃ k r, t = k :: r ∧ r.length = n ∧ k < p.binds.length := by
      intro t ht hw
      cases t with
      | nil => simp at ht
      | cons k r =>
        refine ⟨k, r, rfl, by simpa using ht, ?_⟩
        by_cases hne : r = []
        · subst hne
          have := way_one.1 hw
          unfold finOf at this
          split at this
          · rename_i hh; exact hh.1
          · cases this
        · obtain ⟨u, hu, _⟩ := (way_cons hne).1 hw
          exact arc_lt _ _ hu
    refine ⟨fun s hs => ?_, fun hs t ht hw => ?_⟩
    · obtain ⟨k, hk, h1, h2⟩ := firstTo_some hs
      obtain ⟨a1, a2, ⟨r, rfl⟩, a4⟩ := (key1 k hk).1 s h1
      refine ⟨a1, a2, fun t ht hw hl => ?_⟩
      obtain ⟨k', r', rfl, hr', hk'⟩ := hlt t ht hw
      rcases hl with hl | ⟨rfl, hl⟩
      · exact (key1 k' hk').2 (h2 k' hl) r' hr' hw
      · exact a4 r' hr' hw (.inr ⟨rfl, hl⟩)
    · obtain ⟨k', r', rfl, hr', hk'⟩ := hlt t ht hw
      exact (key1 k' hk').2 (firstTo_no hs k' hk') r' hr' hw
theorem wayF_is {p : PlanD} {key : ByteArray} {q : Int} (hr : RightP p) {v : Nat} {ns : List Nat} (h : WayIs p key v q ns) : 0 < ns.length ∧ (∀ n, n < ns.length → wayF p key q n (v : Int) = none) ∧ wayF p key q ns.length (v : Int) = some ns := by
  refine ⟨List.length_pos_iff.2 (way_ne h.way), fun n hn => ?_, ?_⟩
  · cases hw : wayF p key q n (v : Int) with
    | none => rfl
    | some s =>
      obtain ⟨h1, h2, _⟩ := (wayF_spec hr n v).1 s hw
      exact absurd (Or.inl (by omega)) (h.least s h2)
  · cases hw : wayF p key q ns.length (v : Int) with
    | none => exact absurd h.way ((wayF_spec hr _ v).2 hw ns rfl)
    | some s =>
      obtain ⟨h1, h2, h3⟩ := (wayF_spec hr _ v).1 s hw
      rcases Llt_tri (s := s) (t := ns) h1 with e | e | e
      · exact absurd (Or.inr ⟨h1, e⟩) (h.least s h2)
      · rw [e]
      · exact absurd e (h3 ns rfl h.way)
theorem wayF_no {p : PlanD} {key : ByteArray} {q : Int} (hr : RightP p) {v : Nat} (h : ∀ t, ¬ Way (arcOf p key) (finOf p key q) v t) (n : Nat) : wayF p key q n (v : Int) = none := by
  cases hw : wayF p key q n (v : Int) with
  | none => rfl
  | some s => exact absurd ((wayF_spec hr n v).1 s hw).2.1 (h s)
end Go.Proofs.Ythhkpgnjpieckaa
