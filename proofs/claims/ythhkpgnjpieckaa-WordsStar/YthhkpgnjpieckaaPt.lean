/- Plain mathematics of the laws WordsTrue and WordsStar. -/
import Derived.Test.YthhkpgnjpieckaaFi
namespace Go.Proofs.Ythhkpgnjpieckaa
set_option linter.unusedVariables false
set_option maxRecDepth 100000

theorem wsplit_append (a b : List UInt8) : wsplit (a ++ 46 :: b) = wsplit a ++ wsplit b := by
  induction a with
  | nil => simp [wsplit]
  | cons c r ih =>
    by_cases h : c = 46
    · simp [wsplit, h, ih]
    · simp only [List.cons_append, wsplit, h, if_false, ih]
      cases hw : wsplit r with
      | nil => exact absurd hw (wsplit_ne r)
      | cons x t => rfl

/-- The text of words. -/
def wjoin : List (List UInt8) → List UInt8
  | [] => []
  | [x] => x
  | x :: y :: t => x ++ 46 :: wjoin (y :: t)
theorem wjoin_split (l : List UInt8) : wjoin (wsplit l) = l := by
  induction l with
  | nil => rfl
  | cons c r ih =>
    by_cases h : c = 46
    · cases hw : wsplit r with
      | nil => exact absurd hw (wsplit_ne r)
      | cons x t => rw [hw] at ih; simp [wsplit, h, hw, wjoin, ih]
    · cases hw : wsplit r with
      | nil => exact absurd hw (wsplit_ne r)
      | cons x t =>
        rw [hw] at ih
        simp only [wsplit, h, if_false, hw]
        cases t with
        | nil => simp [wjoin] at *; exact ih
        | cons y t => simp [wjoin] at *; exact ih
theorem wsplit_inj {a b : List UInt8} (h : wsplit a = wsplit b) : a = b := by rw [← wjoin_split a, ← wjoin_split b, h]

theorem isW_plain {x : List UInt8} (h : isW x = true) : x ≠ [35] ∧ x ≠ [42] := by
  constructor <;> (rintro rfl; revert h; decide)
theorem laidL_plain : ∀ (ps ks : List (List UInt8)), ps.all isW = true → laidL ps ks = decide (ps = ks)
  | [], ks, _ => by cases ks <;> simp [laidL]
  | p :: ps, ks, h => by
    simp only [List.all_cons, Bool.and_eq_true] at h
    obtain ⟨h1, h2⟩ := isW_plain h.1
    cases ks with
    | nil => simp [laidL, h1]
    | cons k ks =>
      have h3 : (p == [42]) = false := by simpa using h2
      have h4 : (p == k) = decide (p = k) := by by_cases e : p = k <;> simp [e]
      simp [laidL, h1, h3, h4, laidL_plain ps ks h.2]

theorem werr_all {right : List UInt8 → Bool} {l : List UInt8} (h : werr right l = 0) : (wsplit l).all right = true := by
  unfold werr at h
  by_cases h1 : 24 < l.length ∨ 6 < (wsplit l).length
  · rw [if_pos h1] at h; cases h
  · rw [if_neg h1] at h
    by_cases h2 : (wsplit l).all right = true
    · exact h2
    · rw [if_neg h2] at h; cases h
theorem perr_of_kerr {l : List UInt8} (h : kerr l = 0) : perr l = 0 := by
  have ha := werr_all h
  unfold kerr werr at h
  unfold perr werr
  by_cases h1 : 24 < l.length ∨ 6 < (wsplit l).length
  · rw [if_pos h1] at h; cases h
  · rw [if_neg h1, if_pos]
    rw [List.all_eq_true] at ha ⊢
    intro x hx; simp [isP, ha x hx]
theorem merr_zero {p k : List UInt8} (h : merr p k = 0) : perr p = 0 ∧ kerr k = 0 := by
  unfold merr at h
  by_cases h1 : perr p = 0
  · rw [if_pos h1] at h; exact ⟨h1, h⟩
  · rw [if_neg h1] at h; exact absurd h h1
theorem merr_mk {p k : List UInt8} (h1 : perr p = 0) (h2 : kerr k = 0) : merr p k = 0 := by simp [merr, h1, h2]
theorem mis_mk {p k : List UInt8} (h1 : perr p = 0) (h2 : kerr k = 0) : mis p k = fitL p k := by simp [mis, merr, h1, h2]
theorem fitL_all (k : List UInt8) : fitL [35] k = true := by
  unfold fitL
  rw [show wsplit [35] = [[35]] from by decide]
  simp only [laidL, if_true, List.any_eq_true]
  exact ⟨(wsplit k).length, by simp, by simp⟩
theorem fitL_key {k o : List UInt8} (h : kerr k = 0) : fitL k o = decide (k = o) := by
  unfold fitL
  rw [laidL_plain _ _ (werr_all h)]
  by_cases e : k = o
  · simp [e]
  · have : ¬ wsplit k = wsplit o := fun h => e (wsplit_inj h)
    simp [e, this]
theorem laidL_B (ps ks : List (List UInt8)) : laidL ps ks = laidB (ps.map (fun x => ⟨x.toArray⟩)) (ks.map (fun x => ⟨x.toArray⟩)) := by
  simp [laidB, Function.comp_def]
theorem laidL_snoc_hash (ps ks : List (List UInt8)) : laidL (ps ++ [[35]]) ks = (List.range (ks.length + 1)).any (fun n => laidL ps (ks.take n)) := by
  rw [laidL_B, List.map_append, List.map_cons, List.map_nil, laidB_snoc_hash (by rfl)]
  simp only [List.length_map]
  congr 1
  funext n
  rw [laidL_B, List.map_take]
theorem fitL_more {p k : List UInt8} (h : fitL p k = true) : fitL (p ++ [46, 35]) k = true := by
  unfold fitL at *
  rw [show p ++ [46, 35] = p ++ 46 :: [35] from rfl, wsplit_append, show wsplit [35] = [[35]] from by decide, laidL_snoc_hash, List.any_eq_true]
  exact ⟨(wsplit k).length, by simp, by simpa using h⟩
theorem fitL_longer {p k o : List UInt8} (h : fitL p k = true) : fitL (p ++ [46, 35]) (k ++ 46 :: o) = true := by
  unfold fitL at *
  rw [show p ++ [46, 35] = p ++ 46 :: [35] from rfl, wsplit_append, wsplit_append, show wsplit [35] = [[35]] from by decide, laidL_snoc_hash, List.any_eq_true]
  exact ⟨(wsplit k).length, by simp; omega, by simpa using h⟩

end Go.Proofs.Ythhkpgnjpieckaa
