/- Plain mathematics: a pattern laid along a key, from the front and from behind. -/
import Derived.Test.YthhkpgnjpieckaaIt
namespace Go.Proofs.Ythhkpgnjpieckaa
set_option linter.unusedVariables false
set_option maxRecDepth 100000

/-- laidL over texts. -/
def laidB (ps ks : List ByteArray) : Bool := laidL (ps.map (fun x => x.data.toList)) (ks.map (fun x => x.data.toList))

theorem laidB_nil (ks : List ByteArray) : laidB [] ks = ks.isEmpty := by simp [laidB, laidL]
theorem laidB_hash {x : ByteArray} (h : x.data.toList = [35]) (ps ks : List ByteArray) : laidB (x :: ps) ks = (List.range (ks.length + 1)).any (fun n => laidB ps (ks.drop n)) := by
  simp [laidB, laidL, h, List.map_drop]
theorem laidB_none {x : ByteArray} (h : x.data.toList ≠ [35]) (ps : List ByteArray) : laidB (x :: ps) [] = false := by
  simp [laidB, laidL, h]
theorem laidB_cons {x : ByteArray} (h : x.data.toList ≠ [35]) (ps : List ByteArray) (y : ByteArray) (ks : List ByteArray) :
    laidB (x :: ps) (y :: ks) = ((x.data.toList == [42] || x.data.toList == y.data.toList) && laidB ps ks) := by
  simp [laidB, laidL, h]
theorem laidB_any {x : ByteArray} (h : x.data.toList = [35]) {ps ks : List ByteArray} {k : Nat} (hk : k ≤ ks.length) (hl : laidB ps (ks.drop k) = true) : laidB (x :: ps) ks = true := by
  rw [laidB_hash h, List.any_eq_true]; exact ⟨k, by simp; omega, hl⟩
theorem laidB_all {x : ByteArray} (h : x.data.toList = [35]) {ps ks : List ByteArray} (hl : ∀ j, j < ks.length + 1 → laidB ps (ks.drop j) = false) : laidB (x :: ps) ks = false := by
  rw [laidB_hash h, List.any_eq_false]; intro j hj; simp at hj; simp [hl j (by omega)]

/-- What is laid with # behind: a part of the key, from its head on. -/
theorem laidB_snoc_hash {x : ByteArray} (h : x.data.toList = [35]) : ∀ (ps ks : List ByteArray), laidB (ps ++ [x]) ks = (List.range (ks.length + 1)).any (fun n => laidB ps (ks.take n))
  | [], ks => by
    rw [List.nil_append, laidB_hash h, Bool.eq_iff_iff, List.any_eq_true, List.any_eq_true]
    constructor
    · intro _; exact ⟨0, by simp, by simp [laidB_nil]⟩
    · intro _; exact ⟨ks.length, by simp, by simp [laidB_nil]⟩
  | p :: ps, ks => by
    by_cases hp : p.data.toList = [35]
    · rw [List.cons_append, laidB_hash hp, Bool.eq_iff_iff, List.any_eq_true, List.any_eq_true]
      constructor
      · rintro ⟨n, hn, hl⟩
        rw [laidB_snoc_hash h, List.any_eq_true] at hl
        obtain ⟨m, hm, hl⟩ := hl
        simp at hn hm
        refine ⟨n + m, by simp; omega, ?_⟩
        refine laidB_any hp (k := n) (by simp; omega) ?_
        rw [List.drop_take, show n + m - n = m from by omega]; exact hl
      · rintro ⟨n, hn, hl⟩
        rw [laidB_hash hp, List.any_eq_true] at hl
        obtain ⟨m, hm, hl⟩ := hl
        simp at hn hm
        refine ⟨m, by simp; omega, ?_⟩
        rw [laidB_snoc_hash h, List.any_eq_true]
        refine ⟨n - m, by simp; omega, ?_⟩
        rw [List.drop_take] at hl; exact hl
    · cases ks with
      | nil => rw [List.cons_append, laidB_none hp]; simp [laidB_none hp]
      | cons k ks =>
        rw [List.cons_append, laidB_cons hp, laidB_snoc_hash h, Bool.eq_iff_iff, Bool.and_eq_true, List.any_eq_true, List.any_eq_true]
        constructor
        · rintro ⟨h1, n, hn, hl⟩
          simp at hn
          exact ⟨n + 1, by simp; omega, by rw [List.take_succ_cons, laidB_cons hp, h1, hl]; rfl⟩
        · rintro ⟨n, hn, hl⟩
          cases n with
          | zero => rw [List.take_zero, laidB_none hp] at hl; cases hl
          | succ n =>
            rw [List.take_succ_cons, laidB_cons hp, Bool.and_eq_true] at hl
            simp at hn
            exact ⟨hl.1, n, by simp; omega, hl.2⟩

theorem laidB_snoc_nil {x : ByteArray} (h : x.data.toList ≠ [35]) : ∀ (ps : List ByteArray), laidB (ps ++ [x]) [] = false
  | [] => laidB_none h []
  | p :: ps => by
    by_cases hp : p.data.toList = [35]
    · rw [List.cons_append, laidB_hash hp]; simp [laidB_snoc_nil h ps]
    · exact laidB_none hp _

theorem laidB_snoc {x : ByteArray} (h : x.data.toList ≠ [35]) : ∀ (ps ks : List ByteArray) (y : ByteArray),
    laidB (ps ++ [x]) (ks ++ [y]) = (laidB ps ks && (x.data.toList == [42] || x.data.toList == y.data.toList))
  | [], [], y => by rw [List.nil_append, List.nil_append, laidB_cons h, laidB_nil]; simp
  | [], k :: ks, y => by rw [List.nil_append, List.cons_append, laidB_cons h, laidB_nil, laidB_nil]; simp
  | p :: ps, ks, y => by
    by_cases hp : p.data.toList = [35]
    · rw [List.cons_append, laidB_hash hp, laidB_hash hp, List.length_append, List.length_singleton, List.range_succ, List.any_append]
      have e : ∀ n ∈ List.range (ks.length + 1), laidB (ps ++ [x]) ((ks ++ [y]).drop n) = (laidB ps (ks.drop n) && (x.data.toList == [42] || x.data.toList == y.data.toList)) := by
        intro n hn
        simp at hn
        rw [List.drop_append_of_le_length (by omega), laidB_snoc h]
      have e2 : (ks ++ [y]).drop (ks.length + 1) = [] := List.drop_eq_nil_of_le (by simp)
      simp only [List.any_cons, List.any_nil, e2, laidB_snoc_nil h, Bool.or_false]
      rw [Bool.eq_iff_iff, List.any_eq_true, Bool.and_eq_true, List.any_eq_true]
      constructor
      · rintro ⟨n, hn, hl⟩
        rw [e n hn, Bool.and_eq_true] at hl
        exact ⟨⟨n, hn, hl.1⟩, hl.2⟩
      · rintro ⟨⟨n, hn, hl⟩, h2⟩
        exact ⟨n, hn, by rw [e n hn, hl, h2]; rfl⟩
    · cases ks with
      | nil =>
        rw [List.cons_append, List.nil_append, laidB_cons hp, laidB_snoc_nil h, laidB_none hp]; simp
      | cons k ks =>
        rw [List.cons_append, List.cons_append, laidB_cons hp, laidB_cons hp, laidB_snoc h, Bool.and_assoc]

end Go.Proofs.Ythhkpgnjpieckaa
