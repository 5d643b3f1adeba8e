/- Plain mathematics of keys and patterns: how a text is split at its points, which words are right, how a pattern is laid along a key. No Go. -/
import Derived.Lib.Strings
import Derived.Lib.Bytealg
namespace Go.Proofs.Ythhkpgnjpieckaa
set_option linter.unusedVariables false
set_option maxRecDepth 100000

/-- A byte of a word. -/
def wch (c : UInt8) : Bool := decide (97 ≤ c.toNat ∧ c.toNat ≤ 122 ∨ 48 ≤ c.toNat ∧ c.toNat ≤ 57)
/-- A word of a key. -/
def isW (l : List UInt8) : Bool := l.all wch && !l.isEmpty
/-- A word of a pattern. -/
def isP (l : List UInt8) : Bool := l == [42] || l == [35] || isW l

/-- The words of a text. -/
def wsplit : List UInt8 → List (List UInt8)
  | [] => [[]]
  | c :: r => if c = 46 then [] :: wsplit r else match wsplit r with
    | [] => [[c]]
    | h :: t => (c :: h) :: t

theorem wsplit_ne (l : List UInt8) : wsplit l ≠ [] := by
  cases l with
  | nil => simp [wsplit]
  | cons c r => unfold wsplit; split <;> (try split) <;> simp

theorem wsplit_none (l : List UInt8) (h : (46 : UInt8) ∉ l) : wsplit l = [l] := by
  induction l with
  | nil => rfl
  | cons c r ih =>
    have h1 : ¬ c = 46 := fun e => h (by simp [e])
    have h2 := ih (fun e => h (by simp [e]))
    simp [wsplit, h1, h2]

theorem wsplit_at (a b : List UInt8) (h : (46 : UInt8) ∉ a) : wsplit (a ++ 46 :: b) = a :: wsplit b := by
  induction a with
  | nil => simp [wsplit]
  | cons c r ih =>
    have h1 : ¬ c = 46 := fun e => h (by simp [e])
    have h2 := ih (fun e => h (by simp [e]))
    simp [wsplit, h1, h2]

theorem wsplit_length (l : List UInt8) : (wsplit l).length = Lib.countByte l 46 + 1 := by
  induction l with
  | nil => simp [wsplit, Lib.countByte]
  | cons c r ih =>
    unfold Lib.countByte at *
    by_cases h : c = 46
    · subst h; simp [wsplit, ih]
    · have h' : ¬ (c == 46) = true := by simpa using h
      have hne := wsplit_ne r
      cases hw : wsplit r with
      | nil => exact absurd hw hne
      | cons x t =>
        rw [hw] at ih
        simp only [wsplit, h, if_false, hw]
        rw [List.count_cons_of_ne (by simpa using h)]
        simpa using ih

theorem wsplit_le (l : List UInt8) : (wsplit l).length ≤ l.length + 1 := by
  rw [wsplit_length]; have := List.count_le_length (a := (46 : UInt8)) (l := l); unfold Lib.countByte; omega

theorem wsplit_mem (l : List UInt8) : ∀ x ∈ wsplit l, x.length ≤ l.length := by
  induction l with
  | nil => simp [wsplit]
  | cons c r ih =>
    intro x hx
    by_cases h : c = 46
    · simp [wsplit, h] at hx
      rcases hx with rfl | hx
      · simp
      · have := ih x hx; simp; omega
    · simp only [wsplit, h, if_false] at hx
      cases hw : wsplit r with
      | nil => exact absurd hw (wsplit_ne r)
      | cons y t =>
        rw [hw] at hx ih
        simp at hx
        rcases hx with rfl | hx
        · have := ih y (by simp); simp; omega
        · have := ih x (by simp [hx]); simp; omega

theorem indexByte_cases (l : List UInt8) : (Lib.indexByte l 46 = -1 ∧ wsplit l = [l]) ∨ ∃ i : Nat, Lib.indexByte l 46 = i ∧ i < l.length ∧ wsplit l = l.take i :: wsplit (l.drop (i + 1)) := by
  induction l with
  | nil => left; simp [Lib.indexByte, wsplit]
  | cons c r ih =>
    by_cases h : c = 46
    · right
      refine ⟨0, by simp [Lib.indexByte, h], by simp, by simp [wsplit, h]⟩
    · rcases ih with ⟨h1, h2⟩ | ⟨i, h1, h2, h3⟩
      · left; simp [Lib.indexByte, h, h1, wsplit, h2]
      · right
        refine ⟨i + 1, ?_, by simp; omega, by simp [wsplit, h, h3]⟩
        simp [Lib.indexByte, h, h1]

/-- The error of a text of words: 2: too long or too many; 1: a word that is none; 0: none. -/
def werr (right : List UInt8 → Bool) (l : List UInt8) : Int :=
  if 24 < l.length ∨ 6 < (wsplit l).length then 2 else if (wsplit l).all right then 0 else 1

def kerr (l : List UInt8) : Int := werr isW l
def perr (l : List UInt8) : Int := werr isP l

/-- The words of a key; of what is none: no words. -/
def ksplit (l : List UInt8) : List (List UInt8) := if kerr l = 0 then wsplit l else []

/-- Can the pattern's words be laid along the key's? -/
def laidL : List (List UInt8) → List (List UInt8) → Bool
  | [], k => k.isEmpty
  | p :: ps, k => if p = [35] then (List.range (k.length + 1)).any (fun n => laidL ps (k.drop n)) else match k with
    | [] => false
    | x :: xs => (p == [42] || p == x) && laidL ps xs

def fitL (p k : List UInt8) : Bool := laidL (wsplit p) (wsplit k)

/-- What Match tells. -/
def merr (p k : List UInt8) : Int := if perr p = 0 then kerr k else perr p
def mis (p k : List UInt8) : Bool := if merr p k = 0 then fitL p k else false

end Go.Proofs.Ythhkpgnjpieckaa
