import Derived.Test.YtpoichgodamnkaaTbx
import Derived.Laws.StructEq
import Derived.Deep.QuietTactic
import Derived.BigQuiet
namespace Go.Proofs.Ytpoichgodamnkaa
open Go.RowKit
set_option linter.unusedVariables false
set_option maxRecDepth 100000
def idxSeq (q : Int) : List ItemD → Nat
 | [] => 0
 | x :: r => if q ≤ x.seq then 0 else idxSeq q r + 1
def idxI (q : Int) (xs : List ItemD) : Int := if idxSeq q xs < xs.length then idxSeq q xs else -1
def sum3 (a b c : Nat) : Nat → Nat
 | 0 => 0
 | 1 => a
 | 2 => a + b
 | _ => a + b + c
def cat3 (x y z : List ItemD) : Nat → List ItemD
 | 0 => []
 | 1 => x
 | 2 => x ++ y
 | _ => x ++ y ++ z
def pushHas (q : Int) (xs : List ItemD) : Bool := (xs[idxSeq q xs]?.map ItemD.seq) == some q
def pushL (xs : List ItemD) (x : ItemD) : List ItemD := xs.take (idxSeq x.seq xs) ++ [x] ++ xs.drop (idxSeq x.seq xs)
def pushE (xs : List ItemD) (x : ItemD) : Int := if lineOk xs = true then (if itemOk x = true then (if pushHas x.seq xs = true then 6 else 0) else 1) else 1
def pushV (xs : List ItemD) (x : ItemD) : List ItemD := if pushE xs x = 0 then pushL xs x else []
theorem own_base {W : World} {base base' : Nat} {e : TypeId} {size : Nat} {v : Value} {n : Nat} {xs : List Value} (h : W.ownsRow base e size v n xs) (hb : base' ≤ base) : W.ownsRow base' e size v n xs := by
 refine ⟨h.1, ?_⟩
 rcases h.2 with h | ⟨g, cap, cur, h1, h2, h3⟩
 ·exact .inl h
 ·exact .inr ⟨g, cap, cur, h1, Nat.le_trans hb h2, h3⟩
theorem ItemsAt.take {W : World} {a : Option Addr} {xs : List ItemD} (h : ItemsAt W a xs) (i : Nat) : ItemsAt W a (xs.take i) := by
 rcases h with h | ⟨g, o, ha, hg, h⟩
 ·exact .inl (by rw [h]; simp)
 ·exact .inr ⟨g, o, ha, hg, fun j hj => by
   have hj' : j < xs.length := by simp at hj; omega
   have := h j hj'
   simpa using this⟩
theorem ItemsAt.drop {W : World} {a : Option Addr} {xs : List ItemD} (h : ItemsAt W a xs) (i c : Nat) (hc : xs.length ≤ c) : ItemsAt W (if c = i then a else Option.map (fun x => x.add (i * 5)) a) (xs.drop i) := by
 by_cases hci : c = i
 ·exact .inl (List.drop_eq_nil_of_le (by omega))
 ·rw [if_neg hci]
  rcases h with h | ⟨g, o, ha, hg, h⟩
  ·exact .inl (by rw [h]; simp)
  ·subst ha
   refine .inr ⟨g, o + i * 5, by simp [addr_add], hg, fun j hj => ?_⟩
   have hj' : i + j < xs.length := by simp at hj; omega
   have := h (i + j) hj'
   have e : o + i * 5 + j * 5 = o + (i + j) * 5 := by omega
   rw [e]
   simpa using this
def pushK (xs : List ItemD) (x : ItemD) (k : Nat) : List ItemD := if idxSeq x.seq xs < k then (pushL xs x).take (k + 1) else xs.take k
theorem below_drewL {b n : Nat} {W w' : World} (h : Below b W w') : Below b W (w'.drewN n) := ⟨h.os, h.tape, h.output, h.size, h.block⟩
end Go.Proofs.Ytpoichgodamnkaa
