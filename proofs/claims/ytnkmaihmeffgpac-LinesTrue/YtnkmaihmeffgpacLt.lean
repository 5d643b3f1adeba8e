/- mailcoachref.ShedOf. -/
import Derived.Maps.AppendAt
import Derived.Test.YtnkmaihmeffgpacLz
namespace Go.Proofs.Ytnkmaihmeffgpac
set_option linter.unusedVariables false
set_option maxRecDepth 100000
open Go.RowKit

/-- 'append(out, letters...)' at the operation; and where the new row lies. -/
theorem wp_append_items {w : World} {o : Oper} {act : Act} {K : Act → World → Prop} {Q : Exit → Act → World → Prop} (s x : Operand)
    (ho : o.op = .call { callee := .builtin .append, args := #[s, x], argTypes := #[22, 22] })
    (base : Nat) (v : Value) (n : Nat) (xs : List ItemD) (hs : act.eval s = v) (hown : w.ownsRow base 24 5 v n (itemCells xs))
    (a : Option Addr) (m c : Nat) (ys : List ItemD) (hx : act.eval x = .slice a m c) (hm : ys.length = m) (hz : a = none → c = 0 ∧ ys = []) (hT : ItemsAt w a ys)
    (hb : n + m ≤ 100000000) (hbase : base ≤ w.heap.size)
    (h : ∀ v' w', w'.ownsRow base 24 5 v' (n + m) (itemCells (xs ++ ys)) → w.grownBy w' v.ownBlock → (v'.ownBlock = v.ownBlock ∨ v'.ownBlock = some w.heap.size) → K (act.put o.dst v') w') :
    Oper.wp Try.prog o act w K Q := by
  obtain ⟨i0, hi, hz0, hz1, hz2⟩ := info_parts Try.infoItem
  cases a with
  | none =>
    obtain ⟨rfl, rfl⟩ := hz rfl
    simp at hm
    subst hm
    have hrun := run_append_owned_none (P := Try.prog) (w := w) base 22 o.type 24 i0 5 Try.underlying22 hi v n _ hown
    unfold Oper.wp
    simp [execOp, ho, resolve, invoke, builtin, hs, hx, hrun, Result.andThen]
    exact h v w (by simpa using hown) (grown_same _ _) (.inl rfl)
  | some ad =>
    obtain ⟨v', w', hr, h2, h3, h4, h5⟩ := run_append_own_at (P := Try.prog) w base 22 o.type 24 i0 _ 5 56 Try.underlying22 hi hz0 hz1 hz2 rfl (by decide) v n _ hown ad m c (itemCells ys) (by rw [itemCells_len, hm]) (items_news hT) (itemCells_one ys) (by unfold maxLen; omega) (by omega) hbase
    unfold Oper.wp execOp
    simp only [ho, resolve, invoke, builtin, Sem.run_bind, Sem.run_pure, Result.andThen_ok, List.map_toArray, List.map_cons, List.map_nil, hs, hx, hr]
    exact h v' w' (by rw [itemCells_append]; exact h2) h3 h5
/-- The same at a step of a region that draws its order. -/
theorem step_append_items {w : World} {ops : Array Oper} {o : Oper} {act : Act} {K : Act → World → Prop} {Q : Exit → Act → World → Prop} {E : Prop} (hw : Region.wanted o (yielded ops act.tmps) = true) (s x : Operand)
    (ho : o.op = .call { callee := .builtin .append, args := #[s, x], argTypes := #[22, 22] })
    (base : Nat) (v : Value) (n : Nat) (xs : List ItemD) (hs : act.eval s = v) (hown : w.ownsRow base 24 5 v n (itemCells xs))
    (a : Option Addr) (m c : Nat) (ys : List ItemD) (hx : act.eval x = .slice a m c) (hm : ys.length = m) (hz : a = none → c = 0 ∧ ys = []) (hT : ItemsAt w a ys)
    (hb : n + m ≤ 100000000) (hbase : base ≤ w.heap.size)
    (h : ∀ v' w', w'.ownsRow base 24 5 v' (n + m) (itemCells (xs ++ ys)) → w.grownBy w' v.ownBlock → (v'.ownBlock = v.ownBlock ∨ v'.ownBlock = some w.heap.size) → K (act.put o.dst v') w') :
    if Region.wanted o (yielded ops act.tmps) = true then Oper.wp Try.prog o act w K Q else E := by
  rw [if_pos hw]
  exact wp_append_items s x ho base v n xs hs hown a m c ys hx hm hz hT hb hbase h
/-- The same in a row of operations, guarded or not. -/
theorem append_items_w {w : World} {ops : Array Oper} {rest : List Oper} {o : Oper} {act : Act} {Q : Exit → Act → World → Prop} (hw : Region.wanted o (yielded ops act.tmps) = true) (s x : Operand)
    (ho : o.op = .call { callee := .builtin .append, args := #[s, x], argTypes := #[22, 22] })
    (base : Nat) (v : Value) (n : Nat) (xs : List ItemD) (hs : act.eval s = v) (hown : w.ownsRow base 24 5 v n (itemCells xs))
    (a : Option Addr) (m c : Nat) (ys : List ItemD) (hx : act.eval x = .slice a m c) (hm : ys.length = m) (hz : a = none → c = 0 ∧ ys = []) (hT : ItemsAt w a ys)
    (hb : n + m ≤ 100000000) (hbase : base ≤ w.heap.size)
    (h : ∀ v' w', w'.ownsRow base 24 5 v' (n + m) (itemCells (xs ++ ys)) → w.grownBy w' v.ownBlock → (v'.ownBlock = v.ownBlock ∨ v'.ownBlock = some w.heap.size) → wpList Try.prog ops Q rest (act.put o.dst v') w') : wpList Try.prog ops Q (o :: rest) act w :=
  wpList_step fun K hK => by
    rw [if_pos hw]
    exact wp_append_items s x ho base v n xs hs hown a m c ys hx hm hz hT hb hbase (fun v' w' h1 h2 h3 => hK _ _ (h v' w' h1 h2 h3))

theorem slice_ne {g k n c : Nat} (h : g < k ∨ k < g) : (Value.slice (some ⟨g, 0, none⟩) n c).ownBlock ≠ some k := by
  intro e; simp only [Value.ownBlock, Option.some.injEq] at e; omega
theorem some_ne {v : Value} {x y k : Nat} (h : v.ownBlock = some x ∨ v.ownBlock = some y) (hx : x < k ∨ k < x) (hy : y < k ∨ k < y) : v.ownBlock ≠ some k := by
  rcases h with e | e <;> rw [e] <;> simp only [ne_eq, Option.some.injEq] <;> omega

/-- What the end of ShedOf wants. -/
structure ShedDone (xs : List ItemD) (n i : Nat) (w W : World) (v u : Value) : Prop where
  a : W.ownsRow w.heap.size 24 5 v (n - i) (itemCells (xs.drop i))
  b : W.ownsRow w.heap.size 24 5 u i (itemCells (xs.take i))
  below : Below w.heap.size w W

theorem lt_ne {w W : World} {base k : Nat} {e : TypeId} {size n : Nat} {v : Value} {xs : List Value} (h : w.ownsRow base e size v n xs) (hk : w.heap.size ≤ k) : v.ownBlock = none ∨ v.ownBlock ≠ some k := by
  right; intro e; have := h.lt k e; omega
