/- Rows of binds that a call made. -/
import Derived.Laws.AppendOwnNone
import Derived.Maps.AppendAt
import Derived.Test.YthhkpgnjpieckaaSf
namespace Go.Proofs.Ythhkpgnjpieckaa
set_option linter.unusedVariables false
set_option maxRecDepth 100000
open Go.RowKit Go.Maps

theorem Try.infoBind : (Try.prog.info? 55).map (fun i => (i.zero, i.size, i.bytes)) = some (some (.agg #[.int .i64 0, .bool false, .int .i64 0, .string ⟨#[]⟩]), 4, 40) := by kernel_rfl

def BindD.cells (x : BindD) : List Value := [.int .i64 x.src, .bool x.toPost, .int .i64 x.dst, .string x.pat]
def bindCells (xs : List BindD) : List Value := xs.flatMap BindD.cells
theorem bindCells_len (xs : List BindD) : (bindCells xs).length = xs.length * 4 := by
  induction xs with
  | nil => rfl
  | cons x r ih => unfold bindCells at ih ⊢; rw [List.flatMap_cons, List.length_append, ih]; simp [BindD.cells]; omega
theorem bindCells_at : ∀ (xs : List BindD) (i : Nat) (h : i < xs.length) (j : Nat), j < 4 → (bindCells xs)[i * 4 + j]? = (xs[i].cells)[j]?
  | [], i, h, _, _ => by simp at h
  | x :: r, 0, h, j, hj => by
    unfold bindCells
    rw [List.flatMap_cons, List.getElem?_append_left (by simp [BindD.cells]; omega)]
    simp
  | x :: r, i + 1, h, j, hj => by
    have ih := bindCells_at r i (by simpa using h) j hj
    unfold bindCells at ih ⊢
    rw [List.flatMap_cons, List.getElem?_append_right (by simp [BindD.cells]; omega)]
    have e : (i + 1) * 4 + j - x.cells.length = i * 4 + j := by simp [BindD.cells]; omega
    rw [e, ih]; simp
theorem bindCells_append (xs ys : List BindD) : bindCells (xs ++ ys) = bindCells xs ++ bindCells ys := by unfold bindCells; rw [List.flatMap_append]
theorem bindCells_one (xs : List BindD) : ∀ u ∈ bindCells xs, u.oneCell' = true := by
  intro u hu
  obtain ⟨x, _, hx⟩ := List.mem_flatMap.1 hu
  simp [BindD.cells] at hx
  rcases hx with rfl | rfl | rfl | rfl <;> rfl
def BindCells (W : World) (g o : Nat) (x : BindD) : Prop := W.cell? ⟨g, o, none⟩ = some (.int .i64 x.src) ∧ W.cell? ⟨g, o + 1, none⟩ = some (.bool x.toPost) ∧ W.cell? ⟨g, o + 2, none⟩ = some (.int .i64 x.dst) ∧ W.cell? ⟨g, o + 3, none⟩ = some (.string x.pat)
theorem BindCells.of {W : World} {g o : Nat} {x : BindD} (h : ∀ j, j < 4 → W.cell? ⟨g, o + j, none⟩ = x.cells[j]?) : BindCells W g o x :=
  ⟨h 0 (by omega), h 1 (by omega), h 2 (by omega), h 3 (by omega)⟩
theorem BindCells.at {W : World} {g o : Nat} {x : BindD} (h : BindCells W g o x) {j : Nat} (hj : j < 4) : W.cell? ⟨g, o + j, none⟩ = x.cells[j]? := by
  obtain ⟨h0, h1, h2, h3⟩ := h
  match j, hj with
  | 0, _ => exact h0
  | 1, _ => exact h1
  | 2, _ => exact h2
  | 3, _ => exact h3
theorem addr_addB (g o j : Nat) : (⟨g, o, none⟩ : Addr).add j = ⟨g, o + j, none⟩ := by unfold Addr.add; split <;> simp_all
theorem own_binds {W : World} {base : Nat} {T : TypeId} {v : Value} {n : Nat} {xs : List BindD} (h : W.ownsRow base T 4 v n (bindCells xs)) :
    n = xs.length ∧ ∃ a c, v = .slice a n c ∧ n ≤ c ∧ c ≤ maxLen ∧ (a = none → c = 0 ∧ xs = []) ∧ BindsAt W a xs := by
  have hn : n = xs.length := by have := h.1; rw [bindCells_len] at this; omega
  refine ⟨hn, ?_⟩
  rcases h.2 with ⟨rfl, h0⟩ | ⟨g, cap, cur, rfl, hb, hg, h1, h2, _⟩
  · have hx : xs = [] := List.length_eq_zero_iff.1 (by omega)
    exact ⟨none, 0, by rw [h0], by omega, by unfold maxLen; omega, fun _ => ⟨rfl, hx⟩, .inl hx⟩
  · refine ⟨_, cap, rfl, h1, h2, (fun h => by cases h), .inr ⟨g, 0, rfl, (Array.getElem?_eq_some_iff.1 hg).1, fun i hi => BindCells.of fun j hj => ?_⟩⟩
    have hc := bindCells_at xs i hi j hj
    have hv : xs[i].cells[j]? = some (xs[i].cells[j]'(by simpa [BindD.cells] using hj)) := List.getElem?_eq_getElem _
    rw [hv] at hc ⊢
    have := h.cells (g := g) rfl _ _ hc
    rw [addr_addB] at this
    rw [← Nat.add_assoc] at this
    exact this
theorem binds_news {W : World} {ad : Addr} {ys : List BindD} (h : BindsAt W (some ad) ys) : ∀ j u, (bindCells ys)[j]? = some u → W.cell? (ad.add j) = some u := by
  intro j u hj
  have hjl : j < ys.length * 4 := by
    rcases Nat.lt_or_ge j (ys.length * 4) with h | h
    · exact h
    · rw [List.getElem?_eq_none (by rw [bindCells_len]; exact h)] at hj; cases hj
  rcases h with rfl | ⟨g, o, ha, _, h⟩
  · simp at hjl
  · cases ha
    have hi : j / 4 < ys.length := by omega
    have hr : j % 4 < 4 := Nat.mod_lt _ (by omega)
    have hc := BindCells.at (h (j / 4) hi) hr
    have e : j / 4 * 4 + j % 4 = j := by omega
    have hk := bindCells_at ys (j / 4) hi (j % 4) hr
    rw [e] at hk
    rw [addr_addB]
    rw [Nat.add_assoc, e] at hc
    rw [hc, ← hk, hj]
theorem grown_sameB (w : World) (row : Option Nat) : w.grownBy w row := ⟨rfl, rfl, rfl, Nat.le_refl _, fun _ _ _ => rfl⟩

/-- 'append(out, binds...)' at the operation; and where the new row lies. -/
theorem wp_append_binds {w : World} {o : Oper} {act : Act} {K : Act → World → Prop} {Q : Exit → Act → World → Prop} (s x : Operand)
    (ho : o.op = .call { callee := .builtin .append, args := #[s, x], argTypes := #[38, 38] })
    (base : Nat) (v : Value) (n : Nat) (xs : List BindD) (hs : act.eval s = v) (hown : w.ownsRow base 55 4 v n (bindCells xs))
    (a : Option Addr) (m c : Nat) (ys : List BindD) (hx : act.eval x = .slice a m c) (hm : ys.length = m) (hz : a = none → c = 0 ∧ ys = []) (hT : BindsAt w a ys)
    (hb : (n + m) * 40 ≤ 140737488355328) (hbase : base ≤ w.heap.size)
    (h : ∀ v' w', w'.ownsRow base 55 4 v' (n + m) (bindCells (xs ++ ys)) → w.grownBy w' v.ownBlock → (v'.ownBlock = v.ownBlock ∨ v'.ownBlock = some w.heap.size) → K (act.put o.dst v') w') :
    Oper.wp Try.prog o act w K Q := by
  obtain ⟨i0, hi, hz0, hz1, hz2⟩ := info_parts Try.infoBind
  cases a with
  | none =>
    obtain ⟨rfl, rfl⟩ := hz rfl
    simp at hm
    subst hm
    have hrun := run_append_owned_none (P := Try.prog) (w := w) base 38 o.type 55 i0 4 Try.underlying38 hi v n _ hown
    unfold Oper.wp
    simp [execOp, ho, resolve, invoke, builtin, hs, hx, hrun, Result.andThen]
    exact h v w (by simpa using hown) (grown_sameB _ _) (.inl rfl)
  | some ad =>
    obtain ⟨v', w', hr, h2, h3, h4, h5⟩ := run_append_own_at (P := Try.prog) w base 38 o.type 55 i0 _ 4 40 Try.underlying38 hi hz0 hz1 hz2 rfl (by decide) v n _ hown ad m c (bindCells ys) (by rw [bindCells_len, hm]) (binds_news hT) (bindCells_one ys) (by unfold maxLen; omega) (by omega) hbase
    unfold Oper.wp execOp
    simp only [ho, resolve, invoke, builtin, Sem.run_bind, Sem.run_pure, Result.andThen_ok, List.map_toArray, List.map_cons, List.map_nil, hs, hx, hr]
    exact h v' w' (by rw [bindCells_append]; exact h2) h3 h5
/-- The same at a step of a region that draws its order. -/
theorem step_append_binds {w : World} {ops : Array Oper} {o : Oper} {act : Act} {K : Act → World → Prop} {Q : Exit → Act → World → Prop} {E : Prop} (hw : Region.wanted o (yielded ops act.tmps) = true) (s x : Operand)
    (ho : o.op = .call { callee := .builtin .append, args := #[s, x], argTypes := #[38, 38] })
    (base : Nat) (v : Value) (n : Nat) (xs : List BindD) (hs : act.eval s = v) (hown : w.ownsRow base 55 4 v n (bindCells xs))
    (a : Option Addr) (m c : Nat) (ys : List BindD) (hx : act.eval x = .slice a m c) (hm : ys.length = m) (hz : a = none → c = 0 ∧ ys = []) (hT : BindsAt w a ys)
    (hb : (n + m) * 40 ≤ 140737488355328) (hbase : base ≤ w.heap.size)
    (h : ∀ v' w', w'.ownsRow base 55 4 v' (n + m) (bindCells (xs ++ ys)) → w.grownBy w' v.ownBlock → (v'.ownBlock = v.ownBlock ∨ v'.ownBlock = some w.heap.size) → K (act.put o.dst v') w') :
    if Region.wanted o (yielded ops act.tmps) = true then Oper.wp Try.prog o act w K Q else E := by
  rw [if_pos hw]
  exact wp_append_binds s x ho base v n xs hs hown a m c ys hx hm hz hT hb hbase h
end Go.Proofs.Ythhkpgnjpieckaa
