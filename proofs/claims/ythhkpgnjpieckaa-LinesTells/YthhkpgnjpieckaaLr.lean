/- Rows of letters that a call made. -/
import Derived.Laws.AppendOwnNone
import Derived.Lib.AppendZeros
import Derived.Test.YthhkpgnjpieckaaLc
namespace Go.Proofs.Ythhkpgnjpieckaa
set_option linter.unusedVariables false
set_option maxRecDepth 100000
open Go.RowKit

theorem Try.infoItem : (Try.prog.info? 59).map (fun i => (i.zero, i.size, i.bytes)) = some (some (.agg #[.int .i64 0, .string ⟨#[]⟩, .string ⟨#[]⟩, .bool false, .int .i64 0]), 5, 56) := by kernel_rfl

def ItemD.cells (x : ItemD) : List Value := [.int .i64 x.seq, .string x.key, .string x.body, .bool x.again, .int .i64 x.deaths]
def itemCells (xs : List ItemD) : List Value := xs.flatMap ItemD.cells
theorem itemCells_len (xs : List ItemD) : (itemCells xs).length = xs.length * 5 := by
  induction xs with
  | nil => rfl
  | cons x r ih => unfold itemCells at ih ⊢; rw [List.flatMap_cons, List.length_append, ih]; simp [ItemD.cells]; omega
theorem itemCells_at : ∀ (xs : List ItemD) (i : Nat) (h : i < xs.length) (j : Nat), j < 5 → (itemCells xs)[i * 5 + j]? = (xs[i].cells)[j]?
  | [], i, h, _, _ => by simp at h
  | x :: r, 0, h, j, hj => by
    unfold itemCells
    rw [List.flatMap_cons, List.getElem?_append_left (by simp [ItemD.cells]; omega)]
    simp
  | x :: r, i + 1, h, j, hj => by
    have ih := itemCells_at r i (by simpa using h) j hj
    unfold itemCells at ih ⊢
    rw [List.flatMap_cons, List.getElem?_append_right (by simp [ItemD.cells]; omega)]
    have e : (i + 1) * 5 + j - x.cells.length = i * 5 + j := by simp [ItemD.cells]; omega
    rw [e, ih]; simp
theorem itemCells_append (xs ys : List ItemD) : itemCells (xs ++ ys) = itemCells xs ++ itemCells ys := by unfold itemCells; rw [List.flatMap_append]
theorem itemCells_one (xs : List ItemD) : ∀ u ∈ itemCells xs, u.oneCell' = true := by
  intro u hu
  obtain ⟨x, _, hx⟩ := List.mem_flatMap.1 hu
  simp [ItemD.cells] at hx
  rcases hx with rfl | rfl | rfl | rfl | rfl <;> rfl

theorem ItemCells.of {W : World} {g o : Nat} {x : ItemD} (h : ∀ j, j < 5 → W.cell? ⟨g, o + j, none⟩ = x.cells[j]?) : ItemCells W g o x :=
  ⟨h 0 (by omega), h 1 (by omega), h 2 (by omega), h 3 (by omega), h 4 (by omega)⟩
theorem ItemCells.at {W : World} {g o : Nat} {x : ItemD} (h : ItemCells W g o x) {j : Nat} (hj : j < 5) : W.cell? ⟨g, o + j, none⟩ = x.cells[j]? := by
  obtain ⟨h0, h1, h2, h3, h4⟩ := h
  match j, hj with
  | 0, _ => exact h0
  | 1, _ => exact h1
  | 2, _ => exact h2
  | 3, _ => exact h3
  | 4, _ => exact h4

theorem addr_add (g o j : Nat) : (⟨g, o, none⟩ : Addr).add j = ⟨g, o + j, none⟩ := by unfold Addr.add; split <;> simp_all

theorem own_items {W : World} {base : Nat} {T : TypeId} {v : Value} {n : Nat} {xs : List ItemD} (h : W.ownsRow base T 5 v n (itemCells xs)) :
    n = xs.length ∧ ∃ a c, v = .slice a n c ∧ n ≤ c ∧ c ≤ maxLen ∧ (a = none → c = 0 ∧ xs = []) ∧ ItemsAt W a xs := by
  have hn : n = xs.length := by have := h.1; rw [itemCells_len] at this; omega
  refine ⟨hn, ?_⟩
  rcases h.2 with ⟨rfl, h0⟩ | ⟨g, cap, cur, rfl, hb, hg, h1, h2, _⟩
  · have hx : xs = [] := List.length_eq_zero_iff.1 (by omega)
    exact ⟨none, 0, by rw [h0], by omega, by unfold maxLen; omega, fun _ => ⟨rfl, hx⟩, .inl hx⟩
  · refine ⟨_, cap, rfl, h1, h2, (fun h => by cases h), .inr ⟨g, 0, rfl, (Array.getElem?_eq_some_iff.1 hg).1, fun i hi => ItemCells.of fun j hj => ?_⟩⟩
    have hc := itemCells_at xs i hi j hj
    have hv : xs[i].cells[j]? = some (xs[i].cells[j]'(by simpa [ItemD.cells] using hj)) := List.getElem?_eq_getElem _
    rw [hv] at hc ⊢
    have := h.cells (g := g) rfl _ _ hc
    rw [addr_add] at this
    rw [← Nat.add_assoc] at this
    exact this

theorem items_news {W : World} {ad : Addr} {ys : List ItemD} (h : ItemsAt W (some ad) ys) : ∀ j u, (itemCells ys)[j]? = some u → W.cell? (ad.add j) = some u := by
  intro j u hj
  have hjl : j < ys.length * 5 := by
    rcases Nat.lt_or_ge j (ys.length * 5) with h | h
    · exact h
    · rw [List.getElem?_eq_none (by rw [itemCells_len]; exact h)] at hj; cases hj
  rcases h with rfl | ⟨g, o, ha, _, h⟩
  · simp at hjl
  · cases ha
    have hi : j / 5 < ys.length := by omega
    have hr : j % 5 < 5 := Nat.mod_lt _ (by omega)
    have hc := (h (j / 5) hi).at hr
    have e : j / 5 * 5 + j % 5 = j := by omega
    have hk := itemCells_at ys (j / 5) hi (j % 5) hr
    rw [e] at hk
    rw [addr_add]
    rw [Nat.add_assoc, e] at hc
    rw [hc, ← hk, hj]

theorem grown_same (w : World) (row : Option Nat) : w.grownBy w row := ⟨rfl, rfl, rfl, Nat.le_refl _, fun _ _ _ => rfl⟩

/-- 'append(out, letters...)', out the call's own, the letters wherever they lie. -/
theorem append_items {w : World} {ops : Array Oper} {rest : List Oper} {o : Oper} {act : Act} {Q : Exit → Act → World → Prop} (hgd : o.guard = none) (s x : Operand)
    (ho : o.op = .call { callee := .builtin .append, args := #[s, x], argTypes := #[57, 57] })
    (base : Nat) (v : Value) (n : Nat) (xs : List ItemD) (hs : act.eval s = v) (hown : w.ownsRow base 59 5 v n (itemCells xs))
    (a : Option Addr) (m c : Nat) (ys : List ItemD) (hx : act.eval x = .slice a m c) (hm : ys.length = m) (hz : a = none → c = 0 ∧ ys = []) (hT : ItemsAt w a ys)
    (hb : n + m ≤ 100000000) (hbase : base ≤ w.heap.size)
    (h : ∀ v' w', w'.ownsRow base 59 5 v' (n + m) (itemCells (xs ++ ys)) → w.grownBy w' v.ownBlock → wpList Try.prog ops Q rest (act.put o.dst v') w') : wpList Try.prog ops Q (o :: rest) act w := by
  obtain ⟨i0, hi, hz0, hz1, hz2⟩ := info_parts Try.infoItem
  cases a with
  | none =>
    obtain ⟨rfl, rfl⟩ := hz rfl
    simp at hm
    subst hm
    exact wpList_append_own_none hgd s x _ ho base _ i0 5 Try.underlying57 hi v n _ hs hown hx (by
      have := h v w (by simpa using hown) (grown_same _ _)
      exact this)
  | some ad =>
    exact wpList_append_own _ hgd s x _ ho base _ i0 _ 5 56 Try.underlying57 hi hz0 hz1 hz2 rfl (by decide) v n _ hs hown ad m c (itemCells ys) hx (by rw [itemCells_len, hm]) (items_news hT) (itemCells_one ys) (by unfold maxLen; omega) (by omega) hbase (fun v' w' h1 h2 _ => h v' w' (by rw [itemCells_append]; exact h1) h2)

set_option maxHeartbeats 2000000 in
theorem grow_nil (n : Nat) (w : World) (h1 : 0 < n) (h2 : n ≤ 100000000) :
    Calls Try.prog 118 #[.slice none 0 0, .int .i64 n] w fun e w' => ∃ v, e = .returned v ∧ w'.ownsRow w.heap.size 59 5 v 0 (itemCells []) ∧ Below w.heap.size w w' := by
  obtain ⟨i0, hi, hz0, hz1, hz2⟩ := info_parts Try.infoItem
  have hrun := Lib.run_append_nil_zeros (P := Try.prog) w 57 3 57 59 i0 _ .i64 .i64 Try.underlying57 Try.underlying3 hi hz0 n h1 (by omega) (by omega) (by rw [hz2]; omega)
  obtain ⟨cap, hcap⟩ : ∃ cap, cap = grownCap w n 0 59 := ⟨_, rfl⟩
  have hge : n ≤ cap := by rw [hcap]; exact grownCap_ge _ _ _ _
  have hle : cap ≤ maxLen := by rw [hcap]; exact grownCap_le_maxLen _ _ _ _ (by unfold maxLen; omega)
  rw [← hcap] at hrun
  obtain ⟨cs, hcs⟩ : ∃ cs, cs = Builtin.zeroCells (Value.agg #[.int .i64 0, .string ⟨#[]⟩, .string ⟨#[]⟩, .bool false, .int .i64 0]).cells n ++ Builtin.zeroCells (Value.agg #[.int .i64 0, .string ⟨#[]⟩, .string ⟨#[]⟩, .bool false, .int .i64 0]).cells (cap - n) := ⟨_, rfl⟩
  have hsz : cs.size = cap * 5 := by rw [hcs]; simp [size_zeroCells, Value.cells]; omega
  rw [← hcs] at hrun
  have HS : Hid (cs.size = cap * 5) := hsz
  have HL : Hid (cap ≤ maxLen) := hle
  clear hsz hcs hcap hle
  have q0 : ¬ (n : Int) < 0 := by omega
  have q1 : (0 : Int) < n := by omega
  have q2 : IntKind.i64.wrap (n : Int) = (n : Int) := i64_nat _ (by omega)
  go_enter Try.func118, Try.ntmps118
  go_wp2_with (at_builtin; refine Lib.wpList_append_run _ rfl _ _ _ _ rfl _ _ rfl rfl _ _ hrun ?_)
  go_ret
  have hown := World.ownsRow_made (base := w.heap.size) (e := 59) (size := 5) w.drew cs cap (by simp) HL.out HS.out
  exact ⟨_, rfl, hown, (by repeat (first | exact Below.refl _ _ | assumption | refine Below.drew ?_ | refine Below.alloc ?_ (by first | (simp; done) | (simp; omega) | omega) _ | refine Below.setCell ?_ (by first | (simp; done) | (simp; omega) | omega) _))⟩
end Go.Proofs.Ythhkpgnjpieckaa
