import Derived.Laws.AppendOwnNone
import Derived.Lib.AppendZeros
import Derived.Test.YtpoichgodamnkaaLc
import Derived.Laws.StructEq
import Derived.Deep.QuietTactic
import Derived.BigQuiet
/- Lr -/
namespace Go.Proofs.Ytpoichgodamnkaa
set_option linter.unusedVariables false
set_option maxRecDepth 100000
open Go.RowKit

theorem Try.infoItem : (Try.prog.info? 51).map (fun i => (i.zero, i.size, i.bytes)) = some (some (.agg #[.int .i64 0, .string ⟨#[]⟩, .string ⟨#[]⟩, .bool false, .int .i64 0]), 5, 56) := by kernel_rfl

def ItemD.cells (x : ItemD) : List Value := [.int .i64 x.seq, .string x.key, .string x.body, .bool x.again, .int .i64 x.deaths]
def itemCells (xs : List ItemD) : List Value := xs.flatMap ItemD.cells
theorem itemCells_len (xs : List ItemD) : (itemCells xs).length = xs.length * 5 := by
  induction xs with
  | nil => rfl
  | cons x r ih => unfold itemCells at ih ⊢; rw [List.flatMap_cons, List.length_append, ih]; simp [ItemD.cells]; omega
theorem itemCells_at : ∀ (xs : List ItemD) (i : Nat) (h : i < xs.length) (j : Nat), j < 5 → (itemCells xs)[i * 5 + j]? = (xs[i].cells)[j]?
  | [], i, h, _, _ => by simp at h
  | x :: r, 0, h, j, hj => by
    unfold itemCells
    rw [List.flatMap_cons, List.getElem?_append_left (by simp [ItemD.cells]; omega)]
    simp
  | x :: r, i + 1, h, j, hj => by
    have ih := itemCells_at r i (by simpa using h) j hj
    unfold itemCells at ih ⊢
    rw [List.flatMap_cons, List.getElem?_append_right (by simp [ItemD.cells]; omega)]
    have e : (i + 1) * 5 + j - x.cells.length = i * 5 + j := by simp [ItemD.cells]; omega
    rw [e, ih]; simp
theorem itemCells_append (xs ys : List ItemD) : itemCells (xs ++ ys) = itemCells xs ++ itemCells ys := by unfold itemCells; rw [List.flatMap_append]
theorem itemCells_one (xs : List ItemD) : ∀ u ∈ itemCells xs, u.oneCell' = true := by
  intro u hu
  obtain ⟨x, _, hx⟩ := List.mem_flatMap.1 hu
  simp [ItemD.cells] at hx
  rcases hx with rfl | rfl | rfl | rfl | rfl <;> rfl

theorem ItemCells.of {W : World} {g o : Nat} {x : ItemD} (h : ∀ j, j < 5 → W.cell? ⟨g, o + j, none⟩ = x.cells[j]?) : ItemCells W g o x :=
  ⟨h 0 (by omega), h 1 (by omega), h 2 (by omega), h 3 (by omega), h 4 (by omega)⟩
theorem ItemCells.at {W : World} {g o : Nat} {x : ItemD} (h : ItemCells W g o x) {j : Nat} (hj : j < 5) : W.cell? ⟨g, o + j, none⟩ = x.cells[j]? := by
  obtain ⟨h0, h1, h2, h3, h4⟩ := h
  match j, hj with
  | 0, _ => exact h0
  | 1, _ => exact h1
  | 2, _ => exact h2
  | 3, _ => exact h3
  | 4, _ => exact h4

theorem addr_add (g o j : Nat) : (⟨g, o, none⟩ : Addr).add j = ⟨g, o + j, none⟩ := by unfold Addr.add; split <;> simp_all

theorem own_items {W : World} {base : Nat} {T : TypeId} {v : Value} {n : Nat} {xs : List ItemD} (h : W.ownsRow base T 5 v n (itemCells xs)) :
    n = xs.length ∧ ∃ a c, v = .slice a n c ∧ n ≤ c ∧ c ≤ maxLen ∧ (a = none → c = 0 ∧ xs = []) ∧ ItemsAt W a xs := by
  have hn : n = xs.length := by have := h.1; rw [itemCells_len] at this; omega
  refine ⟨hn, ?_⟩
  rcases h.2 with ⟨rfl, h0⟩ | ⟨g, cap, cur, rfl, hb, hg, h1, h2, _⟩
  · have hx : xs = [] := List.length_eq_zero_iff.1 (by omega)
    exact ⟨none, 0, by rw [h0], by omega, by unfold maxLen; omega, fun _ => ⟨rfl, hx⟩, .inl hx⟩
  · refine ⟨_, cap, rfl, h1, h2, (fun h => by cases h), .inr ⟨g, 0, rfl, (Array.getElem?_eq_some_iff.1 hg).1, fun i hi => ItemCells.of fun j hj => ?_⟩⟩
    have hc := itemCells_at xs i hi j hj
    have hv : xs[i].cells[j]? = some (xs[i].cells[j]'(by simpa [ItemD.cells] using hj)) := List.getElem?_eq_getElem _
    rw [hv] at hc ⊢
    have := h.cells (g := g) rfl _ _ hc
    rw [addr_add] at this
    rw [← Nat.add_assoc] at this
    exact this

theorem items_news {W : World} {ad : Addr} {ys : List ItemD} (h : ItemsAt W (some ad) ys) : ∀ j u, (itemCells ys)[j]? = some u → W.cell? (ad.add j) = some u := by
  intro j u hj
  have hjl : j < ys.length * 5 := by
    rcases Nat.lt_or_ge j (ys.length * 5) with h | h
    · exact h
    · rw [List.getElem?_eq_none (by rw [itemCells_len]; exact h)] at hj; cases hj
  rcases h with rfl | ⟨g, o, ha, _, h⟩
  · simp at hjl
  · cases ha
    have hi : j / 5 < ys.length := by omega
    have hr : j % 5 < 5 := Nat.mod_lt _ (by omega)
    have hc := (h (j / 5) hi).at hr
    have e : j / 5 * 5 + j % 5 = j := by omega
    have hk := itemCells_at ys (j / 5) hi (j % 5) hr
    rw [e] at hk
    rw [addr_add]
    rw [Nat.add_assoc, e] at hc
    rw [hc, ← hk, hj]

theorem grown_same (w : World) (row : Option Nat) : w.grownBy w row := ⟨rfl, rfl, rfl, Nat.le_refl _, fun _ _ _ => rfl⟩

/-- 'append(out, letters...)', out the call's own, the letters wherever they lie. -/
theorem append_items {w : World} {ops : Array Oper} {rest : List Oper} {o : Oper} {act : Act} {Q : Exit → Act → World → Prop} (hgd : o.guard = none) (s x : Operand)
    (ho : o.op = .call { callee := .builtin .append, args := #[s, x], argTypes := #[49, 49] })
    (base : Nat) (v : Value) (n : Nat) (xs : List ItemD) (hs : act.eval s = v) (hown : w.ownsRow base 51 5 v n (itemCells xs))
    (a : Option Addr) (m c : Nat) (ys : List ItemD) (hx : act.eval x = .slice a m c) (hm : ys.length = m) (hz : a = none → c = 0 ∧ ys = []) (hT : ItemsAt w a ys)
    (hb : n + m ≤ 100000000) (hbase : base ≤ w.heap.size)
    (h : ∀ v' w', w'.ownsRow base 51 5 v' (n + m) (itemCells (xs ++ ys)) → w.grownBy w' v.ownBlock → wpList Try.prog ops Q rest (act.put o.dst v') w') : wpList Try.prog ops Q (o :: rest) act w := by
  obtain ⟨i0, hi, hz0, hz1, hz2⟩ := info_parts Try.infoItem
  cases a with
  | none =>
    obtain ⟨rfl, rfl⟩ := hz rfl
    simp at hm
    subst hm
    exact wpList_append_own_none hgd s x _ ho base _ i0 5 Try.underlying49 hi v n _ hs hown hx (by
      have := h v w (by simpa using hown) (grown_same _ _)
      exact this)
  | some ad =>
    exact wpList_append_own _ hgd s x _ ho base _ i0 _ 5 56 Try.underlying49 hi hz0 hz1 hz2 rfl (by decide) v n _ hs hown ad m c (itemCells ys) hx (by rw [itemCells_len, hm]) (items_news hT) (itemCells_one ys) (by unfold maxLen; omega) (by omega) hbase (fun v' w' h1 h2 _ => h v' w' (by rw [itemCells_append]; exact h1) h2)

end Go.Proofs.Ytpoichgodamnkaa

/- Lp -/
namespace Go.Proofs.Ytpoichgodamnkaa
set_option linter.unusedVariables false
set_option maxRecDepth 100000
open Go.RowKit

/-- The first letter whose Seq is not below q; how many lie ahead of it. -/
def idxSeq (q : Int) : List ItemD → Nat
  | [] => 0
  | x :: r => if q ≤ x.seq then 0 else idxSeq q r + 1
def idxI (q : Int) (xs : List ItemD) : Int := if idxSeq q xs < xs.length then idxSeq q xs else -1

theorem idxSeq_le (q : Int) : ∀ xs : List ItemD, idxSeq q xs ≤ xs.length
  | [] => by simp [idxSeq]
  | x :: r => by
    have := idxSeq_le q r
    unfold idxSeq
    split <;> simp <;> omega

def sum3 (a b c : Nat) : Nat → Nat
  | 0 => 0
  | 1 => a
  | 2 => a + b
  | _ => a + b + c
def cat3 (x y z : List ItemD) : Nat → List ItemD
  | 0 => []
  | 1 => x
  | 2 => x ++ y
  | _ => x ++ y ++ z

end Go.Proofs.Ytpoichgodamnkaa

/- Lu -/
namespace Go.Proofs.Ytpoichgodamnkaa
set_option linter.unusedVariables false
set_option maxRecDepth 100000
open Go.RowKit

def pushHas (q : Int) (xs : List ItemD) : Bool := (xs[idxSeq q xs]?.map ItemD.seq) == some q
def pushL (xs : List ItemD) (x : ItemD) : List ItemD := xs.take (idxSeq x.seq xs) ++ [x] ++ xs.drop (idxSeq x.seq xs)
def pushE (xs : List ItemD) (x : ItemD) : Int := if lineOk xs = true then (if itemOk x = true then (if pushHas x.seq xs = true then 6 else 0) else 1) else 1
def pushV (xs : List ItemD) (x : ItemD) : List ItemD := if pushE xs x = 0 then pushL xs x else []

theorem lineFrom_few : ∀ {xs : List ItemD} {last : Int}, last ≤ 1048575 → lineFrom last xs = true → (xs.length : Int) ≤ 1048575 - last
  | [], last, h, _ => by simp; omega
  | x :: r, last, h, hl => by
    unfold lineFrom at hl
    simp only [Bool.and_eq_true, decide_eq_true_eq] at hl
    obtain ⟨⟨h1, h2⟩, h3⟩ := hl
    have hx : x.seq ≤ 1048575 := by unfold itemOk itemNums at h1; simp at h1; omega
    have := lineFrom_few hx h3
    simp only [List.length_cons]; omega
theorem lineOk_few {xs : List ItemD} (h : lineOk xs = true) : xs.length ≤ 1048576 := by
  have := lineFrom_few (by omega) h; omega

theorem own_base {W : World} {base base' : Nat} {e : TypeId} {size : Nat} {v : Value} {n : Nat} {xs : List Value} (h : W.ownsRow base e size v n xs) (hb : base' ≤ base) : W.ownsRow base' e size v n xs := by
  refine ⟨h.1, ?_⟩
  rcases h.2 with h | ⟨g, cap, cur, h1, h2, h3⟩
  · exact .inl h
  · exact .inr ⟨g, cap, cur, h1, Nat.le_trans hb h2, h3⟩
theorem ret_vi {v : Value} {a b : Int} (h : a = b) : Ending.returned (.tuple #[v, .int .i64 a]) = .returned (.tuple #[v, .int .i64 b]) := by rw [h]

theorem cell_blk {W : World} {b : Nat} {cs : Array Value} {t : TypeId} (h : W.heap[b]? = some (.cells cs t (0, 0))) (i : Nat) : W.cell? ⟨b, i, none⟩ = cs[i]? := by
  unfold World.cell?; simp only; rw [h]; rfl
theorem ItemsAt.take {W : World} {a : Option Addr} {xs : List ItemD} (h : ItemsAt W a xs) (i : Nat) : ItemsAt W a (xs.take i) := by
  rcases h with h | ⟨g, o, ha, hg, h⟩
  · exact .inl (by rw [h]; simp)
  · exact .inr ⟨g, o, ha, hg, fun j hj => by
      have hj' : j < xs.length := by simp at hj; omega
      have := h j hj'
      simpa using this⟩
theorem ItemsAt.drop {W : World} {a : Option Addr} {xs : List ItemD} (h : ItemsAt W a xs) (i c : Nat) (hc : xs.length ≤ c) : ItemsAt W (if c = i then a else Option.map (fun x => x.add (i * 5)) a) (xs.drop i) := by
  by_cases hci : c = i
  · exact .inl (List.drop_eq_nil_of_le (by omega))
  · rw [if_neg hci]
    rcases h with h | ⟨g, o, ha, hg, h⟩
    · exact .inl (by rw [h]; simp)
    · subst ha
      refine .inr ⟨g, o + i * 5, by simp [addr_add], hg, fun j hj => ?_⟩
      have hj' : i + j < xs.length := by simp at hj; omega
      have := h (i + j) hj'
      have e : o + i * 5 + j * 5 = o + (i + j) * 5 := by omega
      rw [e]
      simpa using this
theorem ItemsAt.single {W : World} {hb : Nat} {t : TypeId} {x : ItemD} (h : W.heap[hb]? = some (.cells #[.int .i64 x.seq, .string x.key, .string x.body, .bool x.again, .int .i64 x.deaths] t (0, 0))) : ItemsAt W (some ⟨hb, 0, none⟩) [x] :=
  .inr ⟨hb, 0, rfl, (Array.getElem?_eq_some_iff.1 h).1, fun j hj => by
    have hj0 : j = 0 := by simp at hj; omega
    subst hj0
    exact ⟨cell_blk h 0, cell_blk h 1, cell_blk h 2, cell_blk h 3, cell_blk h 4⟩⟩

end Go.Proofs.Ytpoichgodamnkaa

/- Lv -/
namespace Go.Proofs.Ytpoichgodamnkaa
set_option linter.unusedVariables false
set_option maxRecDepth 100000
open Go.RowKit

end Go.Proofs.Ytpoichgodamnkaa

/- Lw -/
namespace Go.Proofs.Ytpoichgodamnkaa
set_option linter.unusedVariables false
set_option maxRecDepth 100000
open Go.RowKit

end Go.Proofs.Ytpoichgodamnkaa

/- Ls -/
namespace Go.Proofs.Ytpoichgodamnkaa
set_option linter.unusedVariables false
set_option maxRecDepth 100000
open Go.RowKit

set_option maxHeartbeats 4000000 in
theorem same_items (xs : List ItemD) (a1 a2 : Option Addr) (n c1 c2 : Nat) (w : World) (hn : xs.length = n) (hm : n ≤ maxLen) (h1 : ItemsAt w a1 xs) (h2 : ItemsAt w a2 xs) :
    Calls Try.prog 27 #[.slice a1 n c1, .slice a2 n c2] w fun e w' => e = .returned (.bool true) ∧ Below w.heap.size w w' := by
  have HN : Hid (xs.length = n) := hn
  have HP : Hid (ItemsAt w a1 xs ∧ ItemsAt w a2 xs) := ⟨h1, h2⟩
  unfold maxLen at hm
  clear hn h1 h2
  go_enter Try.func27, Try.ntmps27
  go_wp2
  go_loopw [5] (fun i wr => ∃ (k : Nat), k ≤ n ∧ i = .int .i64 k ∧ Below w.heap.size w wr) (fun i _ => n - (intOf i).toNat)
  case atStart => exact ⟨0, Nat.zero_le _, rfl, Below.refl _ _⟩
  case round =>
    obtain ⟨k, hk, rfl, hB⟩ := hrel
    have hBs := hB.size
    by_cases hlt : k < n
    · have hkl : k < xs.length := by rw [HN.out]; exact hlt
      obtain ⟨g, o, rfl, hg, hx⟩ := HP.out.1.cells (by omega)
      obtain ⟨g', o', rfl, hg', hx'⟩ := HP.out.2.cells (by omega)
      obtain ⟨x, hxx⟩ : ∃ x, x = xs[k] := ⟨_, rfl⟩
      have hc := (hx k hkl).keep hB hg
      have hc' := (hx' k hkl).keep hB hg'
      rw [← hxx] at hc hc'
      clear hx hx' hxx
      obtain ⟨s, ky, b, ag, d⟩ := x
      have j1 : (0 : Int) ≤ (k : Int) := by omega
      have j2 : (k : Int) < n := by omega
      go_wp2_with fail
      refine wp_region_held_drew (S := fun w' => (w'.cell? ⟨g, o + k * 5, none⟩ = some (.int .i64 s) ∧ w'.cell? ⟨g, o + k * 5 + 1, none⟩ = some (.string ky) ∧ w'.cell? ⟨g, o + k * 5 + 2, none⟩ = some (.string b) ∧ w'.cell? ⟨g, o + k * 5 + 3, none⟩ = some (.bool ag) ∧ w'.cell? ⟨g, o + k * 5 + 4, none⟩ = some (.int .i64 d)) ∧
        (w'.cell? ⟨g', o' + k * 5, none⟩ = some (.int .i64 s) ∧ w'.cell? ⟨g', o' + k * 5 + 1, none⟩ = some (.string ky) ∧ w'.cell? ⟨g', o' + k * 5 + 2, none⟩ = some (.string b) ∧ w'.cell? ⟨g', o' + k * 5 + 3, none⟩ = some (.bool ag) ∧ w'.cell? ⟨g', o' + k * 5 + 4, none⟩ = some (.int .i64 d))) (by kernel_rfl) ⟨hc, hc'⟩ (fun hHeld => ?_)
      (refine wpAnyH_take (i := 0) (v := ?_) rfl (by kernel_rfl) (by kernel_rfl) (by kernel_rfl) (fun _ _ _ h => h) (Or.inl ⟨by kernel_rfl, ?_⟩) (by assumption) ?_; rotate_left; (focus (intro w hSw; (try dsimp only at hSw); go_simp; (try with_reducible rfl))); (try simp only [Act.put, List.getElem_toArray, List.getElem_cons_zero, List.setIfInBounds_toArray, List.set_cons_zero, List.set_cons_succ]))
      (refine wpAnyH_take (i := 1) (v := ?_) rfl (by kernel_rfl) (by kernel_rfl) (by kernel_rfl) (fun _ _ _ h => h) (Or.inl ⟨by kernel_rfl, ?_⟩) (by assumption) ?_; rotate_left; (focus (intro w hSw; (try dsimp only at hSw); go_simp; (try with_reducible rfl))); (try simp only [Act.put, List.getElem_toArray, List.getElem_cons_succ, List.getElem_cons_zero, List.setIfInBounds_toArray, List.set_cons_zero, List.set_cons_succ]))
      (refine wpAnyH_take (i := 2) (v := ?_) rfl (by kernel_rfl) (by kernel_rfl) (by kernel_rfl) (fun _ _ _ h => h) (Or.inl ⟨by kernel_rfl, ?_⟩) (by assumption) ?_; rotate_left; (focus (intro w hSw; (try dsimp only at hSw); go_simp; (try with_reducible rfl))); (try simp only [Act.put, List.getElem_toArray, List.getElem_cons_succ, List.getElem_cons_zero, List.setIfInBounds_toArray, List.set_cons_zero, List.set_cons_succ]))
      (refine wpAnyH_take (i := 3) (v := ?_) rfl (by kernel_rfl) (by kernel_rfl) (by kernel_rfl) (fun _ _ _ h => h) (Or.inl ⟨by kernel_rfl, ?_⟩) (by assumption) ?_; rotate_left; (focus (intro w hSw; (try dsimp only at hSw); go_simp; (try with_reducible rfl))); (try simp only [Act.put, List.getElem_toArray, List.getElem_cons_succ, List.getElem_cons_zero, List.setIfInBounds_toArray, List.set_cons_zero, List.set_cons_succ]))
      (refine wpAnyH_take (i := 4) (v := ?_) rfl (by kernel_rfl) (by kernel_rfl) (by kernel_rfl) (fun _ _ _ h => h) (Or.inl ⟨by kernel_rfl, ?_⟩) (by assumption) ?_; rotate_left; (focus (intro w hSw; (try dsimp only at hSw); go_simp; (try with_reducible rfl))); (try simp only [Act.put, List.getElem_toArray, List.getElem_cons_succ, List.getElem_cons_zero, List.setIfInBounds_toArray, List.set_cons_zero, List.set_cons_succ]))
      (refine wpAnyH_take (i := 5) (v := ?_) rfl (by kernel_rfl) (by kernel_rfl) (by kernel_rfl) (fun _ _ _ h => h) (Or.inl ⟨by kernel_rfl, ?_⟩) (by assumption) ?_; rotate_left; (focus (intro w hSw; (try dsimp only at hSw); go_simp; (try with_reducible rfl))); (try simp only [Act.put, List.getElem_toArray, List.getElem_cons_succ, List.getElem_cons_zero, List.setIfInBounds_toArray, List.set_cons_zero, List.set_cons_succ]))
      (refine wpAnyH_take (i := 6) (v := ?_) rfl (by kernel_rfl) (by kernel_rfl) (by kernel_rfl) (fun _ _ _ h => h) (Or.inl ⟨by kernel_rfl, ?_⟩) (by assumption) ?_; rotate_left; (focus (intro w hSw; (try dsimp only at hSw); go_simp; (try with_reducible rfl))); (try simp only [Act.put, List.getElem_toArray, List.getElem_cons_succ, List.getElem_cons_zero, List.setIfInBounds_toArray, List.set_cons_zero, List.set_cons_succ]))
      (refine wpAnyH_take (i := 7) (v := ?_) rfl (by kernel_rfl) (by kernel_rfl) (by kernel_rfl) (fun _ _ _ h => h) (Or.inl ⟨by kernel_rfl, ?_⟩) (by assumption) ?_; rotate_left; (focus (intro w hSw; (try dsimp only at hSw); go_simp; (try with_reducible rfl))); (try simp only [Act.put, List.getElem_toArray, List.getElem_cons_succ, List.getElem_cons_zero, List.setIfInBounds_toArray, List.set_cons_zero, List.set_cons_succ]))
      (refine wpAnyH_take (i := 8) (v := ?_) rfl (by kernel_rfl) (by kernel_rfl) (by kernel_rfl) (fun _ _ _ h => h) (Or.inl ⟨by kernel_rfl, ?_⟩) (by assumption) ?_; rotate_left; (focus (intro w hSw; (try dsimp only at hSw); go_simp; (try with_reducible rfl))); (try simp only [Act.put, List.getElem_toArray, List.getElem_cons_succ, List.getElem_cons_zero, List.setIfInBounds_toArray, List.set_cons_zero, List.set_cons_succ]))
      refine wpAnyH_done (by kernel_rfl) ?_ _
      go_wp2_with fail
      go_roundw
      case rel => exact ⟨k + 1, by omega, by go_num, ⟨hB.os, hB.tape, hB.output, hB.size, hB.block⟩⟩
      case measure => simp [intOf]; omega
    · go_wp2
      go_ret
      exact ⟨rfl, hB⟩

end Go.Proofs.Ytpoichgodamnkaa

/- Lx -/
namespace Go.Proofs.Ytpoichgodamnkaa
set_option linter.unusedVariables false
set_option maxRecDepth 100000
open Go.RowKit

theorem idx_below {s : Int} : ∀ {xs : List ItemD} {j : Nat}, j < idxSeq s xs → ∃ h : j < xs.length, xs[j].seq < s
  | [], j, h => by simp [idxSeq] at h
  | x :: r, j, h => by
    unfold idxSeq at h
    by_cases hx : s ≤ x.seq
    · rw [if_pos hx] at h; omega
    · rw [if_neg hx] at h
      cases j with
      | zero => exact ⟨by simp, by simp; omega⟩
      | succ j => obtain ⟨h1, h2⟩ := idx_below (s := s) (xs := r) (j := j) (by omega); exact ⟨by simp; omega, by simpa using h2⟩
theorem idx_at {s : Int} : ∀ {xs : List ItemD} (h : idxSeq s xs < xs.length), s ≤ xs[idxSeq s xs].seq
  | [], h => by simp at h
  | x :: r, h => by
    by_cases hx : s ≤ x.seq
    · have e : idxSeq s (x :: r) = 0 := by unfold idxSeq; rw [if_pos hx]
      simp [e, hx]
    · have e : idxSeq s (x :: r) = idxSeq s r + 1 := by conv => lhs; unfold idxSeq
                                                        rw [if_neg hx]
      have h' : idxSeq s r < r.length := by rw [e] at h; simpa using h
      have := idx_at h'
      simpa [e] using this

def pushK (xs : List ItemD) (x : ItemD) (k : Nat) : List ItemD := if idxSeq x.seq xs < k then (pushL xs x).take (k + 1) else xs.take k
theorem pushL_len (xs : List ItemD) (x : ItemD) : (pushL xs x).length = xs.length + 1 := by
  have := idxSeq_le x.seq xs
  unfold pushL; simp; omega
theorem pushL_get {xs : List ItemD} {x : ItemD} {k : Nat} (h : idxSeq x.seq xs ≤ k) (hk : k < xs.length) : (pushL xs x)[k + 1]? = some xs[k] := by
  have h1 := idxSeq_le x.seq xs
  unfold pushL
  rw [List.getElem?_append_right (by simp; omega), List.getElem?_drop]
  have e : idxSeq x.seq xs + (k + 1 - (List.take (idxSeq x.seq xs) xs ++ [x]).length) = k := by simp; omega
  rw [e, List.getElem?_eq_getElem hk]
theorem pushK_zero (xs : List ItemD) (x : ItemD) : pushK xs x 0 = [] := by unfold pushK; simp
theorem pushK_other {xs : List ItemD} {x : ItemD} {k : Nat} (hk : k < xs.length) (h : idxSeq x.seq xs ≠ k) : pushK xs x (k + 1) = pushK xs x k ++ [xs[k]] := by
  unfold pushK
  by_cases h1 : idxSeq x.seq xs < k
  · rw [if_pos h1, if_pos (by omega), List.take_add_one, pushL_get (by omega) hk]; rfl
  · rw [if_neg h1, if_neg (by omega), List.take_succ_eq_append_getElem hk]
theorem pushK_here {xs : List ItemD} {x : ItemD} {k : Nat} (hk : k < xs.length) (h : idxSeq x.seq xs = k) : pushK xs x (k + 1) = pushK xs x k ++ [x] ++ [xs[k]] := by
  unfold pushK
  rw [if_pos (show idxSeq x.seq xs < k + 1 by omega), if_neg (show ¬ idxSeq x.seq xs < k by omega), List.take_add_one, pushL_get (by omega) hk]
  have e : (pushL xs x).take (k + 1) = xs.take k ++ [x] := by
    unfold pushL; rw [h, List.take_append_of_le_length (by simp; omega), List.take_of_length_le (by simp; omega)]
  rw [e]; rfl
theorem pushK_len {xs : List ItemD} {x : ItemD} {k : Nat} (hk : k ≤ xs.length) : (pushK xs x k).length ≤ xs.length + 1 := by
  unfold pushK; split
  · rw [List.length_take, pushL_len]; omega
  · rw [List.length_take]; omega
theorem pushK_all {xs : List ItemD} {x : ItemD} (h : idxSeq x.seq xs < xs.length) : pushK xs x xs.length = pushL xs x := by
  unfold pushK; rw [if_pos h, List.take_of_length_le (by rw [pushL_len]; omega)]
theorem pushK_end {xs : List ItemD} {x : ItemD} (h : ¬ idxSeq x.seq xs < xs.length) : pushL xs x = pushK xs x xs.length ++ [x] := by
  have := idxSeq_le x.seq xs
  have e : idxSeq x.seq xs = xs.length := by omega
  unfold pushK; rw [if_neg h]; unfold pushL; rw [e]; simp

theorem below_drewL {b n : Nat} {W w' : World} (h : Below b W w') : Below b W (w'.drewN n) := ⟨h.os, h.tape, h.output, h.size, h.block⟩
theorem app_below {W1 wq w3 : World} {o : Obj} {v : Value} {T : TypeId} {m : Nat} {xs : List Value} (hB : Below W1.heap.size W1 wq) (hrow : wq.ownsRow W1.heap.size T 5 v m xs) (hg : (wq.alloc o).grownBy w3 v.ownBlock) : Below W1.heap.size W1 w3 :=
  (hB.alloc hB.size o).grown hg (by have := hB.size; simp; omega) (own_ge hrow)

end Go.Proofs.Ytpoichgodamnkaa

/- Ly2 -/
namespace Go.Proofs.Ytpoichgodamnkaa
set_option linter.unusedVariables false
set_option maxRecDepth 100000
open Go.RowKit

theorem lineFrom_rise : ∀ {xs : List ItemD} {last : Int}, lineFrom last xs = true → xs.Pairwise (fun x y => x.seq < y.seq) ∧ ∀ x ∈ xs, last < x.seq
  | [], last, _ => ⟨List.Pairwise.nil, by simp⟩
  | x :: r, last, h => by
    unfold lineFrom at h
    simp only [Bool.and_eq_true, decide_eq_true_eq] at h
    obtain ⟨⟨h1, h2⟩, h3⟩ := h
    obtain ⟨h4, h5⟩ := lineFrom_rise h3
    refine ⟨List.pairwise_cons.2 ⟨h5, h4⟩, ?_⟩
    intro y hy
    rcases List.mem_cons.1 hy with rfl | hy
    · exact h2
    · have := h5 y hy; omega
theorem lineOk_rise {xs : List ItemD} (h : lineOk xs = true) {i j : Nat} (hj : j < xs.length) (hij : i < j) : (xs[i]'(by omega)).seq < xs[j].seq :=
  List.pairwise_iff_getElem.1 (lineFrom_rise h).1 i j (by omega) hj hij
theorem has_yes {xs : List ItemD} (hl : lineOk xs = true) {k : Nat} {s : Int} (hk : k < xs.length) (h : xs[k].seq = s) : pushHas s xs = true := by
  have h1 : idxSeq s xs ≤ k := by
    rcases Nat.lt_or_ge k (idxSeq s xs) with h1 | h1
    · obtain ⟨_, h2⟩ := idx_below h1; omega
    · exact h1
  have h2 := idx_at (s := s) (xs := xs) (by omega)
  have h3 : idxSeq s xs = k := by
    rcases Nat.lt_or_ge (idxSeq s xs) k with h3 | h3
    · have := lineOk_rise hl hk h3; omega
    · omega
  unfold pushHas
  rw [h3, List.getElem?_eq_getElem hk]; simp [h]
theorem has_no {xs : List ItemD} {n k : Nat} {s : Int} (hn : xs.length = n) (hk : ¬ k < n) (h : ∀ j (hj : j < xs.length), j < k → ¬ xs[j].seq = s) : pushHas s xs = false := by
  unfold pushHas
  by_cases h1 : idxSeq s xs < xs.length
  · rw [List.getElem?_eq_getElem h1]; simp [h _ h1 (by omega)]
  · rw [List.getElem?_eq_none (by omega)]; simp

end Go.Proofs.Ytpoichgodamnkaa

/- Lz -/
namespace Go.Proofs.Ytpoichgodamnkaa
set_option linter.unusedVariables false
set_option maxRecDepth 100000
open Go.RowKit

def shedE (xs : List ItemD) (limit : Int) : Int := if lineOk xs = true then (if limit < 0 then 3 else 0) else 1
/-- How many are shed. -/
def shedN (n : Nat) (limit : Int) : Nat := ((n : Int) - limit).toNat
def shedA (xs : List ItemD) (limit : Int) : List ItemD := if shedE xs limit = 0 then xs.drop (shedN xs.length limit) else []
def shedB (xs : List ItemD) (limit : Int) : List ItemD := if shedE xs limit = 0 then xs.take (shedN xs.length limit) else []
theorem ret_vvi {u v : Value} {a b : Int} (h : a = b) : Ending.returned (.tuple #[u, v, .int .i64 a]) = .returned (.tuple #[u, v, .int .i64 b]) := by rw [h]
theorem shedN_le {n : Nat} {limit : Int} (h : 0 ≤ limit) : shedN n limit ≤ n := by unfold shedN; omega

theorem copied_two {w1 w2 : World} {base : Nat} {v : Value} {n : Nat} {xs : List Value} {e : TypeId} {size : Nat} (h : w1.ownsRow base e size v n xs) (hB : Below w1.heap.size w1 w2) : w2.ownsRow base e size v n xs := by
  refine ⟨h.1, ?_⟩
  rcases h.2 with h | ⟨g, cap, cur, h1, h2, h3, h4⟩
  · exact .inl h
  · exact .inr ⟨g, cap, cur, h1, h2, (hB.block g (Array.getElem?_eq_some_iff.1 h3).1).trans h3, h4⟩

end Go.Proofs.Ytpoichgodamnkaa
