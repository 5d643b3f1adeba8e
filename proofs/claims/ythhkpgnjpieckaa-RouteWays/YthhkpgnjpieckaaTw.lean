/- Is one of some texts there twice? mailcoachref.twice, plan.anyTwice. -/
import Derived.Maps.OwnSet
import Derived.StringKeys
import Derived.Test.YthhkpgnjpieckaaPn
namespace Go.Proofs.Ythhkpgnjpieckaa
set_option linter.unusedVariables false
set_option maxRecDepth 100000
open Go.RowKit Go.Maps

def tx (xs : List ByteArray) (i : Nat) : ByteArray := xs.getD i ⟨#[]⟩
theorem tx_get {xs : List ByteArray} {i : Nat} (h : i < xs.length) : tx xs i = xs[i] := by simp [tx, List.getD, h]
/-- The texts so far, no two alike. -/
def OnceT (xs : List ByteArray) (k : Nat) : Prop := ∀ i j, i < k → j < i → tx xs i ≠ tx xs j
def dupB (xs : List ByteArray) : Bool := (List.range xs.length).any (fun i => (List.range i).any (fun j => decide (tx xs i = tx xs j)))

theorem dupB_yes {xs : List ByteArray} {i j : Nat} (hi : i < xs.length) (hj : j < i) (h : tx xs i = tx xs j) : dupB xs = true := by
  unfold dupB
  rw [List.any_eq_true]
  refine ⟨i, by simp [hi], ?_⟩
  rw [List.any_eq_true]
  exact ⟨j, by simp [hj], by simp [h]⟩
theorem dupB_no {xs : List ByteArray} {k n : Nat} (hn : xs.length = n) (hk : ¬ k < n) (h : OnceT xs k) : dupB xs = false := by
  unfold dupB
  rw [List.any_eq_false]
  intro i hi
  simp only [List.mem_range] at hi
  simp only [Bool.not_eq_true]
  rw [List.any_eq_false]
  intro j hj
  simp only [List.mem_range] at hj
  simp [h i j (by omega) hj]
theorem OnceT.succ {xs : List ByteArray} {k : Nat} (h : OnceT xs k) (hk : ∀ j, j < k → tx xs k ≠ tx xs j) : OnceT xs (k + 1) := by
  intro i j hi hj
  by_cases e : i = k
  · subst e; exact hk j hj
  · exact h i j (by omega) hj
theorem ba_ext {x y : ByteArray} (h : x.data.toList = y.data.toList) : x = y := by
  cases x; cases y; simp at h; simp [h]
theorem ba_ne {x y : ByteArray} (h : x ≠ y) : (x.toList == y.toList) = false := by
  rw [Lib.toList_data, Lib.toList_data]; simpa using fun e => h (ba_ext (by simpa using e))

set_option maxRecDepth 100000 in
set_option maxHeartbeats 2000000 in
theorem twice_any (xs : List ByteArray) (a : Option Addr) (n c : Nat) (w : World) (hn : xs.length = n) (h100 : n ≤ 100) (hp : TextsAt w a xs) :
    Calls Try.prog 73 #[.slice a n c] w fun e w' => e = .returned (.bool (dupB xs)) ∧ ∃ m, w' = w.drewN m := by
  have HN : Hid (xs.length = n) := hn
  have HP : Hid (TextsAt w a xs) := hp
  clear hn hp
  go_enter Try.func73, Try.ntmps73
  go_wp2
  go_loopw [3, 4] (fun i _ wr => ∃ k m : Nat, k ≤ n ∧ i = .int .i64 k ∧ wr = w.drewN m ∧ OnceT xs k) (fun i _ _ => n - (intOf i).toNat)
  case atStart => exact ⟨0, 0, Nat.zero_le _, rfl, rfl, fun i j hi => by omega⟩
  case round =>
    obtain ⟨k, m, hk, rfl, hwr, ho⟩ := hrel
    have HO : Hid (OnceT xs k) := ho
    have HW : Hid (wr = w.drewN m) := hwr
    clear ho hwr
    by_cases hlt : k < n
    · have hkl : k < xs.length := by rw [HN.out]; exact hlt
      obtain ⟨g, o, rfl, hg, ht⟩ := HP.out.cells (by omega)
      have HT : Hid (IsTexts w g o xs) := ht
      clear ht
      have hlt' : (k : Int) < n := by omega
      go_wp2
      go_loopw [4] (fun j wr2 => ∃ l m : Nat, l ≤ k ∧ j = .int .i64 l ∧ wr2 = w.drewN m ∧ ∀ j, j < l → tx xs k ≠ tx xs j) (fun j _ => k - (intOf j).toNat)
      case atStart => exact ⟨0, m, Nat.zero_le _, rfl, HW.out, fun j hj => by omega⟩
      case round =>
        obtain ⟨l, m2, hl, rfl, hw2, hd⟩ := hrel
        have HD : Hid (∀ j, j < l → tx xs k ≠ tx xs j) := hd
        have HW2 : Hid (wr = w.drewN m2) := hw2
        clear hd hw2
        by_cases hll : l < k
        · have hl1 : l < xs.length := by omega
          have c1 : wr.cell? ⟨g, o + k, none⟩ = some (.string (tx xs k)) := by rw [HW2.out, tx_get hkl]; exact HT.out k hkl
          have c2 : wr.cell? ⟨g, o + l, none⟩ = some (.string (tx xs l)) := by rw [HW2.out, tx_get hl1]; exact HT.out l hl1
          have hll' : (l : Int) < k := by omega
          have hln : (l : Int) < n := by omega
          by_cases he : tx xs k = tx xs l
          · have heb : ((tx xs k).toList == (tx xs l).toList) = true := by rw [he]; simp
            have HE : Hid (tx xs k = tx xs l) := he
            clear he
            obtain ⟨x, hx⟩ : ∃ x, x = tx xs k := ⟨_, rfl⟩
            obtain ⟨y, hy⟩ : ∃ y, y = tx xs l := ⟨_, rfl⟩
            rw [← hx] at c1 heb
            rw [← hy] at c2 heb
            clear hx hy
            go_wp2
            go_quiet (fail)
            go_wp2
            go_ret
            exact ⟨ret_bool (dupB_yes hkl hll HE.out).symm, _, by rw [HW2.out, World.drewN_drewN]⟩
          · have heb : ((tx xs k).toList == (tx xs l).toList) = false := ba_ne he
            have HE : Hid (tx xs k ≠ tx xs l) := he
            clear he
            obtain ⟨x, hx⟩ : ∃ x, x = tx xs k := ⟨_, rfl⟩
            obtain ⟨y, hy⟩ : ∃ y, y = tx xs l := ⟨_, rfl⟩
            rw [← hx] at c1 heb
            rw [← hy] at c2 heb
            clear hx hy
            go_wp2
            go_quiet (fail)
            go_wp2
            go_roundw
            case rel => exact ⟨l + 1, _, by omega, by go_num, by rw [HW2.out, World.drewN_drewN], fun j hj => by
              by_cases hjl : j = l
              · rw [hjl]; exact HE.out
              · exact HD.out j (by omega)⟩
            case measure => simp [intOf]; omega
        · have hlk : l = k := by omega
          have HLK : Hid (l = k) := hlk
          clear hlk
          go_wp2
          go_roundw
          case rel => exact ⟨k + 1, m2, by omega, by go_num, HW2.out, HO.out.succ (by rw [← HLK.out]; rw [HLK.out]; intro j hj; exact HD.out j (by have := HLK.out; omega))⟩
          case measure => simp [intOf]; omega
    · go_wp2
      go_ret
      exact ⟨ret_bool (dupB_no HN.out hlt HO.out).symm, m, HW.out⟩

theorem law9 : Keyed Try.prog 9 := string_keyed Try.underlying9
theorem zero74 (w : World) : (zeroValue 137).run Try.prog w = .ok (.agg #[]) w := by kernel_rfl

/-- The set of the first k texts. -/
def setT (xs : List ByteArray) (k : Nat) : DataW Unit := setOf (.agg []) ((List.range k).map (fun i => Lit.string (tx xs i).data.toList))
theorem setT_zero (xs : List ByteArray) : setT xs 0 = .map [] := by simp [setT, setOf]
theorem setT_succ (xs : List ByteArray) (k : Nat) : setT xs (k + 1) = (setT xs k).put (.string (tx xs k).data.toList) (.agg []) := by
  unfold setT; rw [List.range_succ, List.map_append, List.map_cons, List.map_nil, setOf_snoc]
theorem has_setT_yes (xs : List ByteArray) (k : Nat) (x : ByteArray) {j : Nat} (hj : j < k) (h : x = tx xs j) : Maps.has (setT xs k) (.string x.data.toList) = true := by
  unfold setT; rw [has_setOf _ _ _ (by intro y hy; simp at hy; obtain ⟨_, _, rfl⟩ := hy; trivial), List.any_eq_true]
  exact ⟨_, List.mem_map.2 ⟨j, by simp [hj], rfl⟩, by rw [h]; simp [Lit.sameKey]⟩
theorem has_setT_no (xs : List ByteArray) (k : Nat) (x : ByteArray) (h : ∀ j, j < k → x ≠ tx xs j) : Maps.has (setT xs k) (.string x.data.toList) = false := by
  unfold setT; rw [has_setOf _ _ _ (by intro y hy; simp at hy; obtain ⟨_, _, rfl⟩ := hy; trivial), List.any_eq_false]
  intro y hy
  obtain ⟨j, hj, rfl⟩ := List.mem_map.1 hy
  simp only [List.mem_range] at hj
  have := h j hj
  simp only [Lit.sameKey, Bool.not_eq_true, beq_eq_false_iff_ne]
  exact fun e => this (ba_ext e.symm)

set_option maxRecDepth 100000 in
set_option maxHeartbeats 2000000 in
theorem anyTwice_any (xs : List ByteArray) (a : Option Addr) (n c : Nat) (w : World) (hn : xs.length = n) (h100 : n ≤ 100) (hsz : ∀ x ∈ xs, x.size ≤ maxLen) (hp : TextsAt w a xs) :
    Calls Try.prog 68 #[.slice a n c] w fun e w' => e = .returned (.bool (dupB xs)) ∧ Below w.heap.size w w' := by
  have HN : Hid (xs.length = n) := hn
  have HP : Hid (TextsAt w a xs) := hp
  have HS : Hid (∀ x ∈ xs, x.size ≤ maxLen) := hsz
  clear hn hp hsz
  have hmm := @run_makeMap Try.prog
  go_enter Try.func68, Try.ntmps68
  go_wp2
  go_loopw [11] (fun i wr => ∃ k : Nat, k ≤ n ∧ i = .int .i64 k ∧ wr.ownsMap Try.prog 9 unitElem w.heap.size k (setT xs k) ∧ Below w.heap.size w wr ∧ w.heap.size + 1 ≤ wr.heap.size ∧ OnceT xs k) (fun i _ => n - (intOf i).toNat)
  case atStart => exact ⟨0, Nat.zero_le _, rfl, by rw [setT_zero]; exact World.ownsMap_made _ _ _ _, (Below.refl _ _).alloc (Nat.le_refl _) _, by simp, fun i j hi => by omega⟩
  case round =>
    obtain ⟨k, hk, rfl, hown, hB, hws, ho⟩ := hrel
    have HO : Hid (OnceT xs k) := ho
    have hBs := hB.size
    clear ho
    by_cases hlt : k < n
    · have hkl : k < xs.length := by rw [HN.out]; exact hlt
      obtain ⟨g, o, rfl, hg, ht⟩ := HP.out.cells (by omega)
      have c1 : wr.cell? ⟨g, o + k, none⟩ = some (.string (tx xs k)) := by rw [tx_get hkl]; exact (hB.cell (p := ⟨g, o + k, none⟩) hg).trans (ht k hkl)
      have hxs : (tx xs k).size ≤ maxLen := HS.out _ (by rw [tx_get hkl]; exact List.getElem_mem hkl)
      clear ht
      have HSU := setT_succ xs k
      obtain ⟨D', hD'⟩ : ∃ D', D' = setT xs (k + 1) := ⟨_, rfl⟩
      rw [← hD'] at HSU
      have HD' : Hid (D' = setT xs (k + 1)) := hD'
      obtain ⟨D, hD⟩ : ∃ D, D = setT xs k := ⟨_, rfl⟩
      rw [← hD] at HSU hown
      have HD : Hid (D = setT xs k) := hD
      clear hD hD'
      obtain ⟨x, hx⟩ : ∃ x, x = tx xs k := ⟨_, rfl⟩
      rw [← hx] at c1 hxs HSU
      have HX : Hid (x = tx xs k) := hx
      have hkey : keyOf Try.prog 9 (.string x) = some (.string x.data.toList) := WideMaps.keyOf_string_mk Try.underlying9 hxs
      have HSU' : Hid (D' = D.put (.string x.data.toList) (.agg [])) := HSU
      clear HSU hx
      by_cases hd : ∃ j, j < k ∧ x = tx xs j
      · obtain ⟨j, hj, he⟩ := hd
        have hh : Maps.has D (.string x.data.toList) = true := by rw [HD.out]; exact has_setT_yes xs k x hj he
        have HE : Hid (x = tx xs j) := he
        clear he
        go_wp2_with (at_lookup; refine wpList_lookup_own_unit _ rfl _ _ 136 rfl 9 137 law9 Try.underlying136 (zero74 _) w.heap.size k D rfl hown _ _ rfl hkey ?_)
        go_ret
        exact ⟨ret_bool (dupB_yes hkl hj (by rw [← HX.out]; exact HE.out)).symm, hB.alloc hBs _⟩
      · have hne : ∀ j, j < k → x ≠ tx xs j := fun j hj e => hd ⟨j, hj, e⟩
        have hh : Maps.has D (.string x.data.toList) = false := by rw [HD.out]; exact has_setT_no xs k x hne
        have HNE : Hid (∀ j, j < k → x ≠ tx xs j) := hne
        clear hd hne
        go_wp2_with (first
          | (at_lookup; refine wpList_lookup_own_unit _ rfl _ _ 136 rfl 9 137 law9 Try.underlying136 (zero74 _) w.heap.size k D rfl hown _ _ rfl hkey ?_)
          | (at_mapUpdate; refine wpList_mapUpdate_own _ rfl _ _ _ 136 rfl 9 137 law9 Try.underlying136 (unitElem (H := Unit)) w.heap.size k _ rfl (hown.alloc _) (by unfold maxLen; omega) _ _ _ rfl rfl hkey _ [] unitElem_mk ?_; intro w1 hown1 hgrow1))
        have s1 := hgrow1.size
        simp at s1
        go_roundw
        case rel => exact ⟨k + 1, by omega, by go_num, by rw [← HD'.out, HSU'.out]; exact hown1, (hB.alloc hBs _).grown hgrow1 (by simp; omega) (fun j hj => by cases hj; exact Nat.le_refl _), by omega, HO.out.succ (by rw [← HX.out]; exact HNE.out)⟩
        case measure => simp [intOf]; omega
    · go_wp2
      go_ret
      exact ⟨ret_bool (dupB_no HN.out hlt HO.out).symm, hB⟩
end Go.Proofs.Ythhkpgnjpieckaa
