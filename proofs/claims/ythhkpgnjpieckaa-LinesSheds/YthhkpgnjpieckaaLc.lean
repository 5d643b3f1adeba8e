/- lines.Check, mailcoachref.LineFine. -/
import Derived.Deep.RegionHeld3
import Derived.Test.YthhkpgnjpieckaaLi
import Derived.Test.YthhkpgnjpieckaaHk
namespace Go.Proofs.Ythhkpgnjpieckaa
set_option linter.unusedVariables false
set_option maxRecDepth 100000
open Go.RowKit

def lineFrom : Int → List ItemD → Bool
  | _, [] => true
  | last, x :: r => itemOk x && decide (last < x.seq) && lineFrom x.seq r
def lineOk (xs : List ItemD) : Bool := lineFrom (-1) xs
def lineE (xs : List ItemD) : Int := if lineOk xs = true then 0 else 1

def ItemCells (W : World) (g o : Nat) (x : ItemD) : Prop :=
  W.cell? ⟨g, o, none⟩ = some (.int .i64 x.seq) ∧ W.cell? ⟨g, o + 1, none⟩ = some (.string x.key) ∧ W.cell? ⟨g, o + 2, none⟩ = some (.string x.body) ∧ W.cell? ⟨g, o + 3, none⟩ = some (.bool x.again) ∧ W.cell? ⟨g, o + 4, none⟩ = some (.int .i64 x.deaths)
theorem ItemCells.keep {W W' : World} {g o : Nat} {x : ItemD} {b : Nat} (h : ItemCells W g o x) (hB : Below b W W') (hg : g < b) : ItemCells W' g o x :=
  ⟨(hB.cell (p := ⟨g, _, none⟩) hg).trans h.1, (hB.cell (p := ⟨g, _, none⟩) hg).trans h.2.1, (hB.cell (p := ⟨g, _, none⟩) hg).trans h.2.2.1, (hB.cell (p := ⟨g, _, none⟩) hg).trans h.2.2.2.1, (hB.cell (p := ⟨g, _, none⟩) hg).trans h.2.2.2.2⟩
def ItemsAt (W : World) (a : Option Addr) (xs : List ItemD) : Prop := xs = [] ∨ ∃ g o, a = some ⟨g, o, none⟩ ∧ g < W.heap.size ∧ ∀ i (h : i < xs.length), ItemCells W g (o + i * 5) xs[i]
theorem ItemsAt.cells {W : World} {a : Option Addr} {xs : List ItemD} (h : ItemsAt W a xs) (hne : 0 < xs.length) : ∃ g o, a = some ⟨g, o, none⟩ ∧ g < W.heap.size ∧ ∀ i (h : i < xs.length), ItemCells W g (o + i * 5) xs[i] := by
  rcases h with h | h
  · rw [h] at hne; simp at hne
  · exact h
theorem ItemsAt.keep {W W' : World} {a : Option Addr} {xs : List ItemD} (h : ItemsAt W a xs) (hB : Below W.heap.size W W') : ItemsAt W' a xs := by
  rcases h with h | ⟨g, o, ha, hg, h⟩
  · exact .inl h
  · exact .inr ⟨g, o, ha, Nat.lt_of_lt_of_le hg hB.size, fun i hi => (h i hi).keep hB hg⟩

theorem lineFrom_no {last : Int} {x : ItemD} {r : List ItemD} (h : itemOk x = false ∨ x.seq ≤ last) : lineFrom last (x :: r) = false := by
  unfold lineFrom
  rcases h with h | h
  · simp [h]
  · have : ¬ last < x.seq := by omega
    simp [this]
theorem lineFrom_yes {last : Int} {x : ItemD} {r : List ItemD} (h : itemOk x = true) (h2 : ¬ x.seq ≤ last) : lineFrom last (x :: r) = lineFrom x.seq r := by
  have : last < x.seq := by omega
  conv => lhs; unfold lineFrom
  simp [h, this]

set_option maxHeartbeats 2000000 in
theorem lcheck_any (xs : List ItemD) (a : Option Addr) (n c : Nat) (w : World) (hn : xs.length = n) (hm : n ≤ maxLen) (hp : ItemsAt w a xs) :
    Calls Try.prog 45 #[.slice a n c] w fun e w' => e = .returned (.int .i64 (lineE xs)) ∧ Below w.heap.size w w' := by
  have HN : Hid (xs.length = n) := hn
  have HP : Hid (ItemsAt w a xs) := hp
  unfold maxLen at hm
  clear hn hp
  go_enter Try.func45, Try.ntmps45
  go_wp2
  go_loopw [3, 8] (fun l i wr => ∃ (k : Nat) (last : Int), k ≤ n ∧ i = .int .i64 k ∧ l = .int .i64 last ∧ lineOk xs = lineFrom last (xs.drop k) ∧ Below w.heap.size w wr) (fun _ i _ => n - (intOf i).toNat)
  case atStart => exact ⟨0, -1, Nat.zero_le _, rfl, rfl, rfl, Below.refl _ _⟩
  case round =>
    obtain ⟨k, last, hk, rfl, rfl, ha, hB⟩ := hrel
    have HA : Hid (lineOk xs = lineFrom last (xs.drop k)) := ha
    have hBs := hB.size
    clear ha
    by_cases hlt : k < n
    · have hkl : k < xs.length := by rw [HN.out]; exact hlt
      obtain ⟨g, o, rfl, hg, hx⟩ := HP.out.cells (by omega)
      obtain ⟨x, hxx⟩ : ∃ x, x = xs[k] := ⟨_, rfl⟩
      have hc := (hx k hkl).keep hB hg
      rw [← hxx] at hc
      have hd : xs.drop k = x :: xs.drop (k + 1) := by rw [hxx]; exact List.drop_eq_getElem_cons hkl
      clear hx hxx
      obtain ⟨s, ky, b, ag, d⟩ := x
      obtain ⟨c0, c1, c2, c3, c4⟩ := hc
      dsimp only at c0 c1 c2 c3 c4
      obtain ⟨r, hr⟩ : ∃ r, r = itemOk ⟨s, ky, b, ag, d⟩ := ⟨_, rfl⟩
      have HR : Hid (r = itemOk ⟨s, ky, b, ag, d⟩) := hr
      obtain ⟨W1, hW1, hBw, hs1, hbx⟩ := item_box wr (.int .i64 s) (.string ky) (.string b) (.bool ag) (.int .i64 d) 59
      have HW1 : Hid (W1 = _) := hW1
      have BX : Hid (∀ W, Below W1.heap.size W1 W → _) := hbx
      clear hW1 hbx hs1
      have hB1 : Below w.heap.size w W1 := hB.trans (hBw.mono hBs)
      have s1 := hB1.size
      cases r with
      | false =>
        have HF : Hid (lineE xs = 1) := by show lineE xs = 1; unfold lineE; rw [HA.out, hd, lineFrom_no (.inl hr.symm)]; rfl
        clear hd hr
        go_wp2_with fail
        rw [← HW1.out]
        refine (right_any _ _ _ _ _ _).mono ?_
        rintro e w2 ⟨rfl, hB2⟩
        rw [← HR.out]
        go_wp2_with fail
        go_ret
        exact ⟨ret_int HF.out.symm, hB1.trans (hB2.mono s1)⟩
      | true =>
        by_cases hle : s ≤ last
        · have HF : Hid (lineE xs = 1) := by show lineE xs = 1; unfold lineE; rw [HA.out, hd, lineFrom_no (.inr hle)]; rfl
          clear hd hr
          go_wp2_with fail
          rw [← HW1.out]
          refine (right_any _ _ _ _ _ _).mono ?_
          rintro e w2 ⟨rfl, hB2⟩
          obtain ⟨d0, d1, d2, d3, d4⟩ := BX.out w2 hB2
          rw [← HR.out]
          go_wp2_with fail
          go_ret
          exact ⟨ret_int HF.out.symm, hB1.trans (hB2.mono s1)⟩
        · have HF : Hid (lineOk xs = lineFrom s (xs.drop (k + 1))) := by show lineOk xs = _; rw [HA.out, hd, lineFrom_yes hr.symm hle]
          clear hd hr
          go_wp2_with fail
          rw [← HW1.out]
          refine (right_any _ _ _ _ _ _).mono ?_
          rintro e w2 ⟨rfl, hB2⟩
          obtain ⟨d0, d1, d2, d3, d4⟩ := BX.out w2 hB2
          rw [← HR.out]
          go_wp2_with fail
          go_roundw
          case rel => exact ⟨k + 1, s, by omega, by go_num, rfl, HF.out, hB1.trans (hB2.mono s1)⟩
          case measure => simp [intOf]; omega
    · have e : xs.drop k = [] := List.drop_eq_nil_of_le (by rw [HN.out]; omega)
      have HF : Hid (lineE xs = 0) := by show lineE xs = 0; unfold lineE; rw [HA.out, e]; rfl
      go_wp2
      go_ret
      exact ⟨ret_int HF.out.symm, hB⟩

theorem itemOk_seq {x : ItemD} (h : itemOk x = true) : 0 ≤ x.seq := by unfold itemOk itemNums at h; simp at h; omega
theorem i64_nat (k : Nat) (h : k ≤ 9223372036854775807) : IntKind.i64.wrap (k : Int) = (k : Int) := by rw [IntKind.wrap_i64]; omega
theorem below_undrew {b : Nat} {W w' : World} (h : Below b W.drew w') : Below b W w' := ⟨h.os, h.tape, h.output, h.size, h.block⟩
def lastSeq (xs : List ItemD) (k : Nat) : Int := if k = 0 then -1 else (xs[k - 1]?.map ItemD.seq).getD (-1)

set_option maxHeartbeats 4000000 in
theorem lineFine_any (xs : List ItemD) (a : Option Addr) (n c : Nat) (w : World) (hn : xs.length = n) (hm : n ≤ maxLen) (hp : ItemsAt w a xs) :
    Calls Try.prog 46 #[.slice a n c] w fun e w' => e = .returned (.bool (lineOk xs)) ∧ Below w.heap.size w w' := by
  have HN : Hid (xs.length = n) := hn
  have HP : Hid (ItemsAt w a xs) := hp
  unfold maxLen at hm
  clear hn hp
  go_enter Try.func46, Try.ntmps46
  go_wp2
  go_loopw [3] (fun i wr => ∃ (k : Nat), k ≤ n ∧ i = .int .i64 k ∧ lineOk xs = lineFrom (lastSeq xs k) (xs.drop k) ∧ Below w.heap.size w wr) (fun i _ => n - (intOf i).toNat)
  case atStart => exact ⟨0, Nat.zero_le _, rfl, rfl, Below.refl _ _⟩
  case round =>
    obtain ⟨k, hk, rfl, ha, hB⟩ := hrel
    have HA : Hid (lineOk xs = lineFrom (lastSeq xs k) (xs.drop k)) := ha
    have hBs := hB.size
    clear ha
    by_cases hlt : k < n
    · have hkl : k < xs.length := by rw [HN.out]; exact hlt
      obtain ⟨g, o, rfl, hg, hx⟩ := HP.out.cells (by omega)
      obtain ⟨x, hxx⟩ : ∃ x, x = xs[k] := ⟨_, rfl⟩
      have hc := (hx k hkl).keep hB hg
      rw [← hxx] at hc
      have hd : xs.drop k = x :: xs.drop (k + 1) := by rw [hxx]; exact List.drop_eq_getElem_cons hkl
      have HL1 : Hid (lastSeq xs (k + 1) = x.seq) := by show lastSeq xs (k + 1) = _; unfold lastSeq; rw [if_neg (by omega)]; simp [hkl, hxx]
      clear hxx
      obtain ⟨s, ky, b, ag, d⟩ := x
      obtain ⟨c0, c1, c2, c3, c4⟩ := hc
      dsimp only at c0 c1 c2 c3 c4
      obtain ⟨r, hr⟩ : ∃ r, r = itemOk ⟨s, ky, b, ag, d⟩ := ⟨_, rfl⟩
      have HR : Hid (r = itemOk ⟨s, ky, b, ag, d⟩) := hr
      have hgw : g < wr.heap.size := by omega
      obtain ⟨W1, hW1⟩ : ∃ W1, W1 = wr := ⟨_, rfl⟩
      cases r with
      | false =>
        clear hx
        have j1 : (0 : Int) ≤ (k : Int) := by omega
        have j2 : (k : Int) < n := by omega
        have HF : Hid (lineOk xs = false) := by show lineOk xs = false; rw [HA.out, hd, lineFrom_no (.inl hr.symm)]
        clear hd hr
        go_wp2_with fail
        refine wp_region_held_drew (S := fun w' => w'.cell? ⟨g, o + k * 5, none⟩ = some (.int .i64 s) ∧ w'.cell? ⟨g, o + k * 5 + 1, none⟩ = some (.string ky) ∧ w'.cell? ⟨g, o + k * 5 + 2, none⟩ = some (.string b) ∧ w'.cell? ⟨g, o + k * 5 + 3, none⟩ = some (.bool ag) ∧ w'.cell? ⟨g, o + k * 5 + 4, none⟩ = some (.int .i64 d)) (by kernel_rfl) ⟨c0, c1, c2, c3, c4⟩ (fun hHeld => ?_)
        refine tk 0 ?_
        refine tk 1 ?_
        refine tk 2 ?_
        refine tk 3 ?_
        refine wpAnyH_ready (rs := [4]) (by kernel_rfl) (by simp) ?_
        refine AllReadyH.cons rfl (fun K hK => ?_) AllReadyH.nil
        go_simp
        refine (itemFine_any _ _ _ _ _ _).mono ?_
        rintro e w2 ⟨rfl, hB2'⟩
        have hB2 := below_undrew hB2'
        rw [← HR.out]
        refine hK.out _ _ ⟨(hB2.cell (p := ⟨g, _, none⟩) hgw).trans c0, (hB2.cell (p := ⟨g, _, none⟩) hgw).trans c1, (hB2.cell (p := ⟨g, _, none⟩) hgw).trans c2, (hB2.cell (p := ⟨g, _, none⟩) hgw).trans c3, (hB2.cell (p := ⟨g, _, none⟩) hgw).trans c4⟩ (fun hHeld2 => ?_)
        clear hHeld
        try simp only [Act.put, List.getElem_toArray, List.getElem_cons_succ, List.getElem_cons_zero, List.setIfInBounds_toArray, List.set_cons_zero, List.set_cons_succ]
        clear hK K
        refine tk 5 ?_
        refine tk 6 ?_
        refine sk 7 ?_
        refine sk 8 ?_
        refine sk 9 ?_
        refine sk 10 ?_
        refine sk 11 ?_
        refine sk 12 ?_
        refine sk 13 ?_
        refine sk 14 ?_
        refine sk 15 ?_
        refine sk 16 ?_
        refine sk 17 ?_
        refine sk 18 ?_
        refine sk 19 ?_
        refine sk 20 ?_
        refine sk 21 ?_
        refine sk 22 ?_
        refine tk 23 ?_
        refine wpAnyH_done (by kernel_rfl) ?_ _
        all_goals
          go_wp2_with fail
          go_ret
          exact ⟨ret_bool HF.out.symm, hB.trans (hB2.mono hBs)⟩
      | true =>
        rcases Nat.eq_zero_or_pos k with hk0 | hk0
        · subst hk0
          clear hx
          simp only [Nat.zero_mul, Nat.add_zero] at c0 c1 c2 c3 c4
          have j2 : (0 : Int) < n := by omega
          have HF : Hid (lineOk xs = lineFrom s (xs.drop 1)) := by
            show lineOk xs = _
            rw [HA.out, hd, lineFrom_yes hr.symm (by have := itemOk_seq hr.symm; unfold lastSeq; simp; dsimp only at this; omega)]
          clear hd hr
          go_wp2_with fail
          refine wp_region_held_drew (S := fun w' => w'.cell? ⟨g, o, none⟩ = some (.int .i64 s) ∧ w'.cell? ⟨g, o + 1, none⟩ = some (.string ky) ∧ w'.cell? ⟨g, o + 2, none⟩ = some (.string b) ∧ w'.cell? ⟨g, o + 3, none⟩ = some (.bool ag) ∧ w'.cell? ⟨g, o + 4, none⟩ = some (.int .i64 d)) (by kernel_rfl) ⟨c0, c1, c2, c3, c4⟩ (fun hHeld => ?_)
          refine tk 0 ?_
          refine tk 1 ?_
          refine tk 2 ?_
          refine tk 3 ?_
          refine wpAnyH_ready (rs := [4]) (by kernel_rfl) (by simp) ?_
          refine AllReadyH.cons rfl (fun K hK => ?_) AllReadyH.nil
          go_simp
          refine (itemFine_any _ _ _ _ _ _).mono ?_
          rintro e w2 ⟨rfl, hB2'⟩
          have hB2 := below_undrew hB2'
          rw [← HR.out]
          refine hK.out _ _ ⟨(hB2.cell (p := ⟨g, _, none⟩) hgw).trans c0, (hB2.cell (p := ⟨g, _, none⟩) hgw).trans c1, (hB2.cell (p := ⟨g, _, none⟩) hgw).trans c2, (hB2.cell (p := ⟨g, _, none⟩) hgw).trans c3, (hB2.cell (p := ⟨g, _, none⟩) hgw).trans c4⟩ (fun hHeld2 => ?_)
          clear hHeld
          try simp only [Act.put, List.getElem_toArray, List.getElem_cons_succ, List.getElem_cons_zero, List.setIfInBounds_toArray, List.set_cons_zero, List.set_cons_succ]
          clear hK K
          refine tk 5 ?_
          refine tk 6 ?_
          refine tk 7 ?_
          refine tk 8 ?_
          refine tk 9 ?_
          refine sk 10 ?_
          refine sk 11 ?_
          refine sk 12 ?_
          refine sk 13 ?_
          refine sk 14 ?_
          refine sk 15 ?_
          refine sk 16 ?_
          refine sk 17 ?_
          refine sk 18 ?_
          refine sk 19 ?_
          refine sk 20 ?_
          refine sk 21 ?_
          refine tk 22 ?_
          refine tk 23 ?_
          refine wpAnyH_done (by kernel_rfl) ?_ _
          all_goals
            go_wp2_with fail
            go_roundw
            case rel => exact ⟨1, by omega, by go_num, by rw [HF.out, HL1.out], hB.trans (hB2.mono hBs)⟩
            case measure => simp [intOf]; omega
        · obtain ⟨k', rfl⟩ : ∃ k', k = k' + 1 := ⟨k - 1, by omega⟩
          have hkl' : k' < xs.length := by omega
          have cp := ((hx k' hkl').keep hB hg).1
          have HL0 : Hid (lastSeq xs (k' + 1) = xs[k'].seq) := by show lastSeq xs (k' + 1) = _; unfold lastSeq; rw [if_neg (by omega)]; simp [hkl']
          obtain ⟨l, hl⟩ : ∃ l, l = xs[k'].seq := ⟨_, rfl⟩
          rw [← hl] at cp HL0
          clear hx hl hk0
          have j0 : (0 : Int) < (k' : Int) + 1 := by omega
          have j1 : (0 : Int) ≤ (k' : Int) + 1 := by omega
          have j2 : (k' : Int) + 1 < n := by omega
          have j3 : (k' : Int) < n := by omega
          have j4 : (0 : Int) ≤ (k' : Int) := by omega
          have j5 : IntKind.i64.wrap (k' : Int) = (k' : Int) := i64_nat _ (by omega)
          by_cases hle : s ≤ l
          · have HF : Hid (lineOk xs = false) := by show lineOk xs = false; rw [HA.out, hd, lineFrom_no (.inr (by rw [HL0.out]; exact hle))]
            clear hd hr
            go_wp2_with fail
            go_region_held3 (fun w' => w'.cell? ⟨g, o + (k' + 1) * 5, none⟩ = some (.int .i64 s) ∧ w'.cell? ⟨g, o + (k' + 1) * 5 + 1, none⟩ = some (.string ky) ∧ w'.cell? ⟨g, o + (k' + 1) * 5 + 2, none⟩ = some (.string b) ∧ w'.cell? ⟨g, o + (k' + 1) * 5 + 3, none⟩ = some (.bool ag) ∧ w'.cell? ⟨g, o + (k' + 1) * 5 + 4, none⟩ = some (.int .i64 d) ∧ w'.cell? ⟨g, o + k' * 5, none⟩ = some (.int .i64 l))
              (go_keep)
              (first | (go_at_call 89; refine (itemFine_any _ _ _ _ _ _).mono ?_; rintro e w2 ⟨rfl, hB2'⟩; have hB2 := below_undrew hB2'; rw [← HR.out]; have e0 := (hB2.cell (p := ⟨g, _, none⟩) hgw).trans c0; have e1 := (hB2.cell (p := ⟨g, _, none⟩) hgw).trans c1; have e2 := (hB2.cell (p := ⟨g, _, none⟩) hgw).trans c2; have e3 := (hB2.cell (p := ⟨g, _, none⟩) hgw).trans c3; have e4 := (hB2.cell (p := ⟨g, _, none⟩) hgw).trans c4; have ep := (hB2.cell (p := ⟨g, _, none⟩) hgw).trans cp))
            all_goals
              go_wp2_with fail
              go_ret
              exact ⟨ret_bool HF.out.symm, hB.trans (hB2.mono hBs)⟩
          · have HF : Hid (lineOk xs = lineFrom s (xs.drop (k' + 1 + 1))) := by show lineOk xs = _; rw [HA.out, hd, lineFrom_yes hr.symm (by rw [HL0.out]; exact hle)]
            clear hd hr
            go_wp2_with fail
            go_region_held3 (fun w' => w'.cell? ⟨g, o + (k' + 1) * 5, none⟩ = some (.int .i64 s) ∧ w'.cell? ⟨g, o + (k' + 1) * 5 + 1, none⟩ = some (.string ky) ∧ w'.cell? ⟨g, o + (k' + 1) * 5 + 2, none⟩ = some (.string b) ∧ w'.cell? ⟨g, o + (k' + 1) * 5 + 3, none⟩ = some (.bool ag) ∧ w'.cell? ⟨g, o + (k' + 1) * 5 + 4, none⟩ = some (.int .i64 d) ∧ w'.cell? ⟨g, o + k' * 5, none⟩ = some (.int .i64 l))
              (go_keep)
              (first | (go_at_call 89; refine (itemFine_any _ _ _ _ _ _).mono ?_; rintro e w2 ⟨rfl, hB2'⟩; have hB2 := below_undrew hB2'; rw [← HR.out]; have e0 := (hB2.cell (p := ⟨g, _, none⟩) hgw).trans c0; have e1 := (hB2.cell (p := ⟨g, _, none⟩) hgw).trans c1; have e2 := (hB2.cell (p := ⟨g, _, none⟩) hgw).trans c2; have e3 := (hB2.cell (p := ⟨g, _, none⟩) hgw).trans c3; have e4 := (hB2.cell (p := ⟨g, _, none⟩) hgw).trans c4; have ep := (hB2.cell (p := ⟨g, _, none⟩) hgw).trans cp))
            all_goals
              go_wp2_with fail
              go_roundw
              case rel => exact ⟨k' + 1 + 1, by omega, by go_num, by rw [HF.out, HL1.out], hB.trans (hB2.mono hBs)⟩
              case measure => simp [intOf]; omega
    · have e : xs.drop k = [] := List.drop_eq_nil_of_le (by rw [HN.out]; omega)
      have HF : Hid (lineOk xs = true) := by show lineOk xs = true; rw [HA.out, e]; unfold lineFrom; rfl
      go_wp2
      go_ret
      exact ⟨ret_bool HF.out.symm, hB⟩
end Go.Proofs.Ythhkpgnjpieckaa
