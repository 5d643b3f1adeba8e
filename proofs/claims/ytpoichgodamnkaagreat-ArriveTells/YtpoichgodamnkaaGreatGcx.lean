import Derived.Test.YtpoichgodamnkaaGreatGbx
import Derived.Laws.StructEq
import Derived.Deep.QuietTactic
import Derived.BigQuiet
namespace Go.Proofs.YtpoichgodamnkaaGreat
open Go.RowKit
set_option linter.unusedVariables false
set_option maxRecDepth 100000
set_option maxHeartbeats 4000000
def pushHas (q : Int) (xs : List ItemD) : Bool := (xs[idxSeq q xs]?.map ItemD.seq) == some q
def pushL (xs : List ItemD) (x : ItemD) : List ItemD := xs.take (idxSeq x.seq xs) ++ [x] ++ xs.drop (idxSeq x.seq xs)
def pushE (xs : List ItemD) (x : ItemD) : Int := if lineOk xs = true then (if itemOk x = true then (if pushHas x.seq xs = true then 6 else 0) else 1) else 1
def pushV (xs : List ItemD) (x : ItemD) : List ItemD := if pushE xs x = 0 then pushL xs x else []
theorem lineFrom_few : ∀ {xs : List ItemD} {last : Int}, last ≤ 1048575 → lineFrom last xs = true → (xs.length : Int) ≤ 1048575 - last
  | [], last, h, _ => by simp; omega
  | x :: r, last, h, hl => by
    unfold lineFrom at hl
    simp only [Bool.and_eq_true, decide_eq_true_eq] at hl
    obtain ⟨⟨h1, h2⟩, h3⟩ := hl
    have hx : x.seq ≤ 1048575 := by unfold itemOk itemNums at h1; simp at h1; omega
    have := lineFrom_few hx h3
    simp only [List.length_cons]; omega
theorem lineOk_few {xs : List ItemD} (h : lineOk xs = true) : xs.length ≤ 1048576 := by
  have := lineFrom_few (by omega) h; omega
theorem own_base {W : World} {base base' : Nat} {e : TypeId} {size : Nat} {v : Value} {n : Nat} {xs : List Value} (h : W.ownsRow base e size v n xs) (hb : base' ≤ base) : W.ownsRow base' e size v n xs := by
  refine ⟨h.1, ?_⟩
  rcases h.2 with h | ⟨g, cap, cur, h1, h2, h3⟩
  · exact .inl h
  · exact .inr ⟨g, cap, cur, h1, Nat.le_trans hb h2, h3⟩
theorem cell_blk {W : World} {b : Nat} {cs : Array Value} {t : TypeId} (h : W.heap[b]? = some (.cells cs t (0, 0))) (i : Nat) : W.cell? ⟨b, i, none⟩ = cs[i]? := by
  unfold World.cell?; simp only; rw [h]; rfl
theorem ItemsAt.take {W : World} {a : Option Addr} {xs : List ItemD} (h : ItemsAt W a xs) (i : Nat) : ItemsAt W a (xs.take i) := by
  rcases h with h | ⟨g, o, ha, hg, h⟩
  · exact .inl (by rw [h]; simp)
  · exact .inr ⟨g, o, ha, hg, fun j hj => by
      have hj' : j < xs.length := by simp at hj; omega
      have := h j hj'
      simpa using this⟩
theorem ItemsAt.drop {W : World} {a : Option Addr} {xs : List ItemD} (h : ItemsAt W a xs) (i c : Nat) (hc : xs.length ≤ c) : ItemsAt W (if c = i then a else Option.map (fun x => x.add (i * 5)) a) (xs.drop i) := by
  by_cases hci : c = i
  · exact .inl (List.drop_eq_nil_of_le (by omega))
  · rw [if_neg hci]
    rcases h with h | ⟨g, o, ha, hg, h⟩
    · exact .inl (by rw [h]; simp)
    · subst ha
      refine .inr ⟨g, o + i * 5, by simp [addr_add], hg, fun j hj => ?_⟩
      have hj' : i + j < xs.length := by simp at hj; omega
      have := h (i + j) hj'
      have e : o + i * 5 + j * 5 = o + (i + j) * 5 := by omega
      rw [e]
      simpa using this
theorem ItemsAt.single {W : World} {hb : Nat} {t : TypeId} {x : ItemD} (h : W.heap[hb]? = some (.cells #[.int .i64 x.seq, .string x.key, .string x.body, .bool x.again, .int .i64 x.deaths] t (0, 0))) : ItemsAt W (some ⟨hb, 0, none⟩) [x] :=
  .inr ⟨hb, 0, rfl, (Array.getElem?_eq_some_iff.1 h).1, fun j hj => by
    have hj0 : j = 0 := by simp at hj; omega
    subst hj0
    exact ⟨cell_blk h 0, cell_blk h 1, cell_blk h 2, cell_blk h 3, cell_blk h 4⟩⟩
theorem push_concat (xs : List ItemD) (x : ItemD) (a A3 : Option Addr) (n c i m3 c3 : Nat) (h hb : Nat) (t t2 : TypeId) (W : World) (hn : xs.length = n) (hi : i ≤ n) (hnc : n ≤ c) (hz : a = none → c = 0) (hf : n ≤ 1048576)
    (hA3 : A3 = (if c = i then a else Option.map (fun x => x.add (i * 5)) a)) (hm3 : m3 = n - i) (hc3 : c3 = c - i) (hp : ItemsAt W a xs)
    (hh : W.heap[h]? = some (.cells #[.slice a i c, .slice (some ⟨hb, 0, none⟩) 1 1, .slice A3 m3 c3] t (0, 0)))
    (hx : W.heap[hb]? = some (.cells #[.int .i64 x.seq, .string x.key, .string x.body, .bool x.again, .int .i64 x.deaths] t2 (0, 0))) :
    Calls Tryz.prog 205 #[.slice (some ⟨h, 0, none⟩) 3 3] W fun e w' => ∃ v, e = .returned v ∧ w'.ownsRow W.heap.size 43 5 v (n + 1) (itemCells (xs.take i ++ [x] ++ xs.drop i)) ∧ Below W.heap.size W w' := by
  subst hm3 hc3
  have ha0 : a = none → xs = [] := fun e => List.length_eq_zero_iff.1 (by have := hz e; omega)
  have key := concat3 h (xs.take i) [x] (xs.drop i) a (some ⟨hb, 0, none⟩) A3 i 1 (n - i) c 1 (c - i) W (Array.getElem?_eq_some_iff.1 hh).1 (cell_blk hh 0) (cell_blk hh 1) (cell_blk hh 2) (by simp; omega) rfl (by simp; omega)
    (hp.take i) (ItemsAt.single hx) (by rw [hA3]; exact hp.drop i c (by omega)) (fun e => ⟨hz e, by rw [ha0 e]; simp⟩) (fun e => by cases e)
    (fun e => by
      have e2 : a = none := by
        rw [hA3] at e
        split at e
        · exact e
        · simpa using e
      exact ⟨by have := hz e2; omega, by rw [ha0 e2]; simp⟩) (by omega) (by omega)
  have e : i + 1 + (n - i) = n + 1 := by omega
  rw [e] at key
  exact key
theorem push_ok (xs : List ItemD) (a : Option Addr) (n c : Nat) (s d : Int) (ky b : ByteArray) (ag : Bool) (w : World) (hn : xs.length = n) (hnc : n ≤ c) (hcm : c ≤ maxLen) (hz : a = none → c = 0) (hp : ItemsAt w a xs)
    (hl : lineOk xs = true) (hr : itemOk ⟨s, ky, b, ag, d⟩ = true) (i : Nat) (hi : i = idxSeq s xs) (hlt : ¬ i < n) :
    Calls Tryz.prog 160 #[.slice a n c, .agg #[.int .i64 s, .string ky, .string b, .bool ag, .int .i64 d]] w fun e w' => ∃ v, e = .returned (.tuple #[v, .int .i64 0]) ∧ w'.ownsRow w.heap.size 43 5 v (n + 1) (itemCells (pushL xs ⟨s, ky, b, ag, d⟩)) ∧ Below w.heap.size w w' := by
  have hm : n ≤ maxLen := Nat.le_trans hnc hcm
  have hfew := lineOk_few hl
  have HL : Hid (lineE xs = 0) := by show lineE xs = 0; unfold lineE; rw [if_pos hl]
  have HR : Hid (itemOk ⟨s, ky, b, ag, d⟩ = true) := hr
  have HI : Hid (idxI s xs = -1) := by show idxI s xs = -1; unfold idxI; rw [← hi, if_neg (by rw [hn]; exact hlt)]
  obtain ⟨W1, hW1, hBw, hs1, hbx⟩ := item_box w (.int .i64 s) (.string ky) (.string b) (.bool ag) (.int .i64 d) 43
  have HW1 : Hid (W1 = _) := hW1
  have BX : Hid (∀ W, Below W1.heap.size W1 W → _) := hbx
  have HP : Hid (ItemsAt W1 a xs) := hp.keep hBw
  have HN : Hid (xs.length = n) := hn
  have HM : Hid (n ≤ maxLen) := hm
  have HF : Hid (n ≤ 1048576) := by show n ≤ 1048576; omega
  have HX : Hid (i = idxSeq s xs) := hi
  clear hW1 hbx hp hl hr hn hm
  have s1 := hBw.size
  go_enter Tryz.func160, Tryz.ntmps160
  go_wp2_with fail
  rw [← HW1.out]
  refine (lcheck_any xs _ _ _ _ HN.out HM.out HP.out).mono ?_
  rintro e w2 ⟨rfl, hB2⟩
  obtain ⟨d0, d1, d2, d3, d4⟩ := BX.out w2 hB2
  rw [HL.out]
  go_wp2_with fail
  refine (right_any _ _ _ _ _ _).mono ?_
  rintro e w3 ⟨rfl, hB3⟩
  have hB13 : Below W1.heap.size W1 w3 := hB2.trans (hB3.mono hB2.size)
  clear d0 d1 d2 d3 d4
  obtain ⟨d0, d1, d2, d3, d4⟩ := BX.out w3 hB13
  rw [HR.out]
  go_wp2_with fail
  refine (indexFunc_any xs _ _ _ _ s _ HN.out HM.out (HP.out.keep hB13) (by have := hB13.size; omega) d0).mono ?_
  rintro e w4 ⟨rfl, hB4⟩
  have hB14 : Below W1.heap.size W1 w4 := hB13.trans (hB4.mono hB13.size)
  clear d0 d1 d2 d3 d4
  obtain ⟨d0, d1, d2, d3, d4⟩ := BX.out w4 hB14
  rw [HI.out]
  go_wp2_with fail
  refine wp_region_held_drew (S := fun w' => True) (by kernel_rfl) trivial (fun hHeld => ?_)
  refine tk 0 ?_
  refine tk 1 ?_
  refine tk 2 ?_
  refine tk 3 ?_
  refine tk 4 ?_
  refine sk 5 ?_
  refine sk 6 ?_
  refine sk 7 ?_
  refine sk 8 ?_
  refine sk 9 ?_
  refine sk 10 ?_
  refine sk 11 ?_
  refine sk 12 ?_
  refine tk 13 ?_
  refine wpAnyH_done (by kernel_rfl) ?_ _
  go_wp2_with fail
  have hB5 : Below W1.heap.size W1 w4.drew := ⟨hB14.os, hB14.tape, hB14.output, hB14.size, hB14.block⟩
  have hB6 : Below W1.heap.size W1 w4.drew.drew := ⟨hB14.os, hB14.tape, hB14.output, hB14.size, hB14.block⟩
  have q1 : (0 : Int) ≤ (n : Int) := by omega
  have q2 : (n : Int) ≤ (c : Int) := by omega
  have q3 : (n : Int) ≤ (n : Int) := by omega
  clear d0 d1 d2 d3 d4
  refine wp_region_held_drew (S := fun w' => w'.cell? ⟨w.heap.size, 0, none⟩ = some (.int .i64 s) ∧ w'.cell? ⟨w.heap.size, 1, none⟩ = some (.string ky) ∧ w'.cell? ⟨w.heap.size, 2, none⟩ = some (.string b) ∧ w'.cell? ⟨w.heap.size, 3, none⟩ = some (.bool ag) ∧ w'.cell? ⟨w.heap.size, 4, none⟩ = some (.int .i64 d)) (by kernel_rfl) (BX.out _ hB6) (fun hHeld => ?_)
  refine tk 0 ?_
  refine tk 1 ?_
  refine tk 2 ?_
  refine tk 3 ?_
  refine tk 5 ?_
  refine tk 6 ?_
  refine tk 7 ?_
  refine rdy 4 (fun K hK => ?_)
  go_simp
  obtain ⟨W5, hW5⟩ : ∃ W5, W5 = w4.alloc (.cells #[.int .i64 s, .string ky, .string b, .bool ag, .int .i64 d] 43) := ⟨_, rfl⟩
  have hB45 : Below w4.heap.size w4 W5 := by rw [hW5]; exact (Below.refl _ _).alloc (Nat.le_refl _) _
  have hs5 : W5.heap.size = w4.heap.size + 1 := by rw [hW5]; simp
  have hh5 : W5.heap[w4.heap.size]? = some (.cells #[.int .i64 s, .string ky, .string b, .bool ag, .int .i64 d] 43) := by rw [hW5]; exact World.alloc_heap_new w4 _
  rw [← hW5]
  clear hW5
  have hB15 : Below W1.heap.size W1 W5 := hB14.trans (hB45.mono hB14.size)
  have hB15' : Below W1.heap.size W1 W5.drew.drew := ⟨hB15.os, hB15.tape, hB15.output, hB15.size, hB15.block⟩
  refine hK.out _ _ (BX.out _ hB15') (fun hHeld2 => ?_)
  clear hHeld hK K
  try simp only [Act.put, List.getElem_toArray, List.getElem_cons_succ, List.getElem_cons_zero, List.setIfInBounds_toArray, List.set_cons_zero, List.set_cons_succ]
  refine rdy 8 (fun K hK => ?_)
  go_simp
  obtain ⟨A3, hA3⟩ : ∃ A3, A3 = (if c = n then a else Option.map (fun x => x.add (n * 5)) a) := ⟨_, rfl⟩
  have HA3 : Hid (A3 = (if c = n then a else Option.map (fun x => x.add (n * 5)) a)) := hA3
  rw [← hA3]
  clear hA3
  obtain ⟨W6, hW6⟩ : ∃ W6, W6 = W5.alloc (.cells #[.slice a n c, .slice (some ⟨w4.heap.size, 0, none⟩) 1 1, .slice A3 0 (c - n)] 41) := ⟨_, rfl⟩
  have hB56 : Below W5.heap.size W5 W6 := by rw [hW6]; exact (Below.refl _ _).alloc (Nat.le_refl _) _
  have hs6 : W6.heap.size = W5.heap.size + 1 := by rw [hW6]; simp
  have hh6 : W6.heap[W5.heap.size]? = some (.cells #[.slice a n c, .slice (some ⟨w4.heap.size, 0, none⟩) 1 1, .slice A3 0 (c - n)] 41) := by rw [hW6]; exact World.alloc_heap_new W5 _
  rw [← hW6]
  clear hW6
  have hB16 : Below W1.heap.size W1 W6 := hB15.trans (hB56.mono hB15.size)
  have hB16' : Below W1.heap.size W1 W6.drew.drew := ⟨hB16.os, hB16.tape, hB16.output, hB16.size, hB16.block⟩
  have hx6 : W6.heap[w4.heap.size]? = some (.cells #[.int .i64 s, .string ky, .string b, .bool ag, .int .i64 d] 43) := (hB56.block _ (by omega)).trans hh5
  have hi6 : ItemsAt W6 a xs := (HP.out.keep hB14).keep (hB45.trans (hB56.mono hB45.size))
  refine hK.out _ _ (BX.out _ hB16') (fun hHeld3 => ?_)
  clear hHeld2 hK K
  try simp only [Act.put, List.getElem_toArray, List.getElem_cons_succ, List.getElem_cons_zero, List.setIfInBounds_toArray, List.set_cons_zero, List.set_cons_succ]
  refine rdy 9 (fun K hK => ?_)
  go_simp
  refine (push_concat xs ⟨s, ky, b, ag, d⟩ a A3 n c n 0 (c - n) _ w4.heap.size _ _ W6.drew.drew HN.out (Nat.le_refl _) hnc hz HF.out HA3.out (by omega) rfl hi6 (by rw [← hs5]; exact hh6) hx6).mono ?_
  rintro e w7 ⟨v, rfl, hown, hB7⟩
  have hB7' : Below W6.heap.size W6 w7 := ⟨hB7.os, hB7.tape, hB7.output, hB7.size, hB7.block⟩
  have hB17 : Below W1.heap.size W1 w7 := hB16.trans (hB7'.mono hB16.size)
  refine hK.out _ _ (BX.out _ hB17) (fun hHeld4 => ?_)
  clear hHeld3 hK K
  try simp only [Act.put, List.getElem_toArray, List.getElem_cons_succ, List.getElem_cons_zero, List.setIfInBounds_toArray, List.set_cons_zero, List.set_cons_succ]
  refine tk 10 ?_
  refine tk 11 ?_
  refine wpAnyH_done (by kernel_rfl) ?_ _
  go_wp2_with fail
  go_ret2
  have e1 : pushL xs ⟨s, ky, b, ag, d⟩ = xs.take n ++ [⟨s, ky, b, ag, d⟩] ++ xs.drop n := by
    unfold pushL
    have e2 : idxSeq s xs = n := by have := idxSeq_le s xs; have := HX.out; have := HN.out; omega
    dsimp only
    rw [e2]
  have h16 := hB16.size
  have h17 := hB17.size
  refine ⟨v, rfl, ?_, hBw.trans (hB17.mono hBw.size)⟩
  rw [e1]
  exact own_base hown (by show w.heap.size ≤ W6.heap.size; omega)
theorem push_mid (xs : List ItemD) (a : Option Addr) (n c : Nat) (s d : Int) (ky b : ByteArray) (ag : Bool) (w : World) (hn : xs.length = n) (hnc : n ≤ c) (hcm : c ≤ maxLen) (hz : a = none → c = 0) (hp : ItemsAt w a xs)
    (hl : lineOk xs = true) (hr : itemOk ⟨s, ky, b, ag, d⟩ = true) (i : Nat) (hi : i = idxSeq s xs) (hlt : i < n) (q : Int) (hq : xs[i]?.map ItemD.seq = some q) (hne : ¬ q = s) :
    Calls Tryz.prog 160 #[.slice a n c, .agg #[.int .i64 s, .string ky, .string b, .bool ag, .int .i64 d]] w fun e w' => ∃ v, e = .returned (.tuple #[v, .int .i64 0]) ∧ w'.ownsRow w.heap.size 43 5 v (n + 1) (itemCells (pushL xs ⟨s, ky, b, ag, d⟩)) ∧ Below w.heap.size w w' := by
  have hm : n ≤ maxLen := Nat.le_trans hnc hcm
  have hfew := lineOk_few hl
  have HL : Hid (lineE xs = 0) := by show lineE xs = 0; unfold lineE; rw [if_pos hl]
  have HR : Hid (itemOk ⟨s, ky, b, ag, d⟩ = true) := hr
  have HI : Hid (idxI s xs = i) := by show idxI s xs = i; unfold idxI; rw [← hi, if_pos (by rw [hn]; exact hlt)]
  obtain ⟨W1, hW1, hBw, hs1, hbx⟩ := item_box w (.int .i64 s) (.string ky) (.string b) (.bool ag) (.int .i64 d) 43
  have HW1 : Hid (W1 = _) := hW1
  have BX : Hid (∀ W, Below W1.heap.size W1 W → _) := hbx
  have HP : Hid (ItemsAt W1 a xs) := hp.keep hBw
  have HN : Hid (xs.length = n) := hn
  have HM : Hid (n ≤ maxLen) := hm
  have HF : Hid (n ≤ 1048576) := by show n ≤ 1048576; omega
  have HX : Hid (i = idxSeq s xs) := hi
  clear hW1 hbx hp hl hr hn hm hi
  have s1 := hBw.size
  go_enter Tryz.func160, Tryz.ntmps160
  go_wp2_with fail
  rw [← HW1.out]
  refine (lcheck_any xs _ _ _ _ HN.out HM.out HP.out).mono ?_
  rintro e w2 ⟨rfl, hB2⟩
  obtain ⟨d0, d1, d2, d3, d4⟩ := BX.out w2 hB2
  rw [HL.out]
  go_wp2_with fail
  refine (right_any _ _ _ _ _ _).mono ?_
  rintro e w3 ⟨rfl, hB3⟩
  have hB13 : Below W1.heap.size W1 w3 := hB2.trans (hB3.mono hB2.size)
  clear d0 d1 d2 d3 d4
  obtain ⟨d0, d1, d2, d3, d4⟩ := BX.out w3 hB13
  rw [HR.out]
  go_wp2_with fail
  refine (indexFunc_any xs _ _ _ _ s _ HN.out HM.out (HP.out.keep hB13) (by have := hB13.size; omega) d0).mono ?_
  rintro e w4 ⟨rfl, hB4⟩
  have hB14 : Below W1.heap.size W1 w4 := hB13.trans (hB4.mono hB13.size)
  clear d0 d1 d2 d3 d4
  obtain ⟨d0, d1, d2, d3, d4⟩ := BX.out w4 hB14
  rw [HI.out]
  have q0 : ¬ (i : Int) < 0 := by omega
  have q4 : (0 : Int) ≤ (i : Int) := by omega
  have q5 : (i : Int) < (n : Int) := by omega
  go_wp2_with fail
  obtain ⟨g, o, rfl, hg, hx⟩ := HP.out.cells (by rw [HN.out]; omega)
  have hg4 : g < w4.heap.size := by have := hB14.size; omega
  have cq : w4.cell? ⟨g, o + i * 5, none⟩ = some (.int .i64 q) := by
    have h1 := ((hx i (by rw [HN.out]; exact hlt)).keep hB14 hg).1
    have h2 : xs[i]'(by rw [HN.out]; exact hlt) = xs[i]'(by rw [HN.out]; exact hlt) := rfl
    rw [List.getElem?_eq_getElem (by rw [HN.out]; exact hlt)] at hq
    simp at hq
    rw [hq] at h1
    exact h1
  clear hx hq
  refine wp_region_held_drew (S := fun w' => w'.cell? ⟨g, o + i * 5, none⟩ = some (.int .i64 q) ∧ w'.cell? ⟨w.heap.size, 0, none⟩ = some (.int .i64 s)) (by kernel_rfl) ⟨cq, d0⟩ (fun hHeld => ?_)
  refine tk 0 ?_
  refine tk 1 ?_
  refine tk 2 ?_
  refine tk 3 ?_
  refine tk 4 ?_
  refine tk 5 ?_
  refine tk 6 ?_
  refine tk 7 ?_
  refine tk 8 ?_
  refine tk 9 ?_
  refine tk 10 ?_
  refine tk 11 ?_
  refine tk 12 ?_
  refine tk 13 ?_
  refine wpAnyH_done (by kernel_rfl) ?_ _
  go_wp2_with fail
  have hB5 : Below W1.heap.size W1 w4.drew := ⟨hB14.os, hB14.tape, hB14.output, hB14.size, hB14.block⟩
  have hB6 : Below W1.heap.size W1 w4.drew.drew := ⟨hB14.os, hB14.tape, hB14.output, hB14.size, hB14.block⟩
  have q1 : (i : Int) ≤ (n : Int) := by omega
  have q2 : (i : Int) ≤ (c : Int) := by omega
  have q3 : (n : Int) ≤ (c : Int) := by omega
  clear d0 d1 d2 d3 d4
  refine wp_region_held_drew (S := fun w' => w'.cell? ⟨w.heap.size, 0, none⟩ = some (.int .i64 s) ∧ w'.cell? ⟨w.heap.size, 1, none⟩ = some (.string ky) ∧ w'.cell? ⟨w.heap.size, 2, none⟩ = some (.string b) ∧ w'.cell? ⟨w.heap.size, 3, none⟩ = some (.bool ag) ∧ w'.cell? ⟨w.heap.size, 4, none⟩ = some (.int .i64 d)) (by kernel_rfl) (BX.out _ hB6) (fun hHeld => ?_)
  refine tk 0 ?_
  refine tk 1 ?_
  refine tk 2 ?_
  refine tk 3 ?_
  refine tk 5 ?_
  refine tk 6 ?_
  refine tk 7 ?_
  refine rdy 4 (fun K hK => ?_)
  go_simp
  obtain ⟨W5, hW5⟩ : ∃ W5, W5 = w4.alloc (.cells #[.int .i64 s, .string ky, .string b, .bool ag, .int .i64 d] 43) := ⟨_, rfl⟩
  have hB45 : Below w4.heap.size w4 W5 := by rw [hW5]; exact (Below.refl _ _).alloc (Nat.le_refl _) _
  have hs5 : W5.heap.size = w4.heap.size + 1 := by rw [hW5]; simp
  have hh5 : W5.heap[w4.heap.size]? = some (.cells #[.int .i64 s, .string ky, .string b, .bool ag, .int .i64 d] 43) := by rw [hW5]; exact World.alloc_heap_new w4 _
  rw [← hW5]
  clear hW5
  have hB15 : Below W1.heap.size W1 W5 := hB14.trans (hB45.mono hB14.size)
  have hB15' : Below W1.heap.size W1 W5.drew.drew := ⟨hB15.os, hB15.tape, hB15.output, hB15.size, hB15.block⟩
  refine hK.out _ _ (BX.out _ hB15') (fun hHeld2 => ?_)
  clear hHeld hK K
  try simp only [Act.put, List.getElem_toArray, List.getElem_cons_succ, List.getElem_cons_zero, List.setIfInBounds_toArray, List.set_cons_zero, List.set_cons_succ]
  refine rdy 8 (fun K hK => ?_)
  go_simp
  obtain ⟨A3, hA3⟩ : ∃ A3 : Option Addr, A3 = (if c = i then some ⟨g, o, none⟩ else some ⟨g, o + i * 5, none⟩) := ⟨_, rfl⟩
  have HA3 : Hid (A3 = (if c = i then some ⟨g, o, none⟩ else some ⟨g, o + i * 5, none⟩)) := hA3
  rw [← hA3]
  clear hA3
  obtain ⟨W6, hW6⟩ : ∃ W6, W6 = W5.alloc (.cells #[.slice (some ⟨g, o, none⟩) i c, .slice (some ⟨w4.heap.size, 0, none⟩) 1 1, .slice A3 (n - i) (c - i)] 41) := ⟨_, rfl⟩
  have hB56 : Below W5.heap.size W5 W6 := by rw [hW6]; exact (Below.refl _ _).alloc (Nat.le_refl _) _
  have hs6 : W6.heap.size = W5.heap.size + 1 := by rw [hW6]; simp
  have hh6 : W6.heap[W5.heap.size]? = some (.cells #[.slice (some ⟨g, o, none⟩) i c, .slice (some ⟨w4.heap.size, 0, none⟩) 1 1, .slice A3 (n - i) (c - i)] 41) := by rw [hW6]; exact World.alloc_heap_new W5 _
  rw [← hW6]
  clear hW6
  have hB16 : Below W1.heap.size W1 W6 := hB15.trans (hB56.mono hB15.size)
  have hB16' : Below W1.heap.size W1 W6.drew.drew := ⟨hB16.os, hB16.tape, hB16.output, hB16.size, hB16.block⟩
  have hx6 : W6.heap[w4.heap.size]? = some (.cells #[.int .i64 s, .string ky, .string b, .bool ag, .int .i64 d] 43) := (hB56.block _ (by omega)).trans hh5
  have hi6 : ItemsAt W6 (some ⟨g, o, none⟩) xs := (HP.out.keep hB14).keep (hB45.trans (hB56.mono hB45.size))
  refine hK.out _ _ (BX.out _ hB16') (fun hHeld3 => ?_)
  clear hHeld2 hK K
  try simp only [Act.put, List.getElem_toArray, List.getElem_cons_succ, List.getElem_cons_zero, List.setIfInBounds_toArray, List.set_cons_zero, List.set_cons_succ]
  refine rdy 9 (fun K hK => ?_)
  go_simp
  refine (push_concat xs ⟨s, ky, b, ag, d⟩ _ A3 n c i (n - i) (c - i) _ w4.heap.size _ _ W6.drew.drew HN.out (Nat.le_of_lt hlt) hnc hz HF.out (by rw [HA3.out]; simp [addr_add]) rfl rfl hi6 (by rw [← hs5]; exact hh6) hx6).mono ?_
  rintro e w7 ⟨v, rfl, hown, hB7⟩
  have hB7' : Below W6.heap.size W6 w7 := ⟨hB7.os, hB7.tape, hB7.output, hB7.size, hB7.block⟩
  have hB17 : Below W1.heap.size W1 w7 := hB16.trans (hB7'.mono hB16.size)
  refine hK.out _ _ (BX.out _ hB17) (fun hHeld4 => ?_)
  clear hHeld3 hK K
  try simp only [Act.put, List.getElem_toArray, List.getElem_cons_succ, List.getElem_cons_zero, List.setIfInBounds_toArray, List.set_cons_zero, List.set_cons_succ]
  refine tk 10 ?_
  refine tk 11 ?_
  refine wpAnyH_done (by kernel_rfl) ?_ _
  go_wp2_with fail
  go_ret2
  have e1 : pushL xs ⟨s, ky, b, ag, d⟩ = xs.take i ++ [⟨s, ky, b, ag, d⟩] ++ xs.drop i := by
    unfold pushL
    have e2 : idxSeq s xs = i := HX.out.symm
    dsimp only
    rw [e2]
  have h16 := hB16.size
  have h17 := hB17.size
  refine ⟨v, rfl, ?_, hBw.trans (hB17.mono hBw.size)⟩
  rw [e1]
  exact own_base hown (by show w.heap.size ≤ W6.heap.size; omega)
theorem push_line (xs : List ItemD) (a : Option Addr) (n c : Nat) (s d : Int) (ky b : ByteArray) (ag : Bool) (w : World) (hn : xs.length = n) (hm : n ≤ maxLen) (hp : ItemsAt w a xs) (hl : lineOk xs = false) :
    Calls Tryz.prog 160 #[.slice a n c, .agg #[.int .i64 s, .string ky, .string b, .bool ag, .int .i64 d]] w fun e w' => e = .returned (.tuple #[.slice none 0 0, .int .i64 1]) ∧ Below w.heap.size w w' := by
  have HL : Hid (lineE xs = 1) := by show lineE xs = 1; unfold lineE; rw [hl]; rfl
  obtain ⟨W1, hW1, hBw, hs1, hbx⟩ := item_box w (.int .i64 s) (.string ky) (.string b) (.bool ag) (.int .i64 d) 43
  have HW1 : Hid (W1 = _) := hW1
  have HP : Hid (ItemsAt W1 a xs) := hp.keep hBw
  have HN : Hid (xs.length = n) := hn
  have HM : Hid (n ≤ maxLen) := hm
  clear hW1 hbx hp hl hn hm
  go_enter Tryz.func160, Tryz.ntmps160
  go_wp2_with fail
  rw [← HW1.out]
  refine (lcheck_any xs _ _ _ _ HN.out HM.out HP.out).mono ?_
  rintro e w2 ⟨rfl, hB2⟩
  rw [HL.out]
  go_wp2_with fail
  go_ret2
  exact ⟨rfl, hBw.trans (hB2.mono hBw.size)⟩
theorem push_item (xs : List ItemD) (a : Option Addr) (n c : Nat) (s d : Int) (ky b : ByteArray) (ag : Bool) (w : World) (hn : xs.length = n) (hm : n ≤ maxLen) (hp : ItemsAt w a xs) (hl : lineOk xs = true) (hr : itemOk ⟨s, ky, b, ag, d⟩ = false) :
    Calls Tryz.prog 160 #[.slice a n c, .agg #[.int .i64 s, .string ky, .string b, .bool ag, .int .i64 d]] w fun e w' => e = .returned (.tuple #[.slice none 0 0, .int .i64 1]) ∧ Below w.heap.size w w' := by
  have HL : Hid (lineE xs = 0) := by show lineE xs = 0; unfold lineE; rw [if_pos hl]
  have HR : Hid (itemOk ⟨s, ky, b, ag, d⟩ = false) := hr
  obtain ⟨W1, hW1, hBw, hs1, hbx⟩ := item_box w (.int .i64 s) (.string ky) (.string b) (.bool ag) (.int .i64 d) 43
  have HW1 : Hid (W1 = _) := hW1
  have BX : Hid (∀ W, Below W1.heap.size W1 W → _) := hbx
  have HP : Hid (ItemsAt W1 a xs) := hp.keep hBw
  have HN : Hid (xs.length = n) := hn
  have HM : Hid (n ≤ maxLen) := hm
  clear hW1 hbx hp hl hr hn hm
  go_enter Tryz.func160, Tryz.ntmps160
  go_wp2_with fail
  rw [← HW1.out]
  refine (lcheck_any xs _ _ _ _ HN.out HM.out HP.out).mono ?_
  rintro e w2 ⟨rfl, hB2⟩
  obtain ⟨d0, d1, d2, d3, d4⟩ := BX.out w2 hB2
  rw [HL.out]
  go_wp2_with fail
  refine (right_any _ _ _ _ _ _).mono ?_
  rintro e w3 ⟨rfl, hB3⟩
  rw [HR.out]
  go_wp2_with fail
  go_ret2
  exact ⟨rfl, hBw.trans ((hB2.trans (hB3.mono hB2.size)).mono hBw.size)⟩
theorem push_there (xs : List ItemD) (a : Option Addr) (n c : Nat) (s d : Int) (ky b : ByteArray) (ag : Bool) (w : World) (hn : xs.length = n) (hnc : n ≤ c) (hcm : c ≤ maxLen) (hz : a = none → c = 0) (hp : ItemsAt w a xs)
    (hl : lineOk xs = true) (hr : itemOk ⟨s, ky, b, ag, d⟩ = true) (i : Nat) (hi : i = idxSeq s xs) (hlt : i < n) (hq : xs[i]?.map ItemD.seq = some s) :
    Calls Tryz.prog 160 #[.slice a n c, .agg #[.int .i64 s, .string ky, .string b, .bool ag, .int .i64 d]] w fun e w' => e = .returned (.tuple #[.slice none 0 0, .int .i64 6]) ∧ Below w.heap.size w w' := by
  have hm : n ≤ maxLen := Nat.le_trans hnc hcm
  have hfew := lineOk_few hl
  have HL : Hid (lineE xs = 0) := by show lineE xs = 0; unfold lineE; rw [if_pos hl]
  have HR : Hid (itemOk ⟨s, ky, b, ag, d⟩ = true) := hr
  have HI : Hid (idxI s xs = i) := by show idxI s xs = i; unfold idxI; rw [← hi, if_pos (by rw [hn]; exact hlt)]
  obtain ⟨W1, hW1, hBw, hs1, hbx⟩ := item_box w (.int .i64 s) (.string ky) (.string b) (.bool ag) (.int .i64 d) 43
  have HW1 : Hid (W1 = _) := hW1
  have BX : Hid (∀ W, Below W1.heap.size W1 W → _) := hbx
  have HP : Hid (ItemsAt W1 a xs) := hp.keep hBw
  have HN : Hid (xs.length = n) := hn
  have HM : Hid (n ≤ maxLen) := hm
  have HF : Hid (n ≤ 1048576) := by show n ≤ 1048576; omega
  have HX : Hid (i = idxSeq s xs) := hi
  clear hW1 hbx hp hl hr hn hm hi
  have s1 := hBw.size
  go_enter Tryz.func160, Tryz.ntmps160
  go_wp2_with fail
  rw [← HW1.out]
  refine (lcheck_any xs _ _ _ _ HN.out HM.out HP.out).mono ?_
  rintro e w2 ⟨rfl, hB2⟩
  obtain ⟨d0, d1, d2, d3, d4⟩ := BX.out w2 hB2
  rw [HL.out]
  go_wp2_with fail
  refine (right_any _ _ _ _ _ _).mono ?_
  rintro e w3 ⟨rfl, hB3⟩
  have hB13 : Below W1.heap.size W1 w3 := hB2.trans (hB3.mono hB2.size)
  clear d0 d1 d2 d3 d4
  obtain ⟨d0, d1, d2, d3, d4⟩ := BX.out w3 hB13
  rw [HR.out]
  go_wp2_with fail
  refine (indexFunc_any xs _ _ _ _ s _ HN.out HM.out (HP.out.keep hB13) (by have := hB13.size; omega) d0).mono ?_
  rintro e w4 ⟨rfl, hB4⟩
  have hB14 : Below W1.heap.size W1 w4 := hB13.trans (hB4.mono hB13.size)
  clear d0 d1 d2 d3 d4
  obtain ⟨d0, d1, d2, d3, d4⟩ := BX.out w4 hB14
  rw [HI.out]
  have q0 : ¬ (i : Int) < 0 := by omega
  have q4 : (0 : Int) ≤ (i : Int) := by omega
  have q5 : (i : Int) < (n : Int) := by omega
  go_wp2_with fail
  obtain ⟨g, o, rfl, hg, hx⟩ := HP.out.cells (by rw [HN.out]; omega)
  have hg4 : g < w4.heap.size := by have := hB14.size; omega
  have cq : w4.cell? ⟨g, o + i * 5, none⟩ = some (.int .i64 s) := by
    have h1 := ((hx i (by rw [HN.out]; exact hlt)).keep hB14 hg).1
    have h2 : xs[i]'(by rw [HN.out]; exact hlt) = xs[i]'(by rw [HN.out]; exact hlt) := rfl
    rw [List.getElem?_eq_getElem (by rw [HN.out]; exact hlt)] at hq
    simp at hq
    rw [hq] at h1
    exact h1
  clear hx hq
  refine wp_region_held_drew (S := fun w' => w'.cell? ⟨g, o + i * 5, none⟩ = some (.int .i64 s) ∧ w'.cell? ⟨w.heap.size, 0, none⟩ = some (.int .i64 s)) (by kernel_rfl) ⟨cq, d0⟩ (fun hHeld => ?_)
  refine tk 0 ?_
  refine tk 1 ?_
  refine tk 2 ?_
  refine tk 3 ?_
  refine tk 4 ?_
  refine tk 5 ?_
  refine tk 6 ?_
  refine tk 7 ?_
  refine tk 8 ?_
  refine tk 9 ?_
  refine tk 10 ?_
  refine tk 11 ?_
  refine tk 12 ?_
  refine tk 13 ?_
  refine wpAnyH_done (by kernel_rfl) ?_ _
  go_wp2_with fail
  go_ret2
  exact ⟨rfl, hBw.trans ((hB14.mono hBw.size).trans ⟨rfl, rfl, rfl, Nat.le_refl _, fun _ _ => rfl⟩)⟩
theorem push_any (xs : List ItemD) (a : Option Addr) (n c : Nat) (s d : Int) (ky b : ByteArray) (ag : Bool) (w : World) (hn : xs.length = n) (hnc : n ≤ c) (hcm : c ≤ maxLen) (hz : a = none → c = 0) (hp : ItemsAt w a xs) :
    Calls Tryz.prog 160 #[.slice a n c, .agg #[.int .i64 s, .string ky, .string b, .bool ag, .int .i64 d]] w fun e w' => ∃ v m, e = .returned (.tuple #[v, .int .i64 (pushE xs ⟨s, ky, b, ag, d⟩)]) ∧ w'.ownsRow w.heap.size 43 5 v m (itemCells (pushV xs ⟨s, ky, b, ag, d⟩)) ∧ Below w.heap.size w w' := by
  have hm : n ≤ maxLen := Nat.le_trans hnc hcm
  cases hl : lineOk xs with
  | false =>
    have e1 : pushE xs ⟨s, ky, b, ag, d⟩ = 1 := by unfold pushE; rw [hl]; rfl
    refine (push_line xs a n c s d ky b ag w hn hm hp hl).mono ?_
    rintro e w' ⟨rfl, hB⟩
    exact ⟨_, 0, by rw [e1], by unfold pushV; rw [e1]; exact World.ownsRow_nil _ _ _ _, hB⟩
  | true =>
    cases hr : itemOk ⟨s, ky, b, ag, d⟩ with
    | false =>
      have e1 : pushE xs ⟨s, ky, b, ag, d⟩ = 1 := by unfold pushE; rw [hl, hr]; rfl
      refine (push_item xs a n c s d ky b ag w hn hm hp hl hr).mono ?_
      rintro e w' ⟨rfl, hB⟩
      exact ⟨_, 0, by rw [e1], by unfold pushV; rw [e1]; exact World.ownsRow_nil _ _ _ _, hB⟩
    | true =>
      by_cases hlt : idxSeq s xs < n
      · have hq : xs[idxSeq s xs]?.map ItemD.seq = some (xs[idxSeq s xs]'(by rw [hn]; exact hlt)).seq := by rw [List.getElem?_eq_getElem (by rw [hn]; exact hlt)]; rfl
        by_cases heq : (xs[idxSeq s xs]'(by rw [hn]; exact hlt)).seq = s
        · have e1 : pushE xs ⟨s, ky, b, ag, d⟩ = 6 := by unfold pushE pushHas; rw [hl, hr]; simp only [hq, heq]; simp
          refine (push_there xs a n c s d ky b ag w hn hnc hcm hz hp hl hr _ rfl hlt (by rw [hq, heq])).mono ?_
          rintro e w' ⟨rfl, hB⟩
          exact ⟨_, 0, by rw [e1], by unfold pushV; rw [e1]; exact World.ownsRow_nil _ _ _ _, hB⟩
        · have e1 : pushE xs ⟨s, ky, b, ag, d⟩ = 0 := by unfold pushE pushHas; rw [hl, hr]; simp only [hq]; simp [heq]
          refine (push_mid xs a n c s d ky b ag w hn hnc hcm hz hp hl hr _ rfl hlt _ hq heq).mono ?_
          rintro e w' ⟨v, rfl, hown, hB⟩
          exact ⟨v, _, by rw [e1], by unfold pushV; rw [e1]; exact hown, hB⟩
      · have e1 : pushE xs ⟨s, ky, b, ag, d⟩ = 0 := by
          unfold pushE pushHas; rw [hl, hr]
          have : xs[idxSeq s xs]? = none := List.getElem?_eq_none (by rw [hn]; omega)
          simp only [this]; simp
        refine (push_ok xs a n c s d ky b ag w hn hnc hcm hz hp hl hr _ rfl hlt).mono ?_
        rintro e w' ⟨v, rfl, hown, hB⟩
        exact ⟨v, _, by rw [e1], by unfold pushV; rw [e1]; exact hown, hB⟩
theorem same_items (xs : List ItemD) (a1 a2 : Option Addr) (n c1 c2 : Nat) (w : World) (hn : xs.length = n) (hm : n ≤ maxLen) (h1 : ItemsAt w a1 xs) (h2 : ItemsAt w a2 xs) :
    Calls Tryz.prog 27 #[.slice a1 n c1, .slice a2 n c2] w fun e w' => e = .returned (.bool true) ∧ Below w.heap.size w w' := by
  have HN : Hid (xs.length = n) := hn
  have HP : Hid (ItemsAt w a1 xs ∧ ItemsAt w a2 xs) := ⟨h1, h2⟩
  unfold maxLen at hm
  clear hn h1 h2
  go_enter Tryz.func27, Tryz.ntmps27
  go_wp2
  go_loopw [5] (fun i wr => ∃ (k : Nat), k ≤ n ∧ i = .int .i64 k ∧ Below w.heap.size w wr) (fun i _ => n - (intOf i).toNat)
  case atStart => exact ⟨0, Nat.zero_le _, rfl, Below.refl _ _⟩
  case round =>
    obtain ⟨k, hk, rfl, hB⟩ := hrel
    have hBs := hB.size
    by_cases hlt : k < n
    · have hkl : k < xs.length := by rw [HN.out]; exact hlt
      obtain ⟨g, o, rfl, hg, hx⟩ := HP.out.1.cells (by omega)
      obtain ⟨g', o', rfl, hg', hx'⟩ := HP.out.2.cells (by omega)
      obtain ⟨x, hxx⟩ : ∃ x, x = xs[k] := ⟨_, rfl⟩
      have hc := (hx k hkl).keep hB hg
      have hc' := (hx' k hkl).keep hB hg'
      rw [← hxx] at hc hc'
      clear hx hx' hxx
      obtain ⟨s, ky, b, ag, d⟩ := x
      have j1 : (0 : Int) ≤ (k : Int) := by omega
      have j2 : (k : Int) < n := by omega
      go_wp2_with fail
      refine wp_region_held_drew (S := fun w' => (w'.cell? ⟨g, o + k * 5, none⟩ = some (.int .i64 s) ∧ w'.cell? ⟨g, o + k * 5 + 1, none⟩ = some (.string ky) ∧ w'.cell? ⟨g, o + k * 5 + 2, none⟩ = some (.string b) ∧ w'.cell? ⟨g, o + k * 5 + 3, none⟩ = some (.bool ag) ∧ w'.cell? ⟨g, o + k * 5 + 4, none⟩ = some (.int .i64 d)) ∧
        (w'.cell? ⟨g', o' + k * 5, none⟩ = some (.int .i64 s) ∧ w'.cell? ⟨g', o' + k * 5 + 1, none⟩ = some (.string ky) ∧ w'.cell? ⟨g', o' + k * 5 + 2, none⟩ = some (.string b) ∧ w'.cell? ⟨g', o' + k * 5 + 3, none⟩ = some (.bool ag) ∧ w'.cell? ⟨g', o' + k * 5 + 4, none⟩ = some (.int .i64 d))) (by kernel_rfl) ⟨hc, hc'⟩ (fun hHeld => ?_)
      refine tk 0 ?_
      refine tk 1 ?_
      refine tk 2 ?_
      refine tk 3 ?_
      refine tk 4 ?_
      refine tk 5 ?_
      refine tk 6 ?_
      refine tk 7 ?_
      refine tk 8 ?_
      refine wpAnyH_done (by kernel_rfl) ?_ _
      go_wp2_with fail
      go_roundw
      case rel => exact ⟨k + 1, by omega, by go_num, ⟨hB.os, hB.tape, hB.output, hB.size, hB.block⟩⟩
      case measure => simp [intOf]; omega
    · go_wp2
      go_ret
      exact ⟨rfl, hB⟩
theorem copied_any (xs : List ItemD) (a : Option Addr) (n c : Nat) (w : World) (hn : xs.length = n) (hb : n ≤ 100000000) (hz : a = none → c = 0 ∧ xs = []) (hp : ItemsAt w a xs) :
    Calls Tryz.prog 206 #[.slice a n c] w fun e w' => ∃ v, e = .returned v ∧ w'.ownsRow w.heap.size 43 5 v n (itemCells xs) ∧ Below w.heap.size w w' := by
  have HN : Hid (xs.length = n) := hn
  have HP : Hid (ItemsAt w a xs) := hp
  have HZ : Hid (a = none → c = 0 ∧ xs = []) := hz
  clear hn hp hz
  go_enter Tryz.func206, Tryz.ntmps206
  go_wp2_with (at_builtin; refine append_items rfl _ _ rfl w.heap.size (.slice none 0 0) 0 [] rfl (World.ownsRow_nil _ _ _ _) a n c xs rfl HN.out HZ.out HP.out (by omega) (Nat.le_refl _) ?_; intro v' w3 hown3 hgrow3)
  go_ret
  exact ⟨v', rfl, by simpa using hown3, (Below.refl _ _).grown hgrow3 (Nat.le_refl _) (by simp [Value.ownBlock])⟩
theorem idx_below {s : Int} : ∀ {xs : List ItemD} {j : Nat}, j < idxSeq s xs → ∃ h : j < xs.length, xs[j].seq < s
  | [], j, h => by simp [idxSeq] at h
  | x :: r, j, h => by
    unfold idxSeq at h
    by_cases hx : s ≤ x.seq
    · rw [if_pos hx] at h; omega
    · rw [if_neg hx] at h
      cases j with
      | zero => exact ⟨by simp, by simp; omega⟩
      | succ j => obtain ⟨h1, h2⟩ := idx_below (s := s) (xs := r) (j := j) (by omega); exact ⟨by simp; omega, by simpa using h2⟩
theorem idx_at {s : Int} : ∀ {xs : List ItemD} (h : idxSeq s xs < xs.length), s ≤ xs[idxSeq s xs].seq
  | [], h => by simp at h
  | x :: r, h => by
    by_cases hx : s ≤ x.seq
    · have e : idxSeq s (x :: r) = 0 := by unfold idxSeq; rw [if_pos hx]
      simp [e, hx]
    · have e : idxSeq s (x :: r) = idxSeq s r + 1 := by conv => lhs; unfold idxSeq
                                                        rw [if_neg hx]
      have h' : idxSeq s r < r.length := by rw [e] at h; simpa using h
      have := idx_at h'
      simpa [e] using this
def pushK (xs : List ItemD) (x : ItemD) (k : Nat) : List ItemD := if idxSeq x.seq xs < k then (pushL xs x).take (k + 1) else xs.take k
theorem pushL_len (xs : List ItemD) (x : ItemD) : (pushL xs x).length = xs.length + 1 := by
  have := idxSeq_le x.seq xs
  unfold pushL; simp; omega
theorem pushL_get {xs : List ItemD} {x : ItemD} {k : Nat} (h : idxSeq x.seq xs ≤ k) (hk : k < xs.length) : (pushL xs x)[k + 1]? = some xs[k] := by
  have h1 := idxSeq_le x.seq xs
  unfold pushL
  rw [List.getElem?_append_right (by simp; omega), List.getElem?_drop]
  have e : idxSeq x.seq xs + (k + 1 - (List.take (idxSeq x.seq xs) xs ++ [x]).length) = k := by simp; omega
  rw [e, List.getElem?_eq_getElem hk]
theorem pushK_zero (xs : List ItemD) (x : ItemD) : pushK xs x 0 = [] := by unfold pushK; simp
theorem pushK_other {xs : List ItemD} {x : ItemD} {k : Nat} (hk : k < xs.length) (h : idxSeq x.seq xs ≠ k) : pushK xs x (k + 1) = pushK xs x k ++ [xs[k]] := by
  unfold pushK
  by_cases h1 : idxSeq x.seq xs < k
  · rw [if_pos h1, if_pos (by omega), List.take_add_one, pushL_get (by omega) hk]; rfl
  · rw [if_neg h1, if_neg (by omega), List.take_succ_eq_append_getElem hk]
theorem pushK_here {xs : List ItemD} {x : ItemD} {k : Nat} (hk : k < xs.length) (h : idxSeq x.seq xs = k) : pushK xs x (k + 1) = pushK xs x k ++ [x] ++ [xs[k]] := by
  unfold pushK
  rw [if_pos (show idxSeq x.seq xs < k + 1 by omega), if_neg (show ¬ idxSeq x.seq xs < k by omega), List.take_add_one, pushL_get (by omega) hk]
  have e : (pushL xs x).take (k + 1) = xs.take k ++ [x] := by
    unfold pushL; rw [h, List.take_append_of_le_length (by simp; omega), List.take_of_length_le (by simp; omega)]
  rw [e]; rfl
theorem pushK_len {xs : List ItemD} {x : ItemD} {k : Nat} (hk : k ≤ xs.length) : (pushK xs x k).length ≤ xs.length + 1 := by
  unfold pushK; split
  · rw [List.length_take, pushL_len]; omega
  · rw [List.length_take]; omega
theorem pushK_all {xs : List ItemD} {x : ItemD} (h : idxSeq x.seq xs < xs.length) : pushK xs x xs.length = pushL xs x := by
  unfold pushK; rw [if_pos h, List.take_of_length_le (by rw [pushL_len]; omega)]
theorem pushK_end {xs : List ItemD} {x : ItemD} (h : ¬ idxSeq x.seq xs < xs.length) : pushL xs x = pushK xs x xs.length ++ [x] := by
  have := idxSeq_le x.seq xs
  have e : idxSeq x.seq xs = xs.length := by omega
  unfold pushK; rw [if_neg h]; unfold pushL; rw [e]; simp
theorem below_drewL {b n : Nat} {W w' : World} (h : Below b W w') : Below b W (w'.drewN n) := ⟨h.os, h.tape, h.output, h.size, h.block⟩
theorem app_below {W1 wq w3 : World} {o : Obj} {v : Value} {T : TypeId} {m : Nat} {xs : List Value} (hB : Below W1.heap.size W1 wq) (hrow : wq.ownsRow W1.heap.size T 5 v m xs) (hg : (wq.alloc o).grownBy w3 v.ownBlock) : Below W1.heap.size W1 w3 :=
  (hB.alloc hB.size o).grown hg (by have := hB.size; simp; omega) (own_ge hrow)
theorem rpush_any (xs : List ItemD) (a : Option Addr) (n c : Nat) (s d : Int) (ky b : ByteArray) (ag : Bool) (w : World) (hn : xs.length = n) (hf : n ≤ 1048576) (hp : ItemsAt w a xs) (hh : pushHas s xs = false) :
    Calls Tryz.prog 99 #[.slice a n c, .agg #[.int .i64 s, .string ky, .string b, .bool ag, .int .i64 d]] w fun e w' => ∃ v m, e = .returned v ∧ w'.ownsRow w.heap.size 43 5 v m (itemCells (pushL xs ⟨s, ky, b, ag, d⟩)) ∧ Below w.heap.size w w' := by
  obtain ⟨W1, hW1, hBw, hs1, hbx⟩ := item_box w (.int .i64 s) (.string ky) (.string b) (.bool ag) (.int .i64 d) 43
  have HW1 : Hid (W1 = _) := hW1
  have BX : Hid (∀ W, Below W1.heap.size W1 W → _) := hbx
  have HP : Hid (ItemsAt W1 a xs) := hp.keep hBw
  have HN : Hid (xs.length = n) := hn
  have HH : Hid (pushHas s xs = false) := hh
  obtain ⟨x, hx⟩ : ∃ x : ItemD, x = ⟨s, ky, b, ag, d⟩ := ⟨_, rfl⟩
  have HX : Hid (x = ⟨s, ky, b, ag, d⟩) := hx
  have HQ : Hid (x.seq = s) := by show x.seq = s; rw [hx]
  rw [← hx]
  clear hW1 hbx hp hn hh hx
  have hBs1 := hBw.size
  go_enter Tryz.func99, Tryz.ntmps99
  go_wp2_with fail
  rw [← HW1.out]
  go_loopw [5, 6, 7] (fun l dn i wr => ∃ (k m : Nat), k ≤ n ∧ i = .int .i64 k ∧ dn = .bool (decide (idxSeq s xs < k)) ∧ wr.ownsRow W1.heap.size 43 5 l m (itemCells (pushK xs x k)) ∧ Below W1.heap.size W1 wr) (fun _ _ i _ => n - (intOf i).toNat)
  case atStart => exact ⟨0, 0, Nat.zero_le _, rfl, by simp, by rw [pushK_zero]; exact World.ownsRow_nil _ _ _ _, Below.refl _ _⟩
  case round =>
    obtain ⟨k, m, hk, rfl, rfl, hrow, hB⟩ := hrel
    have hBs := hB.size
    have hml : m = (pushK xs x k).length := (own_items hrow).1
    have hmk : m ≤ n + 1 := by rw [hml, ← HN.out]; exact pushK_len (by rw [HN.out]; exact hk)
    obtain ⟨d0, d1, d2, d3, d4⟩ := BX.out wr hB
    clear hml
    by_cases hlt : k < n
    · have hkl : k < xs.length := by rw [HN.out]; exact hlt
      obtain ⟨g, o, rfl, hg, hx⟩ := HP.out.cells (by omega)
      obtain ⟨y, hyy⟩ : ∃ y, y = xs[k] := ⟨_, rfl⟩
      have hc := (hx k hkl).keep hB hg
      rw [← hyy] at hc
      have HY : Hid (y = xs[k]) := hyy
      have HC : Hid (ItemCells W1 g (o + k * 5) y) := by show ItemCells W1 g (o + k * 5) y; rw [hyy]; exact hx k hkl
      clear hx hyy
      obtain ⟨s', ky', b', ag', d'⟩ := y
      obtain ⟨c0, c1, c2, c3, c4⟩ := hc
      dsimp only at c0 c1 c2 c3 c4
      have j1 : (0 : Int) ≤ (k : Int) := by omega
      have j2 : (k : Int) < n := by omega
      have hgw : g < wr.heap.size := by omega
      by_cases hd : idxSeq s xs = k
      · have hq : s < s' := by
          have h1 := idx_at (s := s) (xs := xs) (by rw [hd]; exact hkl)
          have h2 : s ≤ s' := by simp only [hd] at h1; rw [← HY.out] at h1; exact h1
          have h3 : ¬ s' = s := by
            intro e
            have := HH.out
            unfold pushHas at this
            rw [hd, List.getElem?_eq_getElem hkl, ← HY.out] at this
            simp [e] at this
          omega
        have HF : Hid (pushK xs x (k + 1) = pushK xs x k ++ [x] ++ [⟨s', ky', b', ag', d'⟩]) := by
          show pushK xs x (k + 1) = _
          rw [pushK_here hkl (by rw [HQ.out]; exact hd), ← HY.out]
        have hdd : decide (idxSeq s xs < k) = false := by simp; omega
        have HD1 : Hid (decide (idxSeq s xs < k + 1) = true) := by show decide _ = true; simp; omega
        rw [hdd]
        clear hdd hd
        go_wp2_with fail
        go_quiet (fail)
        obtain ⟨wq, hwq⟩ : ∃ wq, wq = wr.drewN nq := ⟨_, rfl⟩
        have hBq : Below W1.heap.size W1 wq := by rw [hwq]; exact below_drewL hB
        have hrq : wq.ownsRow W1.heap.size 43 5 u5 m (itemCells (pushK xs x k)) := by rw [hwq]; exact hrow
        rw [← hwq]
        clear hwq hrow d0 d1 d2 d3 d4 hB
        obtain ⟨d0, d1, d2, d3, d4⟩ := BX.out wq hBq
        have hBqs := hBq.size
        go_wp2_with (first
          | (at_builtin; refine append_items rfl _ _ rfl W1.heap.size _ _ _ rfl (hrq.alloc _) (some ⟨wq.heap.size, 0, none⟩) 1 1 [x] rfl rfl (fun e => by cases e) (by rw [HX.out]; exact ItemsAt.single (World.alloc_heap_new _ _)) (by omega) (by simp; omega) ?_; intro v' w3 hown3 hgrow3; have hB3 := app_below hBq hrq hgrow3; have hB3s := hB3.size; clear d0 d1 d2 d3 d4; obtain ⟨e0, e1, e2, e3, e4⟩ := HC.out.keep hB3 hg)
          | (at_builtin; refine append_items rfl _ _ rfl W1.heap.size _ _ _ rfl (hown3.alloc _) (some ⟨w3.heap.size, 0, none⟩) 1 1 [⟨s', ky', b', ag', d'⟩] rfl rfl (fun e => by cases e) (ItemsAt.single (World.alloc_heap_new _ _)) (by omega) (by simp; omega) ?_; intro v4 w4 hown4 hgrow4))
        have hB4 := app_below hB3 hown3 hgrow4
        go_roundw
        case rel => exact ⟨k + 1, _, by omega, by go_num, by rw [HD1.out], by rw [HF.out]; exact hown4, hB4⟩
        case measure => simp [intOf]; omega
      · have HF : Hid (pushK xs x (k + 1) = pushK xs x k ++ [⟨s', ky', b', ag', d'⟩]) := by
          show pushK xs x (k + 1) = _
          rw [pushK_other hkl (by rw [HQ.out]; exact hd), ← HY.out]
        have hdn : (decide (idxSeq s xs < k) = true ∧ decide (idxSeq s xs < k + 1) = true) ∨ (decide (idxSeq s xs < k) = false ∧ decide (idxSeq s xs < k + 1) = false ∧ s' < s) := by
          rcases Nat.lt_or_ge (idxSeq s xs) k with h | h
          · left; simp; omega
          · right
            obtain ⟨_, h2⟩ := idx_below (s := s) (xs := xs) (j := k) (by omega)
            rw [← HY.out] at h2
            refine ⟨by simp; omega, by simp; omega, h2⟩
        clear hd
        rcases hdn with ⟨h1, h2⟩ | ⟨h1, h2, h3⟩
        all_goals
          rw [h1]
          have HD1 : Hid (decide (idxSeq s xs < k + 1) = _) := h2
          clear h1 h2
        · go_wp2_with fail
          go_quiet (fail)
          obtain ⟨wq, hwq⟩ : ∃ wq, wq = wr.drewN nq := ⟨_, rfl⟩
          have hBq : Below W1.heap.size W1 wq := by rw [hwq]; exact below_drewL hB
          have hrq : wq.ownsRow W1.heap.size 43 5 u5 m (itemCells (pushK xs x k)) := by rw [hwq]; exact hrow
          rw [← hwq]
          clear hwq hrow d0 d1 d2 d3 d4 hB c0 c1 c2 c3 c4
          have hBqs := hBq.size
          obtain ⟨e0, e1, e2, e3, e4⟩ := HC.out.keep hBq hg
          go_wp2_with (at_builtin; refine append_items rfl _ _ rfl W1.heap.size _ _ _ rfl (hrq.alloc _) (some ⟨wq.heap.size, 0, none⟩) 1 1 [⟨s', ky', b', ag', d'⟩] rfl rfl (fun e => by cases e) (ItemsAt.single (World.alloc_heap_new _ _)) (by omega) (by simp; omega) ?_; intro v4 w4 hown4 hgrow4)
          have hB4 := app_below hBq hrq hgrow4
          go_roundw
          case rel => exact ⟨k + 1, _, by omega, by go_num, by rw [HD1.out], by rw [HF.out]; exact hown4, hB4⟩
          case measure => simp [intOf]; omega
        · have h4 : decide (s < s') = false := by simp; omega
          clear h3
          go_wp2_with fail
          go_quiet (fail)
          obtain ⟨wq, hwq⟩ : ∃ wq, wq = wr.drewN nq := ⟨_, rfl⟩
          have hBq : Below W1.heap.size W1 wq := by rw [hwq]; exact below_drewL hB
          have hrq : wq.ownsRow W1.heap.size 43 5 u5 m (itemCells (pushK xs x k)) := by rw [hwq]; exact hrow
          rw [← hwq]
          clear hwq hrow d0 d1 d2 d3 d4 hB c0 c1 c2 c3 c4
          have hBqs := hBq.size
          obtain ⟨e0, e1, e2, e3, e4⟩ := HC.out.keep hBq hg
          go_wp2_with (at_builtin; refine append_items rfl _ _ rfl W1.heap.size _ _ _ rfl (hrq.alloc _) (some ⟨wq.heap.size, 0, none⟩) 1 1 [⟨s', ky', b', ag', d'⟩] rfl rfl (fun e => by cases e) (ItemsAt.single (World.alloc_heap_new _ _)) (by omega) (by simp; omega) ?_; intro v4 w4 hown4 hgrow4)
          have hB4 := app_below hBq hrq hgrow4
          go_roundw
          case rel => exact ⟨k + 1, _, by omega, by go_num, by rw [HD1.out], by rw [HF.out]; exact hown4, hB4⟩
          case measure => simp [intOf]; omega
    · have hkn : k = xs.length := by rw [HN.out]; omega
      by_cases hd : idxSeq s xs < k
      · have HF : Hid (pushK xs x k = pushL xs x) := by show pushK xs x k = _; rw [hkn]; exact pushK_all (by rw [HQ.out, ← hkn]; exact hd)
        have hdd : decide (idxSeq s xs < k) = true := by simpa using hd
        rw [hdd]
        clear hdd hd hkn
        go_wp2_with fail
        go_ret
        exact ⟨_, m, rfl, by rw [← HF.out]; exact own_base hrow (by omega), hBw.trans (hB.mono hBs1)⟩
      · have HF : Hid (pushL xs x = pushK xs x k ++ [x]) := by show pushL xs x = _; rw [hkn]; exact pushK_end (by rw [HQ.out, ← hkn]; exact hd)
        have hdd : decide (idxSeq s xs < k) = false := by simpa using hd
        rw [hdd]
        clear hdd hd hkn
        go_wp2_with (at_builtin; refine append_items rfl _ _ rfl W1.heap.size _ _ _ rfl (hrow.alloc _) (some ⟨wr.heap.size, 0, none⟩) 1 1 [x] rfl rfl (fun e => by cases e) (by rw [HX.out]; exact ItemsAt.single (World.alloc_heap_new _ _)) (by omega) (by simp; omega) ?_; intro v4 w4 hown4 hgrow4)
        have hB4 := app_below hB hrow hgrow4
        go_ret
        exact ⟨_, _, rfl, by rw [HF.out]; exact own_base hown4 (by omega), hBw.trans (hB4.mono hBs1)⟩
theorem lineFrom_rise : ∀ {xs : List ItemD} {last : Int}, lineFrom last xs = true → xs.Pairwise (fun x y => x.seq < y.seq) ∧ ∀ x ∈ xs, last < x.seq
  | [], last, _ => ⟨List.Pairwise.nil, by simp⟩
  | x :: r, last, h => by
    unfold lineFrom at h
    simp only [Bool.and_eq_true, decide_eq_true_eq] at h
    obtain ⟨⟨h1, h2⟩, h3⟩ := h
    obtain ⟨h4, h5⟩ := lineFrom_rise h3
    refine ⟨List.pairwise_cons.2 ⟨h5, h4⟩, ?_⟩
    intro y hy
    rcases List.mem_cons.1 hy with rfl | hy
    · exact h2
    · have := h5 y hy; omega
theorem lineOk_rise {xs : List ItemD} (h : lineOk xs = true) {i j : Nat} (hj : j < xs.length) (hij : i < j) : (xs[i]'(by omega)).seq < xs[j].seq :=
  List.pairwise_iff_getElem.1 (lineFrom_rise h).1 i j (by omega) hj hij
theorem has_yes {xs : List ItemD} (hl : lineOk xs = true) {k : Nat} {s : Int} (hk : k < xs.length) (h : xs[k].seq = s) : pushHas s xs = true := by
  have h1 : idxSeq s xs ≤ k := by
    rcases Nat.lt_or_ge k (idxSeq s xs) with h1 | h1
    · obtain ⟨_, h2⟩ := idx_below h1; omega
    · exact h1
  have h2 := idx_at (s := s) (xs := xs) (by omega)
  have h3 : idxSeq s xs = k := by
    rcases Nat.lt_or_ge (idxSeq s xs) k with h3 | h3
    · have := lineOk_rise hl hk h3; omega
    · omega
  unfold pushHas
  rw [h3, List.getElem?_eq_getElem hk]; simp [h]
end Go.Proofs.YtpoichgodamnkaaGreat
