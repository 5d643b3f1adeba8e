/- lines.Push, whole. -/
import Derived.Test.YthhkpgnjpieckaaLp
import Derived.Test.YthhkpgnjpieckaaHk
namespace Go.Proofs.Ythhkpgnjpieckaa
set_option linter.unusedVariables false
set_option maxRecDepth 100000
open Go.RowKit

def pushHas (q : Int) (xs : List ItemD) : Bool := (xs[idxSeq q xs]?.map ItemD.seq) == some q
def pushL (xs : List ItemD) (x : ItemD) : List ItemD := xs.take (idxSeq x.seq xs) ++ [x] ++ xs.drop (idxSeq x.seq xs)
def pushE (xs : List ItemD) (x : ItemD) : Int := if lineOk xs = true then (if itemOk x = true then (if pushHas x.seq xs = true then 6 else 0) else 1) else 1
def pushV (xs : List ItemD) (x : ItemD) : List ItemD := if pushE xs x = 0 then pushL xs x else []

theorem lineFrom_few : ∀ {xs : List ItemD} {last : Int}, last ≤ 1048575 → lineFrom last xs = true → (xs.length : Int) ≤ 1048575 - last
  | [], last, h, _ => by simp; omega
  | x :: r, last, h, hl => by
    unfold lineFrom at hl
    simp only [Bool.and_eq_true, decide_eq_true_eq] at hl
    obtain ⟨⟨h1, h2⟩, h3⟩ := hl
    have hx : x.seq ≤ 1048575 := by unfold itemOk itemNums at h1; simp at h1; omega
    have := lineFrom_few hx h3
    simp only [List.length_cons]; omega
theorem lineOk_few {xs : List ItemD} (h : lineOk xs = true) : xs.length ≤ 1048576 := by
  have := lineFrom_few (by omega) h; omega

theorem own_base {W : World} {base base' : Nat} {e : TypeId} {size : Nat} {v : Value} {n : Nat} {xs : List Value} (h : W.ownsRow base e size v n xs) (hb : base' ≤ base) : W.ownsRow base' e size v n xs := by
  refine ⟨h.1, ?_⟩
  rcases h.2 with h | ⟨g, cap, cur, h1, h2, h3⟩
  · exact .inl h
  · exact .inr ⟨g, cap, cur, h1, Nat.le_trans hb h2, h3⟩
theorem ret_vi {v : Value} {a b : Int} (h : a = b) : Ending.returned (.tuple #[v, .int .i64 a]) = .returned (.tuple #[v, .int .i64 b]) := by rw [h]

theorem cell_blk {W : World} {b : Nat} {cs : Array Value} {t : TypeId} (h : W.heap[b]? = some (.cells cs t (0, 0))) (i : Nat) : W.cell? ⟨b, i, none⟩ = cs[i]? := by
  unfold World.cell?; simp only; rw [h]; rfl
theorem ItemsAt.take {W : World} {a : Option Addr} {xs : List ItemD} (h : ItemsAt W a xs) (i : Nat) : ItemsAt W a (xs.take i) := by
  rcases h with h | ⟨g, o, ha, hg, h⟩
  · exact .inl (by rw [h]; simp)
  · exact .inr ⟨g, o, ha, hg, fun j hj => by
      have hj' : j < xs.length := by simp at hj; omega
      have := h j hj'
      simpa using this⟩
theorem ItemsAt.drop {W : World} {a : Option Addr} {xs : List ItemD} (h : ItemsAt W a xs) (i c : Nat) (hc : xs.length ≤ c) : ItemsAt W (if c = i then a else Option.map (fun x => x.add (i * 5)) a) (xs.drop i) := by
  by_cases hci : c = i
  · exact .inl (List.drop_eq_nil_of_le (by omega))
  · rw [if_neg hci]
    rcases h with h | ⟨g, o, ha, hg, h⟩
    · exact .inl (by rw [h]; simp)
    · subst ha
      refine .inr ⟨g, o + i * 5, by simp [addr_add], hg, fun j hj => ?_⟩
      have hj' : i + j < xs.length := by simp at hj; omega
      have := h (i + j) hj'
      have e : o + i * 5 + j * 5 = o + (i + j) * 5 := by omega
      rw [e]
      simpa using this
theorem ItemsAt.single {W : World} {hb : Nat} {t : TypeId} {x : ItemD} (h : W.heap[hb]? = some (.cells #[.int .i64 x.seq, .string x.key, .string x.body, .bool x.again, .int .i64 x.deaths] t (0, 0))) : ItemsAt W (some ⟨hb, 0, none⟩) [x] :=
  .inr ⟨hb, 0, rfl, (Array.getElem?_eq_some_iff.1 h).1, fun j hj => by
    have hj0 : j = 0 := by simp at hj; omega
    subst hj0
    exact ⟨cell_blk h 0, cell_blk h 1, cell_blk h 2, cell_blk h 3, cell_blk h 4⟩⟩

theorem push_concat (xs : List ItemD) (x : ItemD) (a A3 : Option Addr) (n c i m3 c3 : Nat) (h hb : Nat) (t t2 : TypeId) (W : World) (hn : xs.length = n) (hi : i ≤ n) (hnc : n ≤ c) (hz : a = none → c = 0) (hf : n ≤ 1048576)
    (hA3 : A3 = (if c = i then a else Option.map (fun x => x.add (i * 5)) a)) (hm3 : m3 = n - i) (hc3 : c3 = c - i) (hp : ItemsAt W a xs)
    (hh : W.heap[h]? = some (.cells #[.slice a i c, .slice (some ⟨hb, 0, none⟩) 1 1, .slice A3 m3 c3] t (0, 0)))
    (hx : W.heap[hb]? = some (.cells #[.int .i64 x.seq, .string x.key, .string x.body, .bool x.again, .int .i64 x.deaths] t2 (0, 0))) :
    Calls Try.prog 88 #[.slice (some ⟨h, 0, none⟩) 3 3] W fun e w' => ∃ v, e = .returned v ∧ w'.ownsRow W.heap.size 59 5 v (n + 1) (itemCells (xs.take i ++ [x] ++ xs.drop i)) ∧ Below W.heap.size W w' := by
  subst hm3 hc3
  have ha0 : a = none → xs = [] := fun e => List.length_eq_zero_iff.1 (by have := hz e; omega)
  have key := concat3 h (xs.take i) [x] (xs.drop i) a (some ⟨hb, 0, none⟩) A3 i 1 (n - i) c 1 (c - i) W (Array.getElem?_eq_some_iff.1 hh).1 (cell_blk hh 0) (cell_blk hh 1) (cell_blk hh 2) (by simp; omega) rfl (by simp; omega)
    (hp.take i) (ItemsAt.single hx) (by rw [hA3]; exact hp.drop i c (by omega)) (fun e => ⟨hz e, by rw [ha0 e]; simp⟩) (fun e => by cases e)
    (fun e => by
      have e2 : a = none := by
        rw [hA3] at e
        split at e
        · exact e
        · simpa using e
      exact ⟨by have := hz e2; omega, by rw [ha0 e2]; simp⟩) (by omega) (by omega)
  have e : i + 1 + (n - i) = n + 1 := by omega
  rw [e] at key
  exact key

set_option maxHeartbeats 4000000 in
theorem push_ok (xs : List ItemD) (a : Option Addr) (n c : Nat) (s d : Int) (ky b : ByteArray) (ag : Bool) (w : World) (hn : xs.length = n) (hnc : n ≤ c) (hcm : c ≤ maxLen) (hz : a = none → c = 0) (hp : ItemsAt w a xs)
    (hl : lineOk xs = true) (hr : itemOk ⟨s, ky, b, ag, d⟩ = true) (i : Nat) (hi : i = idxSeq s xs) (hlt : ¬ i < n) :
    Calls Try.prog 42 #[.slice a n c, .agg #[.int .i64 s, .string ky, .string b, .bool ag, .int .i64 d]] w fun e w' => ∃ v, e = .returned (.tuple #[v, .int .i64 0]) ∧ w'.ownsRow w.heap.size 59 5 v (n + 1) (itemCells (pushL xs ⟨s, ky, b, ag, d⟩)) ∧ Below w.heap.size w w' := by
  have hm : n ≤ maxLen := Nat.le_trans hnc hcm
  have hfew := lineOk_few hl
  have HL : Hid (lineE xs = 0) := by show lineE xs = 0; unfold lineE; rw [if_pos hl]
  have HR : Hid (itemOk ⟨s, ky, b, ag, d⟩ = true) := hr
  have HI : Hid (idxI s xs = -1) := by show idxI s xs = -1; unfold idxI; rw [← hi, if_neg (by rw [hn]; exact hlt)]
  obtain ⟨W1, hW1, hBw, hs1, hbx⟩ := item_box w (.int .i64 s) (.string ky) (.string b) (.bool ag) (.int .i64 d) 59
  have HW1 : Hid (W1 = _) := hW1
  have BX : Hid (∀ W, Below W1.heap.size W1 W → _) := hbx
  have HP : Hid (ItemsAt W1 a xs) := hp.keep hBw
  have HN : Hid (xs.length = n) := hn
  have HM : Hid (n ≤ maxLen) := hm
  have HF : Hid (n ≤ 1048576) := by show n ≤ 1048576; omega
  have HX : Hid (i = idxSeq s xs) := hi
  clear hW1 hbx hp hl hr hn hm
  have s1 := hBw.size
  go_enter Try.func42, Try.ntmps42
  go_wp2_with fail
  rw [← HW1.out]
  refine (lcheck_any xs _ _ _ _ HN.out HM.out HP.out).mono ?_
  rintro e w2 ⟨rfl, hB2⟩
  obtain ⟨d0, d1, d2, d3, d4⟩ := BX.out w2 hB2
  rw [HL.out]
  go_wp2_with fail
  refine (right_any _ _ _ _ _ _).mono ?_
  rintro e w3 ⟨rfl, hB3⟩
  have hB13 : Below W1.heap.size W1 w3 := hB2.trans (hB3.mono hB2.size)
  clear d0 d1 d2 d3 d4
  obtain ⟨d0, d1, d2, d3, d4⟩ := BX.out w3 hB13
  rw [HR.out]
  go_wp2_with fail
  refine (indexFunc_any xs _ _ _ _ s _ HN.out HM.out (HP.out.keep hB13) (by have := hB13.size; omega) d0).mono ?_
  rintro e w4 ⟨rfl, hB4⟩
  have hB14 : Below W1.heap.size W1 w4 := hB13.trans (hB4.mono hB13.size)
  clear d0 d1 d2 d3 d4
  obtain ⟨d0, d1, d2, d3, d4⟩ := BX.out w4 hB14
  rw [HI.out]
  go_wp2_with fail
  refine wp_region_held_drew (S := fun w' => True) (by kernel_rfl) trivial (fun hHeld => ?_)
  refine tk 0 ?_
  refine tk 1 ?_
  refine tk 2 ?_
  refine tk 3 ?_
  refine tk 4 ?_
  refine sk 5 ?_
  refine sk 6 ?_
  refine sk 7 ?_
  refine sk 8 ?_
  refine sk 9 ?_
  refine sk 10 ?_
  refine sk 11 ?_
  refine sk 12 ?_
  refine tk 13 ?_
  refine wpAnyH_done (by kernel_rfl) ?_ _
  go_wp2_with fail
  have hB5 : Below W1.heap.size W1 w4.drew := ⟨hB14.os, hB14.tape, hB14.output, hB14.size, hB14.block⟩
  have hB6 : Below W1.heap.size W1 w4.drew.drew := ⟨hB14.os, hB14.tape, hB14.output, hB14.size, hB14.block⟩
  have q1 : (0 : Int) ≤ (n : Int) := by omega
  have q2 : (n : Int) ≤ (c : Int) := by omega
  have q3 : (n : Int) ≤ (n : Int) := by omega
  clear d0 d1 d2 d3 d4
  refine wp_region_held_drew (S := fun w' => w'.cell? ⟨w.heap.size, 0, none⟩ = some (.int .i64 s) ∧ w'.cell? ⟨w.heap.size, 1, none⟩ = some (.string ky) ∧ w'.cell? ⟨w.heap.size, 2, none⟩ = some (.string b) ∧ w'.cell? ⟨w.heap.size, 3, none⟩ = some (.bool ag) ∧ w'.cell? ⟨w.heap.size, 4, none⟩ = some (.int .i64 d)) (by kernel_rfl) (BX.out _ hB6) (fun hHeld => ?_)
  refine tk 0 ?_
  refine tk 1 ?_
  refine tk 2 ?_
  refine tk 3 ?_
  refine tk 5 ?_
  refine tk 6 ?_
  refine tk 7 ?_
  refine wpAnyH_ready (rs := [4]) (by kernel_rfl) (by simp) ?_
  refine AllReadyH.cons rfl (fun K hK => ?_) AllReadyH.nil
  go_simp
  obtain ⟨W5, hW5⟩ : ∃ W5, W5 = w4.alloc (.cells #[.int .i64 s, .string ky, .string b, .bool ag, .int .i64 d] 59) := ⟨_, rfl⟩
  have hB45 : Below w4.heap.size w4 W5 := by rw [hW5]; exact (Below.refl _ _).alloc (Nat.le_refl _) _
  have hs5 : W5.heap.size = w4.heap.size + 1 := by rw [hW5]; simp
  have hh5 : W5.heap[w4.heap.size]? = some (.cells #[.int .i64 s, .string ky, .string b, .bool ag, .int .i64 d] 59) := by rw [hW5]; exact World.alloc_heap_new w4 _
  rw [← hW5]
  clear hW5
  have hB15 : Below W1.heap.size W1 W5 := hB14.trans (hB45.mono hB14.size)
  have hB15' : Below W1.heap.size W1 W5.drew.drew := ⟨hB15.os, hB15.tape, hB15.output, hB15.size, hB15.block⟩
  refine hK.out _ _ (BX.out _ hB15') (fun hHeld2 => ?_)
  clear hHeld hK K
  try simp only [Act.put, List.getElem_toArray, List.getElem_cons_succ, List.getElem_cons_zero, List.setIfInBounds_toArray, List.set_cons_zero, List.set_cons_succ]
  refine wpAnyH_ready (rs := [8]) (by kernel_rfl) (by simp) ?_
  refine AllReadyH.cons rfl (fun K hK => ?_) AllReadyH.nil
  go_simp
  obtain ⟨A3, hA3⟩ : ∃ A3, A3 = (if c = n then a else Option.map (fun x => x.add (n * 5)) a) := ⟨_, rfl⟩
  have HA3 : Hid (A3 = (if c = n then a else Option.map (fun x => x.add (n * 5)) a)) := hA3
  rw [← hA3]
  clear hA3
  obtain ⟨W6, hW6⟩ : ∃ W6, W6 = W5.alloc (.cells #[.slice a n c, .slice (some ⟨w4.heap.size, 0, none⟩) 1 1, .slice A3 0 (c - n)] 57) := ⟨_, rfl⟩
  have hB56 : Below W5.heap.size W5 W6 := by rw [hW6]; exact (Below.refl _ _).alloc (Nat.le_refl _) _
  have hs6 : W6.heap.size = W5.heap.size + 1 := by rw [hW6]; simp
  have hh6 : W6.heap[W5.heap.size]? = some (.cells #[.slice a n c, .slice (some ⟨w4.heap.size, 0, none⟩) 1 1, .slice A3 0 (c - n)] 57) := by rw [hW6]; exact World.alloc_heap_new W5 _
  rw [← hW6]
  clear hW6
  have hB16 : Below W1.heap.size W1 W6 := hB15.trans (hB56.mono hB15.size)
  have hB16' : Below W1.heap.size W1 W6.drew.drew := ⟨hB16.os, hB16.tape, hB16.output, hB16.size, hB16.block⟩
  have hx6 : W6.heap[w4.heap.size]? = some (.cells #[.int .i64 s, .string ky, .string b, .bool ag, .int .i64 d] 59) := (hB56.block _ (by omega)).trans hh5
  have hi6 : ItemsAt W6 a xs := (HP.out.keep hB14).keep (hB45.trans (hB56.mono hB45.size))
  refine hK.out _ _ (BX.out _ hB16') (fun hHeld3 => ?_)
  clear hHeld2 hK K
  try simp only [Act.put, List.getElem_toArray, List.getElem_cons_succ, List.getElem_cons_zero, List.setIfInBounds_toArray, List.set_cons_zero, List.set_cons_succ]
  refine wpAnyH_ready (rs := [9]) (by kernel_rfl) (by simp) ?_
  refine AllReadyH.cons rfl (fun K hK => ?_) AllReadyH.nil
  go_simp
  refine (push_concat xs ⟨s, ky, b, ag, d⟩ a A3 n c n 0 (c - n) _ w4.heap.size _ _ W6.drew.drew HN.out (Nat.le_refl _) hnc hz HF.out HA3.out (by omega) rfl hi6 (by rw [← hs5]; exact hh6) hx6).mono ?_
  rintro e w7 ⟨v, rfl, hown, hB7⟩
  have hB7' : Below W6.heap.size W6 w7 := ⟨hB7.os, hB7.tape, hB7.output, hB7.size, hB7.block⟩
  have hB17 : Below W1.heap.size W1 w7 := hB16.trans (hB7'.mono hB16.size)
  refine hK.out _ _ (BX.out _ hB17) (fun hHeld4 => ?_)
  clear hHeld3 hK K
  try simp only [Act.put, List.getElem_toArray, List.getElem_cons_succ, List.getElem_cons_zero, List.setIfInBounds_toArray, List.set_cons_zero, List.set_cons_succ]
  refine tk 10 ?_
  refine tk 11 ?_
  refine wpAnyH_done (by kernel_rfl) ?_ _
  go_wp2_with fail
  go_ret2
  have e1 : pushL xs ⟨s, ky, b, ag, d⟩ = xs.take n ++ [⟨s, ky, b, ag, d⟩] ++ xs.drop n := by
    unfold pushL
    have e2 : idxSeq s xs = n := by have := idxSeq_le s xs; have := HX.out; have := HN.out; omega
    dsimp only
    rw [e2]
  have h16 := hB16.size
  have h17 := hB17.size
  refine ⟨v, rfl, ?_, hBw.trans (hB17.mono hBw.size)⟩
  rw [e1]
  exact own_base hown (by show w.heap.size ≤ W6.heap.size; omega)
end Go.Proofs.Ythhkpgnjpieckaa
