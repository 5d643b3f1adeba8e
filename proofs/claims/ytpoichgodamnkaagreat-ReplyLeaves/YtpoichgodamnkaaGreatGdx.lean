import Derived.Test.YtpoichgodamnkaaGreatGcx
import Derived.Test.YtpoichgodamnkaaGreatGbx
import Derived.Test.YtpoichgodamnkaaGreatGax
import Derived.Deep.QuietTactic
import Derived.BigQuiet
namespace Go.Proofs.YtpoichgodamnkaaGreat
open Go.RowKit
set_option linter.unusedVariables false
set_option maxRecDepth 100000
set_option maxHeartbeats 4000000
def shedE (xs : List ItemD) (limit : Int) : Int := if lineOk xs = true then (if limit < 0 then 3 else 0) else 1
def shedN (n : Nat) (limit : Int) : Nat := ((n : Int) - limit).toNat
def shedA (xs : List ItemD) (limit : Int) : List ItemD := if shedE xs limit = 0 then xs.drop (shedN xs.length limit) else []
def shedB (xs : List ItemD) (limit : Int) : List ItemD := if shedE xs limit = 0 then xs.take (shedN xs.length limit) else []
theorem shedN_le {n : Nat} {limit : Int} (h : 0 ≤ limit) : shedN n limit ≤ n := by unfold shedN; omega
theorem cp2_ {w1 w2 : World} {base : Nat} {v : Value} {n : Nat} {xs : List Value} {e : TypeId} {size : Nat} (h : w1.ownsRow base e size v n xs) (hB : Below w1.heap.size w1 w2) : w2.ownsRow base e size v n xs := by
 refine ⟨h.1, ?_⟩
 rcases h.2 with h | ⟨g, cap, cur, h1, h2, h3, h4⟩
 ·exact .inl h
 ·exact .inr ⟨g, cap, cur, h1, h2, (hB.block g (Array.getElem?_eq_some_iff.1 h3).1).trans h3, h4⟩
theorem shed_ok (xs : List ItemD) (a : Option Addr) (n c i : Nat) (limit : Int) (w : World) (hn : xs.length = n) (hnc : n ≤ c) (hcm : c ≤ maxLen) (hz : a = none → c = 0) (hp : ItemsAt w a xs) (hl : lineOk xs = true) (h0 : 0 ≤ limit) (h1 : limit ≤ 9223372036854775807) (hi : i = shedN n limit) :
  Calls Tryz.prog 161 #[.slice a n c, .int .i64 limit] w fun e w' => ∃ v u, e = .returned (.tuple #[v, u, .int .i64 0]) ∧ w'.ownsRow w.heap.size 43 5 v (n - i) (itemCells (xs.drop i)) ∧ w'.ownsRow w.heap.size 43 5 u i (itemCells (xs.take i)) ∧ Below w.heap.size w w' := by
 have hf := lineOk_few hl
 rw [hn] at hf
 have HL : Hid (lineE xs = 0) := by show lineE xs = 0; unfold lineE; rw [if_pos hl]
 have HP : Hid (ItemsAt w a xs) := hp
 have HN : Hid (xs.length = n) := hn
 have HM : Hid (n ≤ maxLen) := Nat.le_trans hnc hcm
 have hin : i ≤ n := by rw [hi]; exact shedN_le h0
 have HI : Hid (max ((n : Int) - limit) 0 = i) := by show max ((n : Int) - limit) 0 = i; rw [hi]; unfold shedN; omega
 have HZ : Hid (a = none → c = 0) := hz
 have q0 : ¬ limit < 0 := by omega
 have qw : IntKind.i64.wrap ((n : Int) - limit) = (n : Int) - limit := by rw [IntKind.wrap_i64]; omega
 clear hp hl hn hi hz
 go_enter Tryz.func161, Tryz.ntmps161
 go_wp2_with fail
 refine (lcheck_any xs _ _ _ _ HN.out HM.out HP.out).mono ?_
 rintro e w2 ⟨rfl, hB2⟩
 rw [HL.out]
 go_wp2_with fail
 rw [HI.out]
 have q1 : (0 : Int) ≤ (i : Int) := by omega
 have q2 : (i : Int) ≤ (n : Int) := by omega
 have q3 : (i : Int) ≤ (c : Int) := by omega
 have q4 : (n : Int) ≤ (c : Int) := by omega
 refine wp_region_held_drew (S := fun w' => True) (by kernel_rfl) trivial (fun hHeld => ?_)
 refine tk 0 ?_
 refine tk 1 ?_
 refine tk 2 ?_
 refine tk 4 ?_
 refine tk 5 ?_
 refine tk 6 ?_
 refine rdy 3 (fun K hK => ?_)
 go_simp
 have hB2s := hB2.size
 have hp2 : ItemsAt w2 a xs := HP.out.keep hB2
 have ha0 : a = none → xs = [] := fun e => List.length_eq_zero_iff.1 (by have := HZ.out e; have := HN.out; omega)
 refine (copied_any (xs.drop i) _ (n - i) (c - i) w2.drew (by rw [List.length_drop, HN.out]) (by omega) (fun e => ?_) (hp2.drop i c (by rw [HN.out]; exact hnc))).mono ?_
 ·have e2 : a = none := by
   split at e
   ·exact e
   ·simpa using e
  exact ⟨by have := HZ.out e2; omega, by rw [ha0 e2]; simp⟩
 rintro e w3 ⟨v, rfl, hown3, hB3'⟩
 have hB3 : Below w2.heap.size w2 w3 := bud_ hB3'
 have hown3b : w3.ownsRow w2.heap.size 43 5 v (n - i) (itemCells (xs.drop i)) := hown3
 refine hK.out _ _ trivial (fun hHeld2 => ?_)
 clear hHeld hK K hown3 hB3'
 try simp only [Act.put, List.getElem_toArray, List.getElem_cons_succ, List.getElem_cons_zero, List.setIfInBounds_toArray, List.set_cons_zero, List.set_cons_succ]
 refine rdy 7 (fun K hK => ?_)
 go_simp
 have hB3s := hB3.size
 refine (copied_any (xs.take i) _ i c w3 (by rw [List.length_take, HN.out]; omega) (by omega) (fun e => ⟨HZ.out e, by rw [ha0 e]; simp⟩) ((hp2.keep hB3).take i)).mono ?_
 rintro e w4 ⟨u, rfl, hown4, hB4⟩
 refine hK.out _ _ trivial (fun hHeld3 => ?_)
 clear hHeld2 hK K
 try simp only [Act.put, List.getElem_toArray, List.getElem_cons_succ, List.getElem_cons_zero, List.setIfInBounds_toArray, List.set_cons_zero, List.set_cons_succ]
 refine tk 8 ?_
 refine tk 9 ?_
 refine tk 10 ?_
 refine wpAnyH_done (by kernel_rfl) ?_ _
 go_wp2_with fail
 all_goals
  exact bodyPost_ret (v := .tuple #[v, u, .int .i64 0]) (by simp [results, Tryz.results161, go_sem]) rfl ⟨v, u, rfl, own_base (cp2_ hown3b hB4) (by omega), own_base hown4 (by omega), hB2.trans ((hB3.trans (hB4.mono hB3s)).mono hB2s)⟩
theorem shed_err (xs : List ItemD) (a : Option Addr) (n c : Nat) (limit : Int) (w : World) (hn : xs.length = n) (hm : n ≤ maxLen) (hp : ItemsAt w a xs) (he : shedE xs limit ≠ 0) :
  Calls Tryz.prog 161 #[.slice a n c, .int .i64 limit] w fun e w' => e = .returned (.tuple #[.slice none 0 0, .slice none 0 0, .int .i64 (shedE xs limit)]) ∧ Below w.heap.size w w' := by
 have HP : Hid (ItemsAt w a xs) := hp
 have HN : Hid (xs.length = n) := hn
 have HM : Hid (n ≤ maxLen) := hm
 cases hl : lineOk xs with
 | false =>
  have e1 : shedE xs limit = 1 := by unfold shedE; rw [hl]; rfl
  have HL : Hid (lineE xs = 1) := by show lineE xs = 1; unfold lineE; rw [hl]; rfl
  rw [e1]
  clear hp hn hm he hl e1
  go_enter Tryz.func161, Tryz.ntmps161
  go_wp2_with fail
  refine (lcheck_any xs _ _ _ _ HN.out HM.out HP.out).mono ?_
  rintro e w2 ⟨rfl, hB2⟩
  rw [HL.out]
  go_wp2_with fail
  exact bodyPost_ret (v := .tuple #[.slice none 0 0, .slice none 0 0, .int .i64 1]) (by simp [results, Tryz.results161, go_sem]) rfl ⟨rfl, hB2⟩
 | true =>
  have h0 : limit < 0 := by
   rcases Int.lt_or_le limit 0 with h | h
   ·exact h
   ·exfalso; apply he; unfold shedE; rw [if_pos hl, if_neg (by omega)]
  have e1 : shedE xs limit = 3 := by unfold shedE; rw [if_pos hl, if_pos h0]
  have HL : Hid (lineE xs = 0) := by show lineE xs = 0; unfold lineE; rw [if_pos hl]
  rw [e1]
  clear hp hn hm he hl e1
  go_enter Tryz.func161, Tryz.ntmps161
  go_wp2_with fail
  refine (lcheck_any xs _ _ _ _ HN.out HM.out HP.out).mono ?_
  rintro e w2 ⟨rfl, hB2⟩
  rw [HL.out]
  go_wp2_with fail
  exact bodyPost_ret (v := .tuple #[.slice none 0 0, .slice none 0 0, .int .i64 3]) (by simp [results, Tryz.results161, go_sem]) rfl ⟨rfl, hB2⟩
theorem shed_any (xs : List ItemD) (a : Option Addr) (n c : Nat) (limit : Int) (w : World) (hn : xs.length = n) (hnc : n ≤ c) (hcm : c ≤ maxLen) (hz : a = none → c = 0) (hp : ItemsAt w a xs) (h1 : limit ≤ 9223372036854775807) :
  Calls Tryz.prog 161 #[.slice a n c, .int .i64 limit] w fun e w' => ∃ v u m1 m2, e = .returned (.tuple #[v, u, .int .i64 (shedE xs limit)]) ∧ w'.ownsRow w.heap.size 43 5 v m1 (itemCells (shedA xs limit)) ∧ w'.ownsRow w.heap.size 43 5 u m2 (itemCells (shedB xs limit)) ∧ Below w.heap.size w w' := by
 by_cases he : shedE xs limit = 0
 ·have hl : lineOk xs = true := by
   cases hl : lineOk xs with
   | true => rfl
   | false => unfold shedE at he; rw [hl] at he; simp at he
  have h0 : 0 ≤ limit := by
   rcases Int.lt_or_le limit 0 with h | h
   ·unfold shedE at he; rw [if_pos hl, if_pos h] at he; cases he
   ·exact h
  refine (shed_ok xs a n c _ limit w hn hnc hcm hz hp hl h0 h1 rfl).mono ?_
  rintro e w' ⟨v, u, rfl, o1, o2, hB⟩
  exact ⟨v, u, _, _, by rw [he], by unfold shedA; rw [if_pos he, hn]; exact o1, by unfold shedB; rw [if_pos he, hn]; exact o2, hB⟩
 ·refine (shed_err xs a n c limit w hn (Nat.le_trans hnc hcm) hp he).mono ?_
  rintro e w' ⟨rfl, hB⟩
  exact ⟨_, _, 0, 0, rfl, by unfold shedA; rw [if_neg he]; exact World.ownsRow_nil _ _ _ _, by unfold shedB; rw [if_neg he]; exact World.ownsRow_nil _ _ _ _, hB⟩
end Go.Proofs.YtpoichgodamnkaaGreat
namespace Go.Proofs.YtpoichgodamnkaaGreat
set_option linter.unusedVariables false
set_option maxRecDepth 100000
def laidB (ps ks : List ByteArray) : Bool := laidL (ps.map (fun x => x.data.toList)) (ks.map (fun x => x.data.toList))
theorem laidB_nil (ks : List ByteArray) : laidB [] ks = ks.isEmpty := by simp [laidB, laidL]
theorem laidB_hash {x : ByteArray} (h : x.data.toList = [35]) (ps ks : List ByteArray) : laidB (x :: ps) ks = (List.range (ks.length + 1)).any (fun n => laidB ps (ks.drop n)) := by
 simp [laidB, laidL, h, List.map_drop]
theorem laidB_none {x : ByteArray} (h : x.data.toList ≠ [35]) (ps : List ByteArray) : laidB (x :: ps) [] = false := by
 simp [laidB, laidL, h]
theorem laidB_cons {x : ByteArray} (h : x.data.toList ≠ [35]) (ps : List ByteArray) (y : ByteArray) (ks : List ByteArray) :
  laidB (x :: ps) (y :: ks) = ((x.data.toList == [42] || x.data.toList == y.data.toList) && laidB ps ks) := by
 simp [laidB, laidL, h]
theorem laidB_any {x : ByteArray} (h : x.data.toList = [35]) {ps ks : List ByteArray} {k : Nat} (hk : k ≤ ks.length) (hl : laidB ps (ks.drop k) = true) : laidB (x :: ps) ks = true := by
 rw [laidB_hash h, List.any_eq_true]; exact ⟨k, by simp; omega, hl⟩
theorem laidB_all {x : ByteArray} (h : x.data.toList = [35]) {ps ks : List ByteArray} (hl : ∀ j, j < ks.length + 1 → laidB ps (ks.drop j) = false) : laidB (x :: ps) ks = false := by
 rw [laidB_hash h, List.any_eq_false]; intro j hj; simp at hj; simp [hl j (by omega)]
theorem laidB_snoc_hash {x : ByteArray} (h : x.data.toList = [35]) : ∀ (ps ks : List ByteArray), laidB (ps ++ [x]) ks = (List.range (ks.length + 1)).any (fun n => laidB ps (ks.take n))
 | [], ks => by
  rw [List.nil_append, laidB_hash h, Bool.eq_iff_iff, List.any_eq_true, List.any_eq_true]
  constructor
  ·intro _; exact ⟨0, by simp, by simp [laidB_nil]⟩
  ·intro _; exact ⟨ks.length, by simp, by simp [laidB_nil]⟩
 | p :: ps, ks => by
  by_cases hp : p.data.toList = [35]
  ·rw [List.cons_append, laidB_hash hp, Bool.eq_iff_iff, List.any_eq_true, List.any_eq_true]
   constructor
   ·rintro ⟨n, hn, hl⟩
    rw [laidB_snoc_hash h, List.any_eq_true] at hl
    obtain ⟨m, hm, hl⟩ := hl
    simp at hn hm
    refine ⟨n + m, by simp; omega, ?_⟩
    refine laidB_any hp (k := n) (by simp; omega) ?_
    rw [List.drop_take, show n + m - n = m from by omega]; exact hl
   ·rintro ⟨n, hn, hl⟩
    rw [laidB_hash hp, List.any_eq_true] at hl
    obtain ⟨m, hm, hl⟩ := hl
    simp at hn hm
    refine ⟨m, by simp; omega, ?_⟩
    rw [laidB_snoc_hash h, List.any_eq_true]
    refine ⟨n - m, by simp; omega, ?_⟩
    rw [List.drop_take] at hl; exact hl
  ·cases ks with
   | nil => rw [List.cons_append, laidB_none hp]; simp [laidB_none hp]
   | cons k ks =>
    rw [List.cons_append, laidB_cons hp, laidB_snoc_hash h, Bool.eq_iff_iff, Bool.and_eq_true, List.any_eq_true, List.any_eq_true]
    constructor
    ·rintro ⟨h1, n, hn, hl⟩
     simp at hn
     exact ⟨n + 1, by simp; omega, by rw [List.take_succ_cons, laidB_cons hp, h1, hl]; rfl⟩
    ·rintro ⟨n, hn, hl⟩
     cases n with
     | zero => rw [List.take_zero, laidB_none hp] at hl; cases hl
     | succ n =>
      rw [List.take_succ_cons, laidB_cons hp, Bool.and_eq_true] at hl
      simp at hn
      exact ⟨hl.1, n, by simp; omega, hl.2⟩
theorem laidB_snoc_nil {x : ByteArray} (h : x.data.toList ≠ [35]) : ∀ (ps : List ByteArray), laidB (ps ++ [x]) [] = false
 | [] => laidB_none h []
 | p :: ps => by
  by_cases hp : p.data.toList = [35]
  ·rw [List.cons_append, laidB_hash hp]; simp [laidB_snoc_nil h ps]
  ·exact laidB_none hp _
theorem laidB_snoc {x : ByteArray} (h : x.data.toList ≠ [35]) : ∀ (ps ks : List ByteArray) (y : ByteArray),
  laidB (ps ++ [x]) (ks ++ [y]) = (laidB ps ks && (x.data.toList == [42] || x.data.toList == y.data.toList))
 | [], [], y => by rw [List.nil_append, List.nil_append, laidB_cons h, laidB_nil]; simp
 | [], k :: ks, y => by rw [List.nil_append, List.cons_append, laidB_cons h, laidB_nil, laidB_nil]; simp
 | p :: ps, ks, y => by
  by_cases hp : p.data.toList = [35]
  ·rw [List.cons_append, laidB_hash hp, laidB_hash hp, List.length_append, List.length_singleton, List.range_succ, List.any_append]
   have e : ∀ n ∈ List.range (ks.length + 1), laidB (ps ++ [x]) ((ks ++ [y]).drop n) = (laidB ps (ks.drop n) && (x.data.toList == [42] || x.data.toList == y.data.toList)) := by
    intro n hn
    simp at hn
    rw [List.drop_append_of_le_length (by omega), laidB_snoc h]
   have e2 : (ks ++ [y]).drop (ks.length + 1) = [] := List.drop_eq_nil_of_le (by simp)
   simp only [List.any_cons, List.any_nil, e2, laidB_snoc_nil h, Bool.or_false]
   rw [Bool.eq_iff_iff, List.any_eq_true, Bool.and_eq_true, List.any_eq_true]
   constructor
   ·rintro ⟨n, hn, hl⟩
    rw [e n hn, Bool.and_eq_true] at hl
    exact ⟨⟨n, hn, hl.1⟩, hl.2⟩
   ·rintro ⟨⟨n, hn, hl⟩, h2⟩
    exact ⟨n, hn, by rw [e n hn, hl, h2]; rfl⟩
  ·cases ks with
   | nil =>
    rw [List.cons_append, List.nil_append, laidB_cons hp, laidB_snoc_nil h, laidB_none hp]; simp
   | cons k ks =>
    rw [List.cons_append, List.cons_append, laidB_cons hp, laidB_cons hp, laidB_snoc h, Bool.and_assoc]
end Go.Proofs.YtpoichgodamnkaaGreat
namespace Go.Proofs.YtpoichgodamnkaaGreat
open Go.RowKit
set_option linter.unusedVariables false
set_option maxRecDepth 100000
set_option maxHeartbeats 2000000
def TextsAt (W : World) (a : Option Addr) (xs : List ByteArray) : Prop := xs = [] ∨ ∃ g o, a = some ⟨g, o, none⟩ ∧ IsTexts W g o xs
theorem TextsAt.cut {W : World} {g o c n : Nat} {xs : List ByteArray} (h : IsTexts W g o xs) (hc : xs.length ≤ c) (A : Option Addr) (hA : A = if c = n then some ⟨g, o, none⟩ else some ⟨g, o + n, none⟩) : TextsAt W A (xs.drop n) := by
 by_cases hn : xs.length ≤ n
 ·exact .inl (List.drop_eq_nil_of_le hn)
 ·refine .inr ⟨g, o + n, by rw [hA, if_neg (by omega)], fun i hi => ?_⟩
  have := h (n + i) (by simp at hi; omega)
  rw [Nat.add_assoc, this]; simp
theorem TextsAt.cut2 {W : World} {a : Option Addr} {c n : Nat} {xs : List ByteArray} (h : TextsAt W a xs) (hc : xs.length ≤ c) : TextsAt W (if c = n then a else Option.map (fun x => x.add n) a) (xs.drop n) := by
 rcases h with rfl | ⟨g, o, rfl, h⟩
 ·exact .inl (by simp)
 ·exact TextsAt.cut h hc _ (by by_cases hn : n = 0 <;> simp [Addr.add, hn])
theorem TextsAt.drew {W : World} {a : Option Addr} {xs : List ByteArray} (h : TextsAt W a xs) (n : Nat) : TextsAt (W.drewN n) a xs := h
theorem data_ne {x : ByteArray} {l : List UInt8} (h : x.data.toList ≠ l) : (x.toList == l) = false := by rw [Lib.toList_data]; simpa using h
theorem data_eq {x : ByteArray} {l : List UInt8} (h : x.data.toList = l) : (x.toList == l) = true := by rw [Lib.toList_data]; simpa using h
theorem laid_any : ∀ (ps ks : List ByteArray) (a1 a2 : Option Addr) (n1 n2 c1 c2 : Nat) (w : World), ps.length = n1 → ks.length = n2 → n1 ≤ c1 → c1 ≤ maxLen → n2 ≤ c2 → c2 ≤ maxLen → n2 ≤ 100 → TextsAt w a1 ps → TextsAt w a2 ks →
  Calls Tryz.prog 212 #[.slice a1 n1 c1, .slice a2 n2 c2] w fun e w' => e = .returned (.bool (laidB ps ks)) ∧ ∃ n, w' = w.drewN n := by
 intro ps
 induction ps with
 | nil =>
  rintro ks a1 a2 n1 n2 c1 c2 w rfl hn2 _ _ _ _ _ _ _
  rw [laidB_nil]
  have e : ((n2 : Int) == 0) = ks.isEmpty := by cases ks <;> simp at hn2 <;> subst hn2 <;> simp; omega
  obtain ⟨b, hb⟩ : ∃ b, b = ks.isEmpty := ⟨_, rfl⟩
  rw [← hb] at e ⊢
  clear hb
  go_enter Tryz.func212, Tryz.ntmps212
  go_wp2_with fail
  go_ret
  exact ⟨rfl, 0, rfl⟩
 | cons x ps ih =>
  rintro ks a1 a2 n1 n2 c1 c2 w hn1 hn2 hc1 hm1 hc2 hm2 h100 h1 h2
  obtain ⟨g, o, rfl, ht⟩ : ∃ g o, a1 = some ⟨g, o, none⟩ ∧ IsTexts w g o (x :: ps) := by
   rcases h1 with h1 | h1
   ·cases h1
   ·exact h1
  have e0 : w.cell? ⟨g, o, none⟩ = some (.string x) := ht 0 (by simp)
  have hz : ((n1 : Int) == 0) = false := beq_eq_false_iff_ne.2 (by simp at hn1; omega)
  have hp : (0 : Int) < n1 := by simp at hn1; omega
  have hp1 : (1 : Int) ≤ n1 := by omega
  have IH : Hid (∀ (ks : List ByteArray) (a1 a2 : Option Addr) (n1 n2 c1 c2 : Nat) (w : World), ps.length = n1 → ks.length = n2 → n1 ≤ c1 → c1 ≤ maxLen → n2 ≤ c2 → c2 ≤ maxLen → n2 ≤ 100 → TextsAt w a1 ps → TextsAt w a2 ks →
   Calls Tryz.prog 212 #[.slice a1 n1 c1, .slice a2 n2 c2] w fun e w' => e = .returned (.bool (laidB ps ks)) ∧ ∃ n, w' = w.drewN n) := ih
  have HT : Hid (IsTexts w g o (x :: ps)) := ht
  have HN1 : Hid ((x :: ps).length = n1) := hn1
  have HN2 : Hid (ks.length = n2) := hn2
  have H2 : Hid (TextsAt w a2 ks) := h2
  have hm1' : c1 ≤ 9223372036854775807 := by unfold maxLen at hm1; omega
  have hm2' : c2 ≤ 9223372036854775807 := by unfold maxLen at hm2; omega
  have HM : Hid (c1 ≤ maxLen ∧ c2 ≤ maxLen) := ⟨hm1, hm2⟩
  clear ih ht hn1 hn2 h1 h2 hm1 hm2
  by_cases hx : x.data.toList = [35]
  ·have hxb : (x.toList == [35]) = true := data_eq hx
   have HXX : Hid (x.data.toList = [35]) := hx
   clear hx
   go_enter Tryz.func212, Tryz.ntmps212
   go_wp2_with fail
   go_loopw [5] (fun i wr => ∃ k m : Nat, k ≤ n2 + 1 ∧ i = .int .i64 k ∧ wr = w.drewN m ∧ ∀ j, j < k → laidB ps (ks.drop j) = false) (fun i _ => n2 + 1 - (intOf i).toNat)
   case atStart => exact ⟨0, 0, Nat.zero_le _, rfl, rfl, by intro j hj; omega⟩
   case round =>
    obtain ⟨k, m, hk, rfl, hwr, ha⟩ := hrel
    have HA : Hid (∀ j, j < k → laidB ps (ks.drop j) = false) := ha
    have HW : Hid (wr = w.drewN m) := hwr
    clear ha hwr
    by_cases hlt : k ≤ n2
    ·have hk0 : (0 : Int) ≤ k := by omega
     have hk1 : (k : Int) ≤ n2 := by omega
     obtain ⟨b, hb⟩ : ∃ b, b = laidB ps (ks.drop k) := ⟨_, rfl⟩
     have HBB : Hid (b = laidB ps (ks.drop k)) := hb
     have C : Hid (∀ m', Calls Tryz.prog 212 #[.slice (if c1 = 1 then some ⟨g, o, none⟩ else some ⟨g, o + 1, none⟩) (n1 - 1) (c1 - 1), .slice (if c2 = k then a2 else Option.map (fun x => x.add k) a2) (n2 - k) (c2 - k)] (wr.drewN m') (fun e w' => e = .returned (.bool b) ∧ ∃ n, w' = (wr.drewN m').drewN n)) := by
      intro m'
      have q1 := HN1.out; have q2 := HN2.out; have q3 := HM.out; simp at q1
      rw [hb, HW.out]
      exact IH.out (ks.drop k) _ _ _ _ _ _ _ (by omega) (by simp; omega) (by omega) (by omega) (by omega) (by omega) (by omega) (TextsAt.cut (W := w) (n := 1) HT.out (by simp; omega) _ rfl) (TextsAt.cut2 (W := w) H2.out (by omega))
     clear hb
     cases b with
     | true =>
      go_wp2_with fail
      go_quiet ((go_at_call 212; exact Calls.quiet_of (C.out _)))
      go_wp2_with fail
      all_goals
       go_ret
       exact ⟨ret_bool (laidB_any HXX.out (by have q2 := HN2.out; omega) HBB.out.symm).symm, _, by rw [HW.out, World.drewN_drewN]⟩
     | false =>
      go_wp2_with fail
      go_quiet ((go_at_call 212; exact Calls.quiet_of (C.out _)))
      go_wp2_with fail
      all_goals
       go_roundw
       case rel => exact ⟨k + 1, _, by omega, by go_num, by rw [HW.out, World.drewN_drewN], fun j hj => by
        by_cases hjk : j = k
        ·rw [hjk]; exact HBB.out.symm
        ·exact HA.out j (by omega)⟩
       case measure => simp [intOf]; omega
    ·go_wp2_with fail
     go_ret
     have q2 := HN2.out
     exact ⟨ret_bool (laidB_all HXX.out (fun j hj => HA.out j (by omega))).symm, m, HW.out⟩
  ·have hxb : (x.toList == [35]) = false := data_ne hx
   cases ks with
   | nil =>
    have hd : decide (0 < n2) = false := by have q2 := HN2.out; simp at q2; simp; omega
    rw [laidB_none hx]
    go_enter Tryz.func212, Tryz.ntmps212
    go_wp2_with fail
    go_quiet (fail)
    go_wp2_with fail
    go_ret
    exact ⟨rfl, _, rfl⟩
   | cons y ks =>
    obtain ⟨g2, o2, rfl, ht2⟩ : ∃ g o, a2 = some ⟨g, o, none⟩ ∧ IsTexts w g o (y :: ks) := by
     rcases H2.out with h1 | h1
     ·cases h1
     ·exact h1
    have f0 : w.cell? ⟨g2, o2, none⟩ = some (.string y) := ht2 0 (by simp)
    have q2 := HN2.out
    have q1 := HN1.out
    simp at q1 q2
    have hp2 : (0 : Int) < n2 := by omega
    have hd : decide (0 < n2) = true := by simp; omega
    have hp3 : (1 : Int) ≤ n2 := by omega
    rw [laidB_cons hx]
    obtain ⟨b, hb⟩ : ∃ b, b = laidB ps ks := ⟨_, rfl⟩
    have C : Hid (∀ m', Calls Tryz.prog 212 #[.slice (if c1 = 1 then some ⟨g, o, none⟩ else some ⟨g, o + 1, none⟩) (n1 - 1) (c1 - 1), .slice (if c2 = 1 then some ⟨g2, o2, none⟩ else some ⟨g2, o2 + 1, none⟩) (n2 - 1) (c2 - 1)] (w.drewN m') (fun e w' => e = .returned (.bool b) ∧ ∃ n, w' = (w.drewN m').drewN n)) := by
     intro m'
     have q3 := HM.out
     rw [hb]
     exact IH.out ks _ _ _ _ _ _ _ (by omega) (by omega) (by omega) (by omega) (by omega) (by omega) (by omega) (TextsAt.cut (W := w) (n := 1) HT.out (by simp; omega) _ rfl) (TextsAt.cut (W := w) (n := 1) ht2 (by simp; omega) _ rfl)
    rw [← hb]
    clear hb q1 q2 hx ht2
    by_cases s1 : x.data.toList = [42]
    ·have s1b : (x.toList == [42]) = true := data_eq s1
     rw [show (x.data.toList == [42]) = true from by simpa using s1]
     clear s1
     go_enter Tryz.func212, Tryz.ntmps212
     go_wp2_with fail
     go_quiet ((go_at_call 212; exact Calls.quiet_of (C.out _)))
     go_wp2_with fail
     all_goals (go_ret; exact ⟨by simp, _, rfl⟩)
    ·have s1b : (x.toList == [42]) = false := data_ne s1
     by_cases s2 : x.data.toList = y.data.toList
     ·have s2b : (x.toList == y.toList) = true := by rw [Lib.toList_data, Lib.toList_data]; simpa using s2
      rw [show (x.data.toList == y.data.toList) = true from by simpa using s2]
      clear s1 s2
      go_enter Tryz.func212, Tryz.ntmps212
      go_wp2_with fail
      go_quiet ((go_at_call 212; exact Calls.quiet_of (C.out _)))
      go_wp2_with fail
      all_goals (go_ret; exact ⟨by simp, _, rfl⟩)
     ·have s2b : (x.toList == y.toList) = false := by rw [Lib.toList_data, Lib.toList_data]; simpa using s2
      rw [show (x.data.toList == y.data.toList) = false from by simpa using s2, show (x.data.toList == [42]) = false from by simpa using s1]
      clear s1 s2
      go_enter Tryz.func212, Tryz.ntmps212
      go_wp2_with fail
      go_quiet ((go_at_call 212; exact Calls.quiet_of (C.out _)))
      go_wp2_with fail
      all_goals (go_ret; exact ⟨by simp, _, rfl⟩)
theorem IsTexts.below {W W' : World} {B g o : Nat} {xs : List ByteArray} (h : IsTexts W g o xs) (hB : Below B W W') (hg : g < B) : IsTexts W' g o xs :=
 fun i hi => (hB.cell (p := ⟨g, o + i, none⟩) hg).trans (h i hi)
theorem IsTexts.lt {W : World} {g o : Nat} {xs : List ByteArray} (h : IsTexts W g o xs) (hne : 0 < xs.length) : g < W.heap.size := by
 have := h 0 hne
 unfold World.cell? at this
 simp only at this
 cases hb : W.heap[g]? with
 | none => rw [hb] at this; cases this
 | some o => exact (Array.getElem?_eq_some_iff.1 hb).1
theorem IsTexts.keep {W W' : World} {g o : Nat} {xs : List ByteArray} (h : IsTexts W g o xs) (hne : 0 < xs.length) (hB : Below W.heap.size W W') : IsTexts W' g o xs := h.below hB (h.lt hne)
theorem below_drewN (w : World) (n : Nat) : Below w.heap.size w (w.drewN n) := ⟨rfl, rfl, rfl, Nat.le_refl _, fun _ _ => rfl⟩
theorem fitL_eq (p k : List UInt8) : fitL p k = laidB (wlB p) (wlB k) := by unfold fitL laidB; rw [wlB_list, wlB_list]
theorem fit_any (p k : ByteArray) (w : World) (hp : p.size ≤ 24) (hk : k.size ≤ 24) :
  Calls Tryz.prog 186 #[.string p, .string k] w fun e w' => e = .returned (.bool (fitL p.data.toList k.data.toList)) ∧ Below w.heap.size w w' := by
 have hl1 := wlB_len p.data.toList
 have hl2 := wlB_len k.data.toList
 have hl3 : (wlB k.data.toList).length ≤ 100 := by
  have := wsplit_le k.data.toList
  simp [wlB] at *; omega
 rw [fitL_eq]
 obtain ⟨xs, hxs⟩ : ∃ xs, xs = wlB p.data.toList := ⟨_, rfl⟩
 obtain ⟨ys, hys⟩ : ∃ ys, ys = wlB k.data.toList := ⟨_, rfl⟩
 rw [← hxs] at hl1 ⊢
 rw [← hys] at hl2 hl3 ⊢
 have HX : Hid (xs = wlB p.data.toList) := hxs
 have HY : Hid (ys = wlB k.data.toList) := hys
 have h1 : 0 < xs.length := by omega
 have h2 : 0 < ys.length := by omega
 clear hxs hys hl1 hl2
 go_enter Tryz.func186, Tryz.ntmps186
 go_wp2_with fail
 refine (split_texts p xs HX.out _ hp).mono ?_
 rintro e w1 ⟨g1, c1, rfl, hg1, hc1, hm1, ht1, hB1⟩
 go_wp2_with fail
 refine (split_texts k ys HY.out _ hk).mono ?_
 rintro e w2 ⟨g2, c2, rfl, hg2, hc2, hm2, ht2, hB2⟩
 go_wp2_with fail
 refine (laid_any xs ys _ _ _ _ _ _ _ rfl rfl hc1 hm1 hc2 hm2 hl3 (.inr ⟨g1, 0, rfl, ht1.keep h1 hB2⟩) (.inr ⟨g2, 0, rfl, ht2⟩)).mono ?_
 rintro e w3 ⟨rfl, n, rfl⟩
 go_wp2_with fail
 go_ret
 exact ⟨rfl, hB1.trans ((hB2.mono hB1.size).trans ((below_drewN w2 n).mono (by have := hB1.size; have := hB2.size; omega)))⟩
theorem Tryz.info4 : (Tryz.prog.info? 4).map (fun i => (i.zero, i.size, i.bytes)) = some (some (.bool false), 1, 1) := by kernel_rfl
def IsBools (W : World) (g off : Nat) (bs : List Bool) : Prop := ∀ i (h : i < bs.length), W.cell? ⟨g, off + i, none⟩ = some (.bool bs[i])
def layN (x : ByteArray) (bs : List Bool) (ks : List ByteArray) : Nat → Bool
 | 0 => if x.data.toList = [35] then bs.getD 0 false else false
 | n + 1 => if x.data.toList = [35] then bs.getD (n + 1) false || layN x bs ks n else bs.getD n false && (x.data.toList == [42] || x.data.toList == (ks.getD n ⟨#[]⟩).data.toList)
def layB (x : ByteArray) (bs : List Bool) (ks : List ByteArray) : List Bool := (List.range bs.length).map (layN x bs ks)
def layTo (x : ByteArray) (bs : List Bool) (ks : List ByteArray) (k : Nat) : List Value := (List.range bs.length).map (fun i => Value.bool (if i < k then layN x bs ks i else false))
theorem layTo_zero (x : ByteArray) (bs : List Bool) (ks : List ByteArray) : layTo x bs ks 0 = List.replicate bs.length (.bool false) := by
 apply List.ext_getElem <;> simp [layTo]
theorem layTo_set (x : ByteArray) (bs : List Bool) (ks : List ByteArray) (k : Nat) {b : Bool} (hb : layN x bs ks k = b) : (layTo x bs ks k).set k (.bool b) = layTo x bs ks (k + 1) := by
 apply List.ext_getElem
 ·simp [layTo]
 ·intro i h1 h2
  simp only [layTo, List.getElem_set, List.getElem_map, List.getElem_range]
  by_cases hi : k = i
  ·subst hi; simp [hb]
  ·rw [if_neg hi]
   by_cases h3 : i < k
   ·rw [if_pos h3, if_pos (by omega)]
   ·rw [if_neg h3, if_neg (by omega)]
theorem layTo_same (x : ByteArray) (bs : List Bool) (ks : List ByteArray) (k : Nat) (hb : layN x bs ks k = false) : layTo x bs ks k = layTo x bs ks (k + 1) := by
 apply List.ext_getElem
 ·simp [layTo]
 ·intro i h1 h2
  simp only [layTo, List.getElem_map, List.getElem_range]
  by_cases hi : k = i
  ·subst hi; simp [hb]
  ·by_cases h3 : i < k
   ·rw [if_pos h3, if_pos (by omega)]
   ·rw [if_neg h3, if_neg (by omega)]
theorem layTo_get (x : ByteArray) (bs : List Bool) (ks : List ByteArray) (k j : Nat) (hj : j < bs.length) : (layTo x bs ks k)[j]? = some (.bool (if j < k then layN x bs ks j else false)) := by
 simp [layTo, hj]
theorem layTo_full (x : ByteArray) (bs : List Bool) (ks : List ByteArray) : layTo x bs ks bs.length = (layB x bs ks).map Value.bool := by
 apply List.ext_getElem
 ·simp [layTo, layB]
 ·intro i h1 h2
  simp [layTo, layB]
  intro h; simp [layTo] at h1; omega
theorem made_bools (n : Nat) : (madeCells (Value.bool false).cells (n * 1)).toList = List.replicate n (.bool false) := by
 apply List.ext_getElem
 ·simp [madeCells]
 ·intro i h1 h2
  simp [madeCells, Value.cells, Nat.mod_one]
theorem lay_any (x : ByteArray) (bs : List Bool) (ks : List ByteArray) (g1 c1 g2 c2 : Nat) (w : World) (hl : bs.length = ks.length + 1) (hn : bs.length ≤ 100) (h1 : IsBools w g1 0 bs) (h2 : IsTexts w g2 0 ks) (hg1 : g1 < w.heap.size) (hg2 : g2 < w.heap.size) :
  Calls Tryz.prog 216 #[.string x, .slice (some ⟨g1, 0, none⟩) bs.length c1, .slice (some ⟨g2, 0, none⟩) ks.length c2] w fun e w' =>
   e = .returned (.slice (some ⟨w.heap.size, 0, none⟩) bs.length bs.length) ∧ w'.ownsRow w.heap.size 4 1 (.slice (some ⟨w.heap.size, 0, none⟩) bs.length bs.length) bs.length ((layB x bs ks).map Value.bool) ∧ Below w.heap.size w w' := by
 obtain ⟨i0, hi, hz0, hz1, hz2⟩ := info_parts Tryz.info4
 have hl1 : ks.length < bs.length := by omega
 have HL : Hid (bs.length = ks.length + 1) := hl
 have H1 : Hid (IsBools w g1 0 bs) := h1
 have H2 : Hid (IsTexts w g2 0 ks) := h2
 clear hl h1 h2
 go_enter Tryz.func216, Tryz.ntmps216
 go_wp2_with (at_make; refine wpList_make_full _ rfl _ _ 170 rfl w.heap.size 4 i0 (.bool false) 1 Tryz.underlying170 hi hz0 hz1 _ _ _ _ bs.length rfl rfl rfl rfl (by rw [hz2]; omega) (by unfold maxLen; omega) (Nat.le_refl _) ?_; intro w1 hown1 hgrow1)
 rw [made_bools, ← layTo_zero x bs ks] at hown1
 have hB1 : Below w.heap.size w w1 := (Below.refl _ w).grown hgrow1 (Nat.le_refl _) (fun k e => by cases e)
 go_loopw [14] (fun i wr => ∃ k : Nat, k ≤ bs.length ∧ i = .int .i64 k ∧ wr.ownsRow w.heap.size 4 1 (.slice (some ⟨w.heap.size, 0, none⟩) bs.length bs.length) bs.length (layTo x bs ks k) ∧ Below w.heap.size w wr) (fun i _ => bs.length - (intOf i).toNat)
 case atStart => exact ⟨0, Nat.zero_le _, rfl, hown1, hB1⟩
 case round =>
  clear hown1 hgrow1 hB1
  obtain ⟨k, hk, rfl, hown, hB⟩ := hrel
  by_cases hlt : k < bs.length
  ·have hlt' : (k : Int) < bs.length := by omega
   have hck : wr.cell? ⟨w.heap.size, k, none⟩ = some (.bool false) := by rw [hown.cellAt k (by omega), layTo_get x bs ks k k hlt]; simp
   have hfk : wr.frozen? ⟨w.heap.size, k, none⟩ = false := hown.frozenAt k
   have hst := fun b => hown.stored k (.bool b)
   have HST : Hid (∀ b, (wr.setCell ⟨w.heap.size, k, none⟩ (.bool b)).ownsRow w.heap.size 4 1 (.slice (some ⟨w.heap.size, 0, none⟩) bs.length bs.length) bs.length ((layTo x bs ks k).set k (.bool b))) := fun b => (hst b).1
   have HO : Hid (wr.ownsRow w.heap.size 4 1 (.slice (some ⟨w.heap.size, 0, none⟩) bs.length bs.length) bs.length (layTo x bs ks k)) := hown
   by_cases hx : x.data.toList = [35]
   ·have hxb : (x.toList == [35]) = true := data_eq hx
    have hr : wr.cell? ⟨g1, k, none⟩ = some (.bool bs[k]) := (hB.cell (p := ⟨g1, k, none⟩) hg1).trans (by have := H1.out k hlt; simpa using this)
    cases k with
    | zero =>
     have HF : Hid (layN x bs ks 0 = bs[0]) := by show layN x bs ks 0 = bs[0]; simp [layN, hx, hlt]
     clear hst hx hown
     cases hb : bs[0] with
     | true =>
      rw [hb] at hr
      go_wp2_with fail
      go_roundw
      case rel => exact ⟨1, by omega, rfl, by rw [← layTo_set x bs ks 0 (HF.out.trans hb)]; exact HST.out true, hB.setCell (p := ⟨w.heap.size, 0, none⟩) (Nat.le_refl _) _⟩
      case measure => simp [intOf]; omega
     | false =>
      rw [hb] at hr
      go_wp2_with fail
      go_roundw
      case rel => exact ⟨1, by omega, rfl, by rw [← layTo_set x bs ks 0 (HF.out.trans hb)]; exact HST.out false, hB.setCell (p := ⟨w.heap.size, 0, none⟩) (Nat.le_refl _) _⟩
      case measure => simp [intOf]; omega
    | succ j =>
     have HF : Hid (layN x bs ks (j + 1) = (bs[j + 1] || layN x bs ks j)) := by show layN x bs ks (j + 1) = (bs[j + 1] || layN x bs ks j); simp [layN, hx, hlt]
     have hcj : wr.cell? ⟨w.heap.size, j, none⟩ = some (.bool (layN x bs ks j)) := by rw [hown.cellAt j (by omega), layTo_get x bs ks (j + 1) j (by omega)]; simp
     obtain ⟨a, ha⟩ : ∃ a, a = layN x bs ks j := ⟨_, rfl⟩
     obtain ⟨b, hb⟩ : ∃ b, b = bs[j + 1] := ⟨_, rfl⟩
     have HF2 : Hid (layN x bs ks (j + 1) = (b || a)) := by rw [ha, hb]; exact HF.out
     rw [← ha] at hcj
     rw [← hb] at hr
     have hj1 : (0 : Int) < (j : Int) + 1 := by omega
     have hj2 : (j : Int) < bs.length := by omega
     clear hst hx hown ha hb HF
     cases b <;> cases a
     all_goals
      go_wp2_with fail
      go_roundw
      case rel => exact ⟨j + 2, by omega, by go_num, by rw [← layTo_set x bs ks (j + 1) HF2.out]; exact HST.out _, hB.setCell (p := ⟨w.heap.size, j + 1, none⟩) (Nat.le_refl _) _⟩
      case measure => simp [intOf]; omega
   ·have hxb : (x.toList == [35]) = false := data_ne hx
    cases k with
    | zero =>
     have HF : Hid (layN x bs ks 0 = false) := by show layN x bs ks 0 = false; simp [layN, hx]
     clear hst hx hown
     go_wp2_with fail
     go_roundw
     case rel => exact ⟨1, by omega, rfl, by rw [← layTo_same x bs ks 0 HF.out]; exact HO.out, hB⟩
     case measure => simp [intOf]; omega
    | succ j =>
     have hr : wr.cell? ⟨g1, j, none⟩ = some (.bool bs[j]) := (hB.cell (p := ⟨g1, j, none⟩) hg1).trans (by have := H1.out j (by omega); simpa using this)
     have hjk : j < ks.length := by have := HL.out; omega
     have hk : wr.cell? ⟨g2, j, none⟩ = some (.string ks[j]) := (hB.cell (p := ⟨g2, j, none⟩) hg2).trans (by have := H2.out j hjk; simpa using this)
     have HF : Hid (layN x bs ks (j + 1) = (bs[j] && (x.data.toList == [42] || x.data.toList == ks[j].data.toList))) := by
      show layN x bs ks (j + 1) = _
      simp [layN, hx, hjk, show j < bs.length from by omega]
     obtain ⟨y, hy⟩ : ∃ y, y = ks[j] := ⟨_, rfl⟩
     obtain ⟨b, hb⟩ : ∃ b, b = bs[j] := ⟨_, rfl⟩
     have HF2 : Hid (layN x bs ks (j + 1) = (b && (x.data.toList == [42] || x.data.toList == y.data.toList))) := by rw [hb, hy]; exact HF.out
     rw [← hy] at hk
     rw [← hb] at hr
     have hj1 : (0 : Int) < (j : Int) + 1 := by omega
     have hj2 : (j : Int) < bs.length := by omega
     have hj3 : (j : Int) < ks.length := by omega
     obtain ⟨s1, hs1⟩ : ∃ s1, (x.toList == [42]) = s1 := ⟨_, rfl⟩
     obtain ⟨s2, hs2⟩ : ∃ s2, (x.toList == y.toList) = s2 := ⟨_, rfl⟩
     have HF3 : Hid (layN x bs ks (j + 1) = (b && (s1 || s2))) := by
      show layN x bs ks (j + 1) = (b && (s1 || s2))
      rw [HF2.out, ← hs1, ← hs2, Lib.toList_data, Lib.toList_data]
     clear hst hx hown hb hy HF HF2 hjk
     cases b <;> cases s1 <;> cases s2
     all_goals
      go_wp2_with fail
      go_roundw
      case rel => exact ⟨j + 2, by omega, by go_num, by rw [← layTo_set x bs ks (j + 1) HF3.out]; exact HST.out _, hB.setCell (p := ⟨w.heap.size, j + 1, none⟩) (Nat.le_refl _) _⟩
      case measure => simp [intOf]; omega
  ·have hkn : k = bs.length := by omega
   have HK : Hid (k = bs.length) := hkn
   clear hkn
   go_wp2_with fail
   go_ret
   exact ⟨rfl, by rw [← layTo_full]; have h := hown; rwa [show layTo x bs ks k = layTo x bs ks bs.length from congrArg (layTo x bs ks) HK.out] at h, hB⟩
end Go.Proofs.YtpoichgodamnkaaGreat
