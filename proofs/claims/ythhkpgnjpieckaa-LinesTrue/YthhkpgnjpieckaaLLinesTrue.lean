/- The walk of the law LinesTrue. -/
import Derived.OpenShut
import Derived.Test.YthhkpgnjpieckaaPl
import Derived.Test.YthhkpgnjpieckaaLb
import Derived.Test.YthhkpgnjpieckaaHk
namespace Go.Proofs.Ythhkpgnjpieckaa
set_option linter.unusedVariables false
set_option maxRecDepth 100000
open Go.RowKit

/-- Where a line of one's own lies. -/
structure LineAt (W : World) (a : Option Addr) (c : Nat) (xs : List ItemD) : Prop where
  le : xs.length ≤ c
  cm : c ≤ maxLen
  nz : a = none → c = 0
  it : ItemsAt W a xs
theorem LineAt.keep {W W' : World} {a : Option Addr} {c : Nat} {xs : List ItemD} (h : LineAt W a c xs) (hB : Below W.heap.size W W') : LineAt W' a c xs := ⟨h.le, h.cm, h.nz, h.it.keep hB⟩
theorem LineAt.nil {W : World} {a : Option Addr} {c : Nat} {xs : List ItemD} (h : LineAt W a c xs) (e : a = none) : c = 0 ∧ xs = [] := ⟨h.nz e, List.length_eq_zero_iff.1 (by have := h.nz e; have := h.le; omega)⟩
theorem own_line {W : World} {base : Nat} {v : Value} {n : Nat} {xs : List ItemD} (h : W.ownsRow base 59 5 v n (itemCells xs)) : ∃ a c, v = .slice a xs.length c ∧ LineAt W a c xs := by
  obtain ⟨rfl, a, c, rfl, h1, h2, h3, h4⟩ := own_items h
  exact ⟨a, c, rfl, ⟨h1, h2, fun e => (h3 e).1, h4⟩⟩

theorem shed_zero {xs : List ItemD} {l : Int} (h : shedE xs l = 0) : lineOk xs = true ∧ shedB xs l ++ shedA xs l = xs ∧ ¬ l < (shedA xs l).length ∧ ((0 : Int) < (shedB xs l).length → ((shedA xs l).length : Int) = l) := by
  have hl : lineOk xs = true := by
    cases hl : lineOk xs with
    | true => rfl
    | false => unfold shedE at h; rw [hl] at h; simp at h
  have h0 : 0 ≤ l := by
    rcases Int.lt_or_le l 0 with h' | h'
    · unfold shedE at h; rw [if_pos hl, if_pos h'] at h; cases h
    · exact h'
  unfold shedA shedB
  rw [if_pos h, if_pos h]
  refine ⟨hl, List.take_append_drop _ _, ?_, ?_⟩
  · rw [List.length_drop]; unfold shedN; omega
  · rw [List.length_drop, List.length_take]; unfold shedN; omega

theorem pushV_small {xs : List ItemD} {x : ItemD} : (pushV xs x).length ≤ 1048577 := by
  unfold pushV
  by_cases h : pushE xs x = 0
  · rw [if_pos h, pushL_len]
    have := lineOk_few (push_zero h).1; omega
  · rw [if_neg h]; simp
theorem push_facts {xs : List ItemD} {x : ItemD} (h : pushE xs x = 0) : lineE (pushV xs x) = 0 ∧ (pushV xs x).length = xs.length + 1 ∧ xs.length ≤ 1048576 ∧ idxSeq x.seq xs ≤ xs.length ∧
    (∀ k (hk : k < (pushV xs x).length), k < idxSeq x.seq xs → (pushV xs x)[k].seq < x.seq) ∧ (∀ (hk : idxSeq x.seq xs < (pushV xs x).length), (pushV xs x)[idxSeq x.seq xs] = x) ∧ (pushV xs x).take (idxSeq x.seq xs) ++ (pushV xs x).drop (idxSeq x.seq xs + 1) = xs := by
  obtain ⟨hl, ox, nx⟩ := push_zero h
  have e : pushV xs x = pushL xs x := by unfold pushV; rw [if_pos h]
  have hi := idxSeq_le x.seq xs
  have hlt : (xs.take (idxSeq x.seq xs)).length = idxSeq x.seq xs := by rw [List.length_take]; omega
  simp only [e]
  refine ⟨by unfold lineE; rw [if_pos (pushL_ok hl ox nx)], pushL_len xs x, lineOk_few hl, hi, ?_, ?_, ?_⟩
  · intro k hk hki
    have hg : (pushL xs x)[k]? = xs[k]? := by
      unfold pushL
      rw [List.getElem?_append_left (by simp; omega), List.getElem?_append_left (by omega), List.getElem?_take, if_pos hki]
    rw [List.getElem?_eq_getElem hk, List.getElem?_eq_getElem (by omega)] at hg
    rw [Option.some.inj hg]
    exact (idx_below hki).2
  · intro hk
    have hg : (pushL xs x)[idxSeq x.seq xs]? = some x := by
      unfold pushL
      rw [List.getElem?_append_left (by simp; omega), List.getElem?_append_right (by omega), hlt]
      simp
    rw [List.getElem?_eq_getElem hk] at hg
    exact Option.some.inj hg
  · have e1 : (pushL xs x).take (idxSeq x.seq xs) = xs.take (idxSeq x.seq xs) := by
      unfold pushL
      rw [List.append_assoc, List.take_append_of_le_length (by omega), List.take_of_length_le (by omega)]
    have e2 : (pushL xs x).drop (idxSeq x.seq xs + 1) = xs.drop (idxSeq x.seq xs) := by
      unfold pushL
      have e3 : (xs.take (idxSeq x.seq xs) ++ [x]).length = idxSeq x.seq xs + 1 := by simp; omega
      conv => lhs; rw [← e3]
      exact List.drop_left
    rw [e1, e2, List.take_append_drop]

set_option maxRecDepth 100000 in
set_option maxHeartbeats 4000000 in
theorem walk_LinesTrue (xs : List ItemD) (a : Option Addr) (c : Nat) (l : Int) (hl : (Lit.int .i64 l).wf = true) (x y : ItemD) (w : World) (h1 : xs.length ≤ c) (h2 : c ≤ maxLen) (h3 : a = none → c = 0) (hp : ItemsAt w a xs) :
    Calls Try.prog 15 #[.slice a xs.length c, .int .i64 l, .agg #[.int .i64 x.seq, .string x.key, .string x.body, .bool x.again, .int .i64 x.deaths], .agg #[.int .i64 y.seq, .string y.key, .string y.body, .bool y.again, .int .i64 y.deaths]] w fun e w' => e = .returned (.bool true) ∧ Below w.heap.size w w' := by
  have hl' : -9223372036854775808 ≤ l ∧ l ≤ 9223372036854775807 := bounds_i64 hl
  have HLL : Hid (l ≤ 9223372036854775807) := hl'.2
  obtain ⟨s, ky, b, ag, d⟩ := x
  obtain ⟨s', ky', b', ag', d'⟩ := y
  dsimp only
  obtain ⟨W1, hW1, hB1, hs1, hbx1⟩ := item_box w (.int .i64 s) (.string ky) (.string b) (.bool ag) (.int .i64 d) 59
  obtain ⟨W2, hW2, hB2, hs2, hbx2⟩ := item_box W1 (.int .i64 s') (.string ky') (.string b') (.bool ag') (.int .i64 d') 59
  rw [hs1] at hbx2
  have HW1 : Hid (W1 = _) := hW1
  have HW2 : Hid (W2 = _) := hW2
  have hB02 : Below w.heap.size w W2 := hB1.trans (hB2.mono hB1.size)
  have BX : Hid (∀ W, Below W2.heap.size W2 W → (W.cell? ⟨w.heap.size, 0, none⟩ = some (.int .i64 s) ∧ W.cell? ⟨w.heap.size, 1, none⟩ = some (.string ky) ∧ W.cell? ⟨w.heap.size, 2, none⟩ = some (.string b) ∧ W.cell? ⟨w.heap.size, 3, none⟩ = some (.bool ag) ∧ W.cell? ⟨w.heap.size, 4, none⟩ = some (.int .i64 d)) ∧
      W.cell? ⟨w.heap.size + 1, 0, none⟩ = some (.int .i64 s') ∧ W.cell? ⟨w.heap.size + 1, 1, none⟩ = some (.string ky') ∧ W.cell? ⟨w.heap.size + 1, 2, none⟩ = some (.string b') ∧ W.cell? ⟨w.heap.size + 1, 3, none⟩ = some (.bool ag') ∧ W.cell? ⟨w.heap.size + 1, 4, none⟩ = some (.int .i64 d')) :=
    fun W hW => ⟨hbx1 W (hB2.trans (hW.mono hB2.size)), hbx2 W hW⟩
  obtain ⟨x, hx⟩ : ∃ x : ItemD, x = ⟨s, ky, b, ag, d⟩ := ⟨_, rfl⟩
  obtain ⟨y, hy⟩ : ∃ y : ItemD, y = ⟨s', ky', b', ag', d'⟩ := ⟨_, rfl⟩
  have HXY : Hid (x = ⟨s, ky, b, ag, d⟩ ∧ y = ⟨s', ky', b', ag', d'⟩) := ⟨hx, hy⟩
  have HL2 : Hid (LineAt W2 a c xs) := ⟨h1, h2, h3, hp.keep hB02⟩
  have s02 := hB02.size
  clear hW1 hW2 hbx1 hbx2 h1 h2 h3 hp hB1 hB2 hl hl' hs1 hs2 hx hy
  obtain ⟨E, hE⟩ : ∃ E, E = shedE xs l := ⟨_, rfl⟩
  obtain ⟨A, hA⟩ : ∃ A, A = shedA xs l := ⟨_, rfl⟩
  obtain ⟨B, hB⟩ : ∃ B, B = shedB xs l := ⟨_, rfl⟩
  have HE : Hid (E = shedE xs l ∧ A = shedA xs l ∧ B = shedB xs l) := ⟨hE, hA, hB⟩
  have HS : Hid (E = 0 → lineOk xs = true ∧ B ++ A = xs ∧ ¬ l < A.length ∧ ((0 : Int) < B.length → (A.length : Int) = l)) := fun h => by rw [hA, hB]; rw [hE] at h; exact shed_zero h
  clear hE hA hB
  obtain ⟨P1, hP1⟩ : ∃ P, P = pushE xs x := ⟨_, rfl⟩
  obtain ⟨P2, hP2⟩ : ∃ P, P = pushE xs y := ⟨_, rfl⟩
  obtain ⟨C, hC⟩ : ∃ C, C = pushV xs x := ⟨_, rfl⟩
  obtain ⟨D, hD⟩ : ∃ C, C = pushV xs y := ⟨_, rfl⟩
  obtain ⟨i, hi⟩ : ∃ i, i = idxSeq x.seq xs := ⟨_, rfl⟩
  have HP12 : Hid ((P1 = pushE xs x ∧ C = pushV xs x) ∧ P2 = pushE xs y ∧ D = pushV xs y) := ⟨⟨hP1, hC⟩, hP2, hD⟩
  have HF : Hid (P1 = 0 → lineE C = 0 ∧ C.length = xs.length + 1 ∧ xs.length ≤ 1048576 ∧ i ≤ xs.length ∧ (∀ k (hk : k < C.length), k < i → C[k].seq < x.seq) ∧ (∀ (hk : i < C.length), C[i] = x) ∧ C.take i ++ C.drop (i + 1) = xs) := fun h => by
    subst hC hi; rw [hP1] at h; exact push_facts h
  have HT : Hid (P1 = 0 → P2 = 0 → pushE C y = pushE D x ∧ pushV C y = pushV D x) := fun h1 h2 => by rw [hC, hD]; rw [hP1] at h1; rw [hP2] at h2; exact push_two h1 h2
  have HCD : Hid (C.length ≤ 1048577 ∧ D.length ≤ 1048577) := by rw [hC, hD]; exact ⟨pushV_small, pushV_small⟩
  clear hP1 hP2 hC hD hi
  go_enter Try.func15, Try.ntmps15
  go_wp2_with fail
  rw [← HW1.out, ← HW2.out]
  refine (shed_any xs _ _ _ _ _ rfl HL2.out.le HL2.out.cm HL2.out.nz HL2.out.it HLL.out).mono ?_
  rintro e w3 ⟨v3, u3, m3, k3, rfl, own3, wow3, hB3⟩
  rw [← HE.out.1]
  rw [← HE.out.2.1] at own3
  rw [← HE.out.2.2] at wow3
  obtain ⟨a3, c3, rfl, la3⟩ := own_line own3
  obtain ⟨b3, f3, rfl, lb3⟩ := own_line wow3
  have HA3 : Hid (LineAt w3 a3 c3 A ∧ LineAt w3 b3 f3 B) := ⟨la3, lb3⟩
  have s3 := hB3.size
  clear own3 wow3 la3 lb3
  by_cases hE0 : E = 0
  case' pos =>
    obtain ⟨hlk, hcat, hge, hfull⟩ := HS.out hE0
    have HC : Hid (lineOk xs = true ∧ B ++ A = xs) := ⟨hlk, hcat⟩
    have hfew := lineOk_few hlk
    have hlen : B.length + A.length = xs.length := by rw [← hcat, List.length_append]
    subst hE0
    clear hlk hcat
    have hdl : decide (l < (A.length : Int)) = false := by simpa using hge
    have hdf : ((0 : Int) < B.length ∧ (A.length : Int) = l) ∨ ¬ (0 : Int) < B.length := by
      by_cases h : (0 : Int) < B.length
      · exact .inl ⟨h, hfull h⟩
      · exact .inr h
    clear hge hfull
    have HS3 : Hid (ItemsAt w3 a xs) := HL2.out.it.keep hB3
    go_wp2_with (first
      | (at_builtin; refine append_items_w (by kernel_rfl) (.tmp 31) (.tmp 32) rfl w3.heap.size _ 0 [] rfl (World.ownsRow_made w3 #[] 0 (Nat.le_refl _) (Nat.zero_le _) rfl) b3 _ f3 B rfl rfl HA3.out.2.nil (HA3.out.2.it.keep ((Below.refl _ _).alloc (Nat.le_refl _) _)) (by omega) (by simp) ?_; intro v5 w5 hown5 hgrow5 _; have hB5 : Below w3.heap.size w3 w5 := ((Below.refl _ _).alloc (Nat.le_refl _) _).grown hgrow5 (by simp) (fun k e => by cases e; exact Nat.le_refl _); have s5 := hB5.size)
      | (at_builtin; refine append_items_w (by kernel_rfl) (.tmp 33) (.tmp 34) rfl w3.heap.size _ _ _ rfl hown5 a3 _ c3 A rfl rfl HA3.out.1.nil (HA3.out.1.it.keep hB5) (by simp; omega) s5 ?_; intro v6 w6 hown6 hgrow6 _; have hB6 : Below w3.heap.size w3 w6 := hB5.grown hgrow6 s5 (own_ge hown5); obtain ⟨a6, c6, rfl, la6⟩ := own_line hown6))
    have la6' : ItemsAt w6 a6 xs := by have := la6.it; rw [List.nil_append, HC.out.2] at this; exact this
    refine (same_items xs _ _ _ _ _ _ rfl (Nat.le_trans HL2.out.le HL2.out.cm) la6' (HS3.out.keep hB6)).mono ?_
    rintro e wz ⟨rfl, hB7⟩
    have hBz : Below W2.heap.size W2 wz := hB3.trans ((hB6.trans (hB7.mono hB6.size)).mono s3)
    clear hB7 hB6 hB5 hown5 hown6 la6 la6' hgrow5 hgrow6 hlen hfew
    rcases hdf with ⟨g1, g2⟩ | g1
  case' neg =>
    obtain ⟨wz, hwz⟩ : ∃ wz, wz = w3 := ⟨_, rfl⟩
    have hBz : Below W2.heap.size W2 wz := by rw [hwz]; exact hB3
    rw [← hwz]
    clear hwz
    have hE1 : (E == 0) = false := by simpa using hE0
    clear hE0
  all_goals
    obtain ⟨⟨d0, d1, d2, d3, d4⟩, f0, f1, f2, f3, f4⟩ := BX.out wz hBz
    have sz := hBz.size
    go_wp2_with fail
    refine (push_any xs _ _ _ _ _ _ _ _ _ rfl HL2.out.le HL2.out.cm HL2.out.nz (HL2.out.it.keep hBz)).mono ?_
    rintro e w4 ⟨v4, m4, rfl, own4, hB4⟩
    rw [← HXY.out.1] at own4
    rw [← HXY.out.1, ← HP12.out.1.1]
    rw [← HP12.out.1.2] at own4
    obtain ⟨a4, c4, rfl, lc⟩ := own_line own4
    have HLC : Hid (LineAt w4 a4 c4 C) := lc
    have hB24 : Below W2.heap.size W2 w4 := hBz.trans (hB4.mono sz)
    clear own4 lc d0 d1 d2 d3 d4 f0 f1 f2 f3 f4
    obtain ⟨⟨d0, d1, d2, d3, d4⟩, f0, f1, f2, f3, f4⟩ := BX.out w4 hB24
    go_wp2_with fail
    refine (push_any xs _ _ _ _ _ _ _ _ _ rfl HL2.out.le HL2.out.cm HL2.out.nz (HL2.out.it.keep hB24)).mono ?_
    rintro e w5 ⟨v5, m5, rfl, own5, hB5⟩
    rw [← HXY.out.2] at own5
    rw [← HXY.out.2, ← HP12.out.2.1]
    rw [← HP12.out.2.2] at own5
    obtain ⟨a5, c5, rfl, ld⟩ := own_line own5
    have HLD : Hid (LineAt w5 a5 c5 D) := ld
    have hB25 : Below W2.heap.size W2 w5 := hB24.trans (hB5.mono hB24.size)
    clear own5 ld d0 d1 d2 d3 d4 f0 f1 f2 f3 f4
    obtain ⟨⟨d0, d1, d2, d3, d4⟩, f0, f1, f2, f3, f4⟩ := BX.out w5 hB25
    by_cases hp1 : P1 = 0
    case neg =>
      have hp1' : (P1 != 0) = true := bne_iff_ne.2 hp1
      clear hp1
      go_wp2_with fail
      refine (linesBegun_any _).mono ?_
      rintro e w6 ⟨rfl, hB6⟩
      go_wp2_with fail
      go_ret
      exact ⟨rfl, hB02.trans ((hB25.trans (hB6.mono hB25.size)).mono s02)⟩
    by_cases hp2 : P2 = 0
    case neg =>
      have hp2' : (P2 != 0) = true := bne_iff_ne.2 hp2
      clear hp2
      subst hp1
      go_wp2_with fail
      refine (linesBegun_any _).mono ?_
      rintro e w6 ⟨rfl, hB6⟩
      go_wp2_with fail
      go_ret
      exact ⟨rfl, hB02.trans ((hB25.trans (hB6.mono hB25.size)).mono s02)⟩
    obtain ⟨t1, t2⟩ := HT.out hp1 hp2
    obtain ⟨z1, z2, z3, z4, z5, z6, z7⟩ := HF.out hp1
    subst hp1 hp2
    have HZ : Hid (lineE C = 0 ∧ (∀ k (hk : k < C.length), k < i → C[k].seq < x.seq) ∧ (∀ (hk : i < C.length), C[i] = x) ∧ C.take i ++ C.drop (i + 1) = xs) := ⟨z1, z5, z6, z7⟩
    obtain ⟨P3, hP3⟩ : ∃ P, P = pushE C y := ⟨_, rfl⟩
    obtain ⟨V, hV⟩ : ∃ V, V = pushV C y := ⟨_, rfl⟩
    have HV : Hid ((P3 = pushE C y ∧ V = pushV C y) ∧ P3 = pushE D x ∧ V = pushV D x) := ⟨⟨hP3, hV⟩, by rw [hP3, t1], by rw [hV, t2]⟩
    have HVS : Hid (V.length ≤ maxLen) := by have := pushV_small (xs := C) (x := y); rw [← hV] at this; show V.length ≤ maxLen; unfold maxLen; omega
    have HZ2 : Hid (C.length = xs.length + 1) := z2
    have z2' : (C.length : Int) = (xs.length : Int) + 1 := by omega
    clear t1 t2 z1 z5 z6 z7 hP3 hV z2
    go_wp2_with fail
    refine (push_any C _ _ _ _ _ _ _ _ _ rfl HLC.out.le HLC.out.cm HLC.out.nz (HLC.out.it.keep hB5)).mono ?_
    rintro e w6 ⟨v6, m6, rfl, own6, hB6⟩
    rw [← HXY.out.2] at own6
    rw [← HXY.out.2, ← HV.out.1.1]
    rw [← HV.out.1.2] at own6
    obtain ⟨a6, c6, rfl, l6⟩ := own_line own6
    have hB26 : Below W2.heap.size W2 w6 := hB25.trans (hB6.mono hB25.size)
    clear own6 d0 d1 d2 d3 d4 f0 f1 f2 f3 f4
    obtain ⟨⟨d0, d1, d2, d3, d4⟩, f0, f1, f2, f3, f4⟩ := BX.out w6 hB26
    go_wp2_with fail
    refine (push_any D _ _ _ _ _ _ _ _ _ rfl HLD.out.le HLD.out.cm HLD.out.nz (HLD.out.it.keep hB6)).mono ?_
    rintro e w7 ⟨v7, m7, rfl, own7, hB7⟩
    rw [← HXY.out.1] at own7
    rw [← HXY.out.1, ← HV.out.2.1]
    rw [← HV.out.2.2] at own7
    obtain ⟨a7, c7, rfl, l7⟩ := own_line own7
    have HL67 : Hid (LineAt w6 a6 c6 V ∧ LineAt w7 a7 c7 V) := ⟨l6, l7⟩
    have hB27 : Below W2.heap.size W2 w7 := hB26.trans (hB7.mono hB26.size)
    have hB57 : Below w5.heap.size w5 w7 := hB6.trans (hB7.mono hB6.size)
    have hB47 : Below w4.heap.size w4 w7 := hB5.trans (hB57.mono hB5.size)
    clear own7 l6 l7 d0 d1 d2 d3 d4 f0 f1 f2 f3 f4
    go_wp2_with fail
    refine (lcheck_any C _ _ _ _ rfl (Nat.le_trans HLC.out.le HLC.out.cm) (HLC.out.it.keep hB47)).mono ?_
    rintro e w8 ⟨rfl, hB8⟩
    rw [HZ.out.1]
    have hB28 : Below W2.heap.size W2 w8 := hB27.trans (hB8.mono hB27.size)
    have hB68 : Below w6.heap.size w6 w8 := hB7.trans (hB8.mono hB7.size)
    go_wp2_with fail
    refine (same_items V _ _ _ _ _ _ rfl HVS.out (HL67.out.1.it.keep hB68) ((HL67.out.2.it).keep hB8)).mono ?_
    rintro e w9 ⟨rfl, hB9⟩
    have hB29 : Below W2.heap.size W2 w9 := hB28.trans (hB9.mono hB28.size)
    have hB49 : Below w4.heap.size w4 w9 := hB47.trans ((hB8.trans (hB9.mono hB8.size)).mono hB47.size)
    have s49 := hB49.size
    have hB24s := hB24.size
    have HC9 : Hid (ItemsAt w9 a4 C) := HLC.out.it.keep hB49
    have hB29s := hB29.size
    go_wp2_with fail
    go_loopw [20] (fun t wr => ∃ k : Nat, k ≤ i ∧ t = .int .i64 k ∧ Below w9.heap.size w9 wr) (fun t _ => i - (intOf t).toNat)
    case atStart => exact ⟨0, Nat.zero_le _, rfl, Below.refl _ _⟩
    case round =>
      obtain ⟨k, hk, rfl, hBr⟩ := hrel
      have hB2r : Below W2.heap.size W2 wr := hB29.trans (hBr.mono hB29s)
      obtain ⟨⟨d0, d1, d2, d3, d4⟩, f0, f1, f2, f3, f4⟩ := BX.out wr hB2r
      have hkc : k < C.length := by have := HZ2.out; omega
      have hkc' : (k : Int) < (xs.length : Int) + 1 := by have := HZ2.out; omega
      have hk0 : (0 : Int) ≤ (k : Int) := by omega
      have hdc : decide ((k : Int) < (C.length : Int)) = true := by simp; omega
      obtain ⟨g, o, rfl, hg, hxx⟩ := HC9.out.cells (by omega)
      obtain ⟨z, hz⟩ : ∃ z, z = C[k] := ⟨_, rfl⟩
      have hc := (hxx k hkc).keep hBr hg
      rw [← hz] at hc
      have hgr : g < wr.heap.size := Nat.lt_of_lt_of_le hg hBr.size
      by_cases hki : k < i
      · have hzs : z.seq < x.seq := by rw [hz]; exact HZ.out.2.1 k hkc hki
        have hne : (z.seq == s) = false := by have e := HXY.out.1; rw [e] at hzs; simp; dsimp only at hzs; omega
        obtain ⟨q, ky2, b2, ag2, dd2⟩ := z
        obtain ⟨e0, e1, e2, e3, e4⟩ := hc
        dsimp only at e0 e1 e2 e3 e4 hne
        clear hxx hz hzs hdc
        go_wp2_with fail
        go_quiet (fail)
        go_wp2_with fail
        go_roundw
        case rel => exact ⟨k + 1, by omega, by go_num, below_drewL hBr⟩
        case measure => simp [intOf]; omega
      · have hki' : k = i := by omega
        subst hki'
        have hzx : z = ⟨s, ky, b, ag, d⟩ := by rw [hz, HZ.out.2.2.1 hkc]; exact HXY.out.1
        subst hzx
        obtain ⟨e0, e1, e2, e3, e4⟩ := hc
        dsimp only at e0 e1 e2 e3 e4
        clear hxx hz hdc hki
        go_wp2_with fail
        go_quiet (fail)
        go_wp2_with fail
        have hcl : C.length ≤ c4 := HLC.out.le
        have q1 : (k : Int) ≤ (C.length : Int) := by omega
        have q2 : (k : Int) + 1 ≤ (C.length : Int) := by omega
        have q3 : (k : Int) ≤ (c4 : Int) := by omega
        have q4 : (k : Int) + 1 ≤ (c4 : Int) := by omega
        have q5 : (C.length : Int) ≤ (c4 : Int) := by omega
        have q6 : (k : Int) ≤ 1048577 := by have := HCD.out.1; omega
        have q7 : IntKind.i64.wrap ((k : Int) + 1) = (k : Int) + 1 := by rw [IntKind.wrap_i64]; omega
        have q8 : (0 : Int) ≤ (k : Int) + 1 := by omega
        clear d0 d1 d2 d3 d4 f0 f1 f2 f3 f4 e0 e1 e2 e3 e4 z2'
        refine wp_region_held_drew (S := fun w' => True) (by kernel_rfl) trivial (fun hHeld => ?_)
        refine wpAnyH_ready (rs := [0]) (by kernel_rfl) (by simp) ?_
        refine AllReadyH.cons rfl (fun K hK => ?_) AllReadyH.nil
        go_simp
        refine (linesBegun_any _).mono ?_
        rintro e w10 ⟨rfl, hB10'⟩
        have hB10 : Below w9.heap.size w9 w10 := hBr.trans ((⟨hB10'.os, hB10'.tape, hB10'.output, hB10'.size, hB10'.block⟩ : Below wr.heap.size wr w10).mono hBr.size)
        clear hB10'
        refine hK.out _ _ trivial (fun hH10 => ?_)
        clear hK K
        try simp only [Act.put, List.getElem_toArray, List.getElem_cons_succ, List.getElem_cons_zero, List.setIfInBounds_toArray, List.set_cons_zero, List.set_cons_succ]
        refine tk 1 ?_
        refine tk 3 ?_
        refine tk 4 ?_
        refine tk 5 ?_
        refine tk 7 ?_
        refine tk 8 ?_
        refine tk 9 ?_
        refine tk 10 ?_
        refine tk 12 ?_
        obtain ⟨A3, hA3⟩ : ∃ A3 : Option Addr, A3 = (if c4 = k + 1 then some ⟨g, o, none⟩ else some ⟨g, o + (k + 1) * 5, none⟩) := ⟨_, rfl⟩
        rw [← hA3]
        have HA : Hid (∀ W, ItemsAt W (some ⟨g, o, none⟩) C → ItemsAt W A3 (C.drop (k + 1))) := fun W h => by
          have := h.drop (k + 1) c4 hcl
          rw [hA3]; simpa [addr_add] using this
        have HN3 : Hid (A3 = none → c4 - (k + 1) = 0 ∧ C.drop (k + 1) = []) := fun e => by rw [hA3] at e; split at e <;> cases e
        clear hA3
        have hC9 : ItemsAt w10 (some ⟨g, o, none⟩) C := HC9.out.keep hB10
        have HXZ : Hid (ItemsAt w10 a xs) := HL2.out.it.keep (hB29.trans (hB10.mono hB29s))
        refine wpAnyH_ready (rs := [2]) (by kernel_rfl) (by simp) ?_
        refine AllReadyH.cons rfl (fun K hK => ?_) AllReadyH.nil
        go_simp
        have o1 := World.ownsRow_made (base := w10.heap.size) (e := 59) (size := 5) w10 #[] 0 (Nat.le_refl _) (Nat.zero_le _) rfl
        obtain ⟨w11, hmw11⟩ : ∃ w11, w11 = w10.alloc (.cells #[] 59) := ⟨_, rfl⟩
        have lw11 : Below w10.heap.size w10 w11 := by rw [hmw11]; exact (Below.refl _ _).alloc (Nat.le_refl _) _
        have zw11 : w10.heap.size + 1 ≤ w11.heap.size := by rw [hmw11]; simp
        rw [← hmw11] at o1 ⊢
        clear hmw11
        refine hK.out _ _ trivial (fun hHw11 => ?_)
        clear hK K
        try simp only [Act.put, List.getElem_toArray, List.getElem_cons_succ, List.getElem_cons_zero, List.setIfInBounds_toArray, List.set_cons_zero, List.set_cons_succ]
        refine wpAnyH_ready (rs := [6]) (by kernel_rfl) (by simp) ?_
        refine AllReadyH.cons rfl (fun K hK => ?_) AllReadyH.nil
        refine step_append_items (by kernel_rfl) _ _ rfl w10.heap.size _ 0 [] rfl o1 (some ⟨g, o, none⟩) k c4 (C.take k) rfl (by rw [List.length_take]; omega) (fun e => by cases e) ((hC9.keep lw11).take k) (by omega) (by omega) ?_
        intro v12 w12 o12 g12 _
        have lw12 : Below w10.heap.size w10 w12 := lw11.grown g12 (by omega) (fun k e => by cases e; exact Nat.le_refl _)
        have zw12 := lw12.size
        refine hK.out _ _ trivial (fun hH12 => ?_)
        clear hK K
        try simp only [Act.put, List.getElem_toArray, List.getElem_cons_succ, List.getElem_cons_zero, List.setIfInBounds_toArray, List.set_cons_zero, List.set_cons_succ]
        refine wpAnyH_ready (rs := [11]) (by kernel_rfl) (by simp) ?_
        refine AllReadyH.cons rfl (fun K hK => ?_) AllReadyH.nil
        refine step_append_items (by kernel_rfl) _ _ rfl w10.heap.size _ _ _ rfl o12 A3 _ _ (C.drop (k + 1)) rfl (by rw [List.length_drop]) HN3.out (HA.out _ (hC9.keep lw12)) (by have := HCD.out.1; omega) (by omega) ?_
        intro v13 w13 o13 g13 _
        have lw13 : Below w10.heap.size w10 w13 := lw12.grown g13 (by omega) (own_ge o12)
        have o13' : w13.ownsRow w10.heap.size 59 5 v13 (0 + k + (C.length - (k + 1))) (itemCells xs) := by
          have e := HZ.out.2.2.2
          have := o13
          rw [List.nil_append, e] at this; exact this
        obtain ⟨a13, c13, rfl, l13⟩ := own_line o13'
        refine hK.out _ _ trivial (fun hH13 => ?_)
        clear hK K
        try simp only [Act.put, List.getElem_toArray, List.getElem_cons_succ, List.getElem_cons_zero, List.setIfInBounds_toArray, List.set_cons_zero, List.set_cons_succ]
        refine wpAnyH_ready (rs := [13]) (by kernel_rfl) (by simp) ?_
        refine AllReadyH.cons rfl (fun K hK => ?_) AllReadyH.nil
        go_simp
        refine (same_items xs _ _ _ _ _ _ rfl (Nat.le_trans HL2.out.le HL2.out.cm) l13.it (HXZ.out.keep lw13)).mono ?_
        rintro e w14 ⟨rfl, hB14⟩
        have hB04 : Below w.heap.size w w14 := hB02.trans ((hB29.trans ((hB10.trans ((lw13.trans (hB14.mono lw13.size)).mono hB10.size)).mono hB29s)).mono s02)
        refine hK.out _ _ trivial (fun hH14 => ?_)
        clear hK K
        try simp only [Act.put, List.getElem_toArray, List.getElem_cons_succ, List.getElem_cons_zero, List.setIfInBounds_toArray, List.set_cons_zero, List.set_cons_succ]
        refine tk 14 ?_
        refine tk 15 ?_
        refine wpAnyH_done (by kernel_rfl) ?_ _
        go_wp2_with fail
        go_ret
        exact ⟨rfl, hB04⟩
end Go.Proofs.Ythhkpgnjpieckaa
