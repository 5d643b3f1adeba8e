/- mailcoachref.wayBy. -/
import Derived.Test.YthhkpgnjpieckaaSh
import Derived.Test.YthhkpgnjpieckaaSj
namespace Go.Proofs.Ythhkpgnjpieckaa
set_option linter.unusedVariables false
set_option maxRecDepth 100000
open Go.RowKit Go.Maps

theorem own_one (W : World) (base : Nat) (k : Nat) (hb : base ≤ W.heap.size) : (W.alloc (.cells #[.int .i64 (k : Nat)] 3)).ownsRow base 3 1 (.slice (some ⟨W.heap.size, 0, none⟩) 1 1) 1 (natV [k]) :=
  ⟨rfl, .inr ⟨W.heap.size, 1, #[.int .i64 (k : Nat)], rfl, hb, World.alloc_heap_new W _, Nat.le_refl _, by unfold maxLen; omega, rfl, rfl⟩⟩
theorem natV_one (s : List Nat) : ∀ u ∈ natV s, u.oneCell' = true := by
  intro u hu
  obtain ⟨x, _, rfl⟩ := List.mem_map.1 hu
  rfl
theorem natV_news {W W' : World} {g : Nat} {s : List Nat} (h : IntRow W g (s.map (fun n : Nat => (n : Int)))) (hB : Below W.heap.size W W') : ∀ j u, (natV s)[j]? = some u → W'.cell? ((⟨g, 0, none⟩ : Addr).add j) = some u := by
  intro j u hj
  rw [addr_add2, Nat.zero_add]
  rw [natV_ints, List.getElem?_map] at hj
  have hjl : j < (s.map (fun n : Nat => (n : Int))).length := by
    rcases Nat.lt_or_ge j (s.map (fun n : Nat => (n : Int))).length with h1 | h1
    · exact h1
    · rw [List.getElem?_eq_none h1] at hj; cases hj
  rw [List.getElem?_eq_getElem hjl] at hj
  rw [hB.cell (p := ⟨g, j, none⟩) h.lt, h.cell hjl]
  simpa using hj
def wayL (o : Option (List Nat)) : List Nat := o.getD []
theorem firstTo_none_succ {f : Nat → Option (List Nat)} {k : Nat} (h : firstTo f k = none) : firstTo f (k + 1) = f k := by unfold firstTo; rw [h]
theorem firstTo_ge {f : Nat → Option (List Nat)} {k : Nat} {l : List Nat} (h : firstTo f k = some l) : ∀ {n}, k ≤ n → firstTo f n = some l
  | 0, hn => by have : k = 0 := by omega
                subst this; exact h
  | n + 1, hn => by
    by_cases e : k = n + 1
    · subst e; exact h
    · unfold firstTo; rw [firstTo_ge h (show k ≤ n by omega)]

set_option maxRecDepth 100000 in
set_option maxHeartbeats 1000000 in
theorem wayBy_any (p : PlanD) (a1 a2 a3 : Option Addr) (n1 c1 n2 c2 n3 c3 : Nat) (key : ByteArray) (q : Int) (hr : RightP p) (hk : key.size ≤ 24) : ∀ (n : Nat), n ≤ 4 → ∀ (v : Int) (w : World) (hp : PlanAt w a1 a2 a3 n1 n2 n3 p),
    Calls Try.prog 84 #[.agg #[.slice a1 n1 c1, .slice a2 n2 c2, .slice a3 n3 c3], .int .i64 v, .string key, .int .i64 q, .int .i64 n] w fun e w' => ∃ u, e = .returned (.tuple #[u, .bool (wayF p key q n v).isSome]) ∧ w'.ownsRow w.heap.size 3 1 u (wayL (wayF p key q n v)).length (natV (wayL (wayF p key q n v))) ∧ Below w.heap.size w w' := by
  have HR := hidIt hr
  have HKS := hidIt hk
  clear hr hk
  intro n
  induction n with
  | zero =>
    intro _ v w hp
    obtain ⟨W1, hW1, hBw, hs1, hbx⟩ := plan_boxed w (.slice a1 n1 c1) (.slice a2 n2 c2) (.slice a3 n3 c3) 40
    have HW1 := hidIt hW1
    obtain ⟨d0, d1, d2⟩ := hbx W1 (Below.refl _ _)
    have h10 : n3 ≤ 10 := by rw [← hp.l3]; exact HR.out.few.2.2
    clear hbx hs1 hp
    show Calls _ _ _ _ (fun e w' => ∃ u, e = .returned (.tuple #[u, .bool false]) ∧ w'.ownsRow w.heap.size 3 1 u 0 [] ∧ Below w.heap.size w w')
    have h00 : ¬ ((0 : Int) < 0) := by omega
    clear hW1
    go_enter Try.func84, Try.ntmps84
    go_wp2_with fail
    rw [← HW1.out]
    go_loopw [12, 13, 14, 15] (fun i _ _ _ wr => i = .int .i64 0 ∧ wr = W1) (fun _ _ _ _ _ => 0)
    case atStart => exact ⟨rfl, rfl⟩
    case round =>
      obtain ⟨rfl, rfl⟩ := hrel
      by_cases hz : (0 : Int) < n3
      · go_wp2_with fail
        go_ret2
        exact ⟨_, rfl, World.ownsRow_nil _ _ _ _, hBw⟩
      · go_wp2_with fail
        go_ret2
        exact ⟨_, rfl, World.ownsRow_nil _ _ _ _, hBw⟩
  | succ m ih =>
    intro hm4 v w hp
    have IH := hidIt (fun h => ih h)
    obtain ⟨i0, hi0, hz0, hz1, hz2⟩ := info_parts Try.infoInt
    obtain ⟨W1, hW1, hBw, hs1, hbx⟩ := plan_boxed w (.slice a1 n1 c1) (.slice a2 n2 c2) (.slice a3 n3 c3) 40
    have HW1 := hidIt hW1
    have BX := hidIt hbx
    have HP1 : Hid (PlanAt W1 a1 a2 a3 n1 n2 n3 p) := hp.keep hBw
    have HL3 : Hid (p.binds.length = n3) := hp.l3
    have h10 : n3 ≤ 10 := by rw [← hp.l3]; exact HR.out.few.2.2
    have s0 := hBw.size
    have hs1' : w.heap.size < W1.heap.size := by omega
    obtain ⟨f, hf⟩ : ∃ f, f = wayK p key q (wayF p key q m) m v := ⟨_, rfl⟩
    have HF := hidIt hf
    have HWF : Hid (wayF p key q (m + 1) v = firstTo f n3) := by
      show firstTo (wayK p key q (wayF p key q m) m v) p.binds.length = _
      rw [hf, HL3.out]
    rw [HWF.out]
    obtain ⟨N, hN⟩ : ∃ N : Int, N = ((m + 1 : Nat) : Int) := ⟨_, rfl⟩
    rw [← hN]
    have hN0 : (0 : Int) < N := by omega
    have HN := hidIt hN
    have HM4 := hidIt hm4
    clear hW1 hbx hs1 hp ih hf hN hm4
    go_enter Try.func84, Try.ntmps84
    go_wp2_with fail
    rw [← HW1.out]
    go_loopw [12, 13, 14, 15] (fun i _ _ _ wr => ∃ (k : Nat), k ≤ n3 ∧ i = .int .i64 k ∧ firstTo f k = none ∧ Below W1.heap.size W1 wr) (fun i _ _ _ _ => n3 - (intOf i).toNat)
    case atStart => exact ⟨0, Nat.zero_le _, rfl, rfl, Below.refl _ _⟩
    case round =>
      obtain ⟨k, hk, rfl, hno, hB⟩ := hrel
      obtain ⟨d0, d1, d2⟩ := BX.out wr hB
      have hwr := hB.size
      have sk : w.heap.size < wr.heap.size := by omega
      have HNO := hidIt hno
      clear hno
      by_cases hkl : k < n3
      · have HKL := hidIt hkl
        have hbl : k < p.binds.length := by rw [HL3.out]; exact hkl
        rcases (HP1.out.p3.keep hB) with h | ⟨gb, o, ha3, hgb, hbc⟩
        · rw [h] at hbl; simp at hbl
        obtain ⟨r0, r1, r2, r3⟩ := hbc k hbl
        rw [← bAt_get hbl] at r0 r1 r2 r3
        have i1 : (0 : Int) ≤ (k : Int) := by omega
        have i2 : (k : Int) < n3 := by omega
        have HFK : Hid (f k = wayK p key q (wayF p key q m) m v k) := by show f k = _; rw [HF.out]
        have hfk := HFK.out
        unfold wayK toQ at hfk
        obtain ⟨x, hx⟩ : ∃ x, x = (bAt p k).src := ⟨_, rfl⟩
        obtain ⟨tp, htp⟩ : ∃ tp, tp = (bAt p k).toPost := ⟨_, rfl⟩
        obtain ⟨y, hy⟩ : ∃ y, y = (bAt p k).dst := ⟨_, rfl⟩
        obtain ⟨pt, hpt⟩ : ∃ pt, pt = (bAt p k).pat := ⟨_, rfl⟩
        obtain ⟨ft, hft⟩ : ∃ ft, ft = fitP p k key := ⟨_, rfl⟩
        rw [← hx, ← htp, ← hy, ← hft] at hfk
        rw [← hx] at r0
        rw [← htp] at r1
        rw [← hy] at r2
        rw [← hpt] at r3
        have HFK := hidIt hfk
        have HFT := hidIt hft
        have HYT : Hid (tp = true → ∃ d : Nat, y = d) := fun h => by
          obtain ⟨d, hd⟩ := Int.eq_ofNat_of_zero_le (dst_ok HR.out k (by rw [← htp]; exact h)).1
          exact ⟨d, by rw [hy]; exact hd⟩
        obtain ⟨W2, hW2⟩ : ∃ W2, W2 = wr.alloc (.cells #[.int .i64 x, .bool tp, .int .i64 y, .string pt] 55) := ⟨_, rfl⟩
        have HW2 := hidIt hW2
        have hB2 : Below wr.heap.size wr W2 := by rw [hW2]; exact (Below.refl _ _).alloc (Nat.le_refl _) _
        have hb2 : W2.heap[wr.heap.size]? = some (.cells #[.int .i64 x, .bool tp, .int .i64 y, .string pt] 55 (0, 0)) := by rw [hW2]; exact World.alloc_heap_new wr _
        have HB2 := hidIt (And.intro hb2 (hB.trans (hB2.mono hwr)))
        subst ha3
        clear hx htp hy hpt hft hbl hbc hW2 hB2 hb2 hfk hkl
        have STAY : Hid (f k = none → firstTo f (k + 1) = none) := fun h => by show firstTo f (k + 1) = none; rw [firstTo_none_succ HNO.out]; exact h
        have DONE : Hid (∀ l, f k = some l → firstTo f n3 = some l) := fun l h => by
          have : firstTo f (k + 1) = some l := by rw [firstTo_none_succ HNO.out]; exact h
          exact firstTo_ge this HKL.out
        by_cases hxv : x = v
        · subst hxv
          have hxx : (x != x) = false := by simp
          go_wp2_with fail
          rw [← HW2.out]
          refine (rfits_any p _ _ _ _ _ _ _ _ _ k key _ (HP1.out.keep HB2.out.2) HR.out HKL.out HKS.out).mono ?_
          rintro e w3 ⟨rfl, hB3⟩
          rw [← HFT.out]
          have hb3 := plan_box_keep HB2.out.1 hB3
          have x0 := cell_of_cells hb3 0
          have x1 := cell_of_cells hb3 1
          have x2 := cell_of_cells hb3 2
          simp at x0 x1 x2
          have hB13 := HB2.out.2.trans (hB3.mono HB2.out.2.size)
          have HB13 := hidIt hB13
          have s13 := hB13.size
          clear d0 d1 d2 r0 r1 r2 r3 hB3 hb3
          obtain ⟨d0, d1, d2⟩ := BX.out w3 hB13
          clear hB13
          cases ft with
          | false =>
            go_wp2_with fail
            go_roundw
            case rel => exact ⟨k + 1, HKL.out, by have := HKL.out; go_num, STAY.out (by rw [HFK.out]; simp), HB13.out⟩
            case measure => have := HKL.out; simp [intOf]; omega
          | true =>
            by_cases hm : m = 0
            · have hN1 : N = 1 := by rw [HN.out, hm]; rfl
              subst hN1
              have HM0 := hidIt hm
              clear hm
              cases tp with
              | true =>
                go_wp2_with fail
                go_roundw
                case rel => exact ⟨k + 1, HKL.out, by have := HKL.out; go_num, STAY.out (by rw [HFK.out, HM0.out]; simp), HB13.out⟩
                case measure => have := HKL.out; simp [intOf]; omega
              | false =>
                by_cases hyq : y = q
                · subst hyq
                  have hyy : (y == y) = true := by simp
                  have HRES : Hid (firstTo f n3 = some [k]) := DONE.out [k] (by rw [HFK.out, HM0.out]; simp)
                  go_wp2_with fail
                  go_ret2
                  rw [HRES.out]
                  exact ⟨_, rfl, own_one w3 w.heap.size k (by omega), hBw.trans ((HB13.out.alloc s13 _).mono s0)⟩
                · have hyq' : (y == q) = false := by simpa using hyq
                  have HYQ := hidIt hyq
                  clear hyq
                  go_wp2_with fail
                  go_roundw
                  case rel => exact ⟨k + 1, HKL.out, by have := HKL.out; go_num, STAY.out (by rw [HFK.out, HM0.out]; simp [HYQ.out]), HB13.out⟩
                  case measure => have := HKL.out; simp [intOf]; omega
            · have hN1 : (N == 1) = false := by rw [HN.out]; simp; omega
              have hN2 : (1 : Int) < N := by rw [HN.out]; omega
              have hN3 : IntKind.i64.wrap (N - 1) = (m : Int) := by have := HM4.out; rw [HN.out, IntKind.wrap_i64]; omega
              have HM0 := hidIt hm
              clear hm
              cases tp with
              | false =>
                go_wp2_with fail
                go_roundw
                case rel => exact ⟨k + 1, HKL.out, by have := HKL.out; go_num, STAY.out (by rw [HFK.out]; simp [HM0.out]), HB13.out⟩
                case measure => have := HKL.out; simp [intOf]; omega
              | true =>
                go_wp2_with fail
                refine (IH.out (by have := HM4.out; omega) y w3 (HP1.out.keep HB13.out)).mono ?_
                rintro e w4 ⟨u, rfl, hu, hB4⟩
                have hpos : 0 < m := Nat.pos_of_ne_zero HM0.out
                have HFK2 : Hid (f k = (wayF p key q m y).map (k :: ·)) := by show f k = _; rw [HFK.out]; simp [HM0.out, hpos]
                have HLEN : Hid (∀ s, wayF p key q m y = some s → s ≠ [] ∧ s.length ≤ 4) := fun s hs => by
                  obtain ⟨d, hd⟩ := HYT.out (by trivial)
                  rw [hd] at hs
                  obtain ⟨q1, q2, _⟩ := (wayF_spec HR.out m d).1 s hs
                  have := HM4.out
                  exact ⟨way_ne q2, by omega⟩
                have HB14 := hidIt (HB13.out.trans (hB4.mono s13))
                have s14 := HB14.out.size
                have s34 := hB4.size
                clear d0 d1 d2 hB4 hpos
                cases hw : wayF p key q m y with
                | none =>
                  rw [hw] at HFK2
                  go_wp2_with fail
                  go_roundw
                  case rel => exact ⟨k + 1, HKL.out, by have := HKL.out; go_num, STAY.out (by rw [HFK2.out]; rfl), HB14.out⟩
                  case measure => have := HKL.out; simp [intOf]; omega
                | some s =>
                  rw [hw] at HFK2 hu
                  have HRES : Hid (firstTo f n3 = some (k :: s)) := DONE.out _ (by rw [HFK2.out]; rfl)
                  obtain ⟨hne, hl4⟩ := HLEN.out s hw
                  have hu' : w4.ownsRow w3.heap.size 3 1 u s.length (natV s) := hu
                  rw [natV_ints] at hu'
                  obtain ⟨g, c, rfl, hgb, hlc, hcm, hIR⟩ := row_ints hu' (by intro h; simp at h; exact hne h)
                  rw [List.length_map]
                  have HIR := hidIt hIR
                  have hgl := hIR.lt
                  clear hu hu' hIR hw
                  go_wp2_with (at_builtin; refine wpList_append_own _ rfl _ _ 45 rfl w.heap.size 3 i0 (.int .i64 0) 1 8 Try.underlying45 hi0 hz0 hz1 hz2 rfl (by decide) _ _ _ rfl (own_one w4 w.heap.size k (by omega)) ⟨g, 0, none⟩ s.length c (natV s) rfl (by simp [natV]) (natV_news HIR.out ((Below.refl _ _).alloc (Nat.le_refl _) _)) (natV_one s) (by unfold maxLen; omega) (by omega) (by simp; omega) ?_; intro v' w5 hown' hgrow _)
                  go_ret2
                  rw [HRES.out]
                  exact ⟨_, rfl, by rw [show (wayL (some (k :: s))).length = 1 + s.length by simp [wayL]; omega]; exact hown', hBw.trans (((HB14.out.alloc s14 _).grown hgrow (by simp; omega) (fun i e => by cases e; show _ ≤ w4.heap.size; omega)).mono s0)⟩
        · have hxv' : (x != v) = true := by simpa using hxv
          have HXV := hidIt hxv
          clear hxv
          go_wp2_with fail
          rw [← HW2.out]
          go_roundw
          case rel => exact ⟨k + 1, HKL.out, by have := HKL.out; go_num, STAY.out (by rw [HFK.out]; simp [HXV.out]), HB2.out.2⟩
          case measure => have := HKL.out; simp [intOf]; omega
      · have hke : k = n3 := by omega
        subst hke
        clear hkl hk
        go_wp2_with fail
        go_ret2
        rw [HNO.out]
        exact ⟨_, rfl, World.ownsRow_nil _ _ _ _, hBw.trans (hB.mono s0)⟩
end Go.Proofs.Ythhkpgnjpieckaa
