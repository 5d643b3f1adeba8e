/- state.askLines, askTakers, askCounts. -/
import Derived.Test.YthhkpgnjpieckaaTb
import Derived.Test.YthhkpgnjpieckaaTc
namespace Go.Proofs.Ythhkpgnjpieckaa
set_option linter.unusedVariables false
set_option maxRecDepth 100000
open Go.RowKit

theorem hidI {p : Prop} (h : p) : Hid p := h
/-- The boxes that a call lays for its plan and its state. -/
theorem ps_boxed (w : World) (pv sv : Array Value) : ∃ W2, W2 = (w.alloc (.cells pv 40)).alloc (.cells sv 74) ∧ Below w.heap.size w W2 ∧ W2.heap.size = w.heap.size + 2 ∧
    ∀ W, Below W2.heap.size W2 W → W.heap[w.heap.size]? = some (.cells pv 40 (0, 0)) ∧ W.heap[w.heap.size + 1]? = some (.cells sv 74 (0, 0)) := by
  refine ⟨_, rfl, ((Below.refl _ _).alloc (Nat.le_refl _) _).alloc (by simp) _, by simp, fun W hW => ⟨(hW.block _ (by simp; omega)).trans ?_, (hW.block _ (by simp)).trans ?_⟩⟩
  · rw [Below.heap_alloc _ _ _ (by simp)]; exact World.alloc_heap_new w _
  · have := World.alloc_heap_new (w.alloc (.cells pv 40)) (.cells sv 74)
    rw [World.size_alloc] at this; exact this
theorem s_boxed (w : World) (sv : Array Value) : ∃ W1, W1 = w.alloc (.cells sv 74) ∧ Below w.heap.size w W1 ∧ W1.heap.size = w.heap.size + 1 ∧
    ∀ W, Below W1.heap.size W1 W → W.heap[w.heap.size]? = some (.cells sv 74 (0, 0)) := by
  refine ⟨_, rfl, (Below.refl _ _).alloc (Nat.le_refl _) _, by simp, fun W hW => (hW.block _ (by simp)).trans (World.alloc_heap_new w _)⟩
theorem pl_cells {W : World} {B : Nat} {v1 v2 v3 : Value} {t : TypeId} (h : W.heap[B]? = some (.cells #[v1, v2, v3] t (0, 0))) : W.cell? ⟨B, 0, none⟩ = some v1 ∧ W.cell? ⟨B, 1, none⟩ = some v2 ∧ W.cell? ⟨B, 2, none⟩ = some v3 :=
  ⟨cell_of_cells h 0, cell_of_cells h 1, cell_of_cells h 2⟩
theorem st_cells {W : World} {B : Nat} {v0 v1 v2 v3 v4 v5 v6 v7 : Value} {t : TypeId} (h : W.heap[B]? = some (.cells #[v0, v1, v2, v3, v4, v5, v6, v7] t (0, 0))) : W.cell? ⟨B, 0, none⟩ = some v0 ∧ W.cell? ⟨B, 1, none⟩ = some v1 ∧ W.cell? ⟨B, 2, none⟩ = some v2 ∧ W.cell? ⟨B, 3, none⟩ = some v3 ∧ W.cell? ⟨B, 4, none⟩ = some v4 ∧ W.cell? ⟨B, 5, none⟩ = some v5 ∧ W.cell? ⟨B, 6, none⟩ = some v6 ∧ W.cell? ⟨B, 7, none⟩ = some v7 :=
  ⟨cell_of_cells h 0, cell_of_cells h 1, cell_of_cells h 2, cell_of_cells h 3, cell_of_cells h 4, cell_of_cells h 5, cell_of_cells h 6, cell_of_cells h 7⟩
theorem bools_newG (w : World) (bs : List Bool) {g : Nat} (hg : g = w.heap.size) : IsBools (w.alloc (.cells (bs.map Value.bool).toArray 4)) g 0 bs := by rw [hg]; exact bools_new w bs
theorem one_new (w : World) (x : Value) (t : TypeId) : (w.alloc (.cells #[x] t)).cell? ⟨w.heap.size, 0, none⟩ = some x := cell_of_cells (World.alloc_heap_new w (.cells #[x] t)) 0
theorem LinesAt.get {W : World} {a : Option Addr} {xss : List (List ItemD)} (h : LinesAt W a xss) {k : Nat} (hk : k < xss.length) : ∃ g o b c, a = some ⟨g, o, none⟩ ∧ g < W.heap.size ∧ LineCell W g (o + k) xss[k] b c := by
  rcases h with h | ⟨g, o, ha, hg, h⟩
  · rw [h] at hk; simp at hk
  · obtain ⟨b, c, hl⟩ := h k hk; exact ⟨g, o, b, c, ha, hg, hl⟩

set_option maxRecDepth 100000 in
set_option maxHeartbeats 1000000 in
theorem askLines_any (p : PlanD) (a1 a2 a3 : Option Addr) (n1 c1 n2 c2 n3 c3 : Nat) (s : StateD) (b1 b2 b3 : Option Addr) (m1 d1 m2 d2 m3 d3 : Nat) (w : World) (hp : PlanAt w a1 a2 a3 n1 n2 n3 p) (hs : StateAt w b1 b2 b3 m1 m2 m3 s) :
    Calls Try.prog 97 #[.agg #[.slice a1 n1 c1, .slice a2 n2 c2, .slice a3 n3 c3], .agg #[.slice b1 m1 d1, .slice b2 m2 d2, .slice b3 m3 d3, .int .i64 s.nextSeq, .int .i64 s.nextTag, .int .i64 s.came, .int .i64 s.acked, .int .i64 s.dropped]] w fun e w' => e = askE (if linesOk n2 s.ready = true then 0 else 1) ∧ Below w.heap.size w w' := by
  obtain ⟨D, hD⟩ : ∃ D : Int, D = if linesOk n2 s.ready = true then 0 else 1 := ⟨_, rfl⟩
  rw [← hD]
  have HD := hidI hD
  clear hD
  obtain ⟨W2, hW2, hBw, hs2, hbx⟩ := ps_boxed w #[.slice a1 n1 c1, .slice a2 n2 c2, .slice a3 n3 c3] #[.slice b1 m1 d1, .slice b2 m2 d2, .slice b3 m3 d3, .int .i64 s.nextSeq, .int .i64 s.nextTag, .int .i64 s.came, .int .i64 s.acked, .int .i64 s.dropped]
  have HW2 := hidI hW2
  have BX := hidI hbx
  have HS := hidI (hs.keep hBw)
  have HM1 : Hid (s.ready.length = m1) := hs.l1
  have hx1 := hs.x1
  have s0 := hBw.size
  have hs2' : w.heap.size + 1 < W2.heap.size := by omega
  unfold maxLen at hx1
  have HS2 : Hid (w.heap.size + 1 + 1 = W2.heap.size) := hs2.symm
  clear hW2 hbx hs hp hs2
  obtain ⟨p0, q0⟩ := BX.out W2 (Below.refl _ _)
  obtain ⟨x0, x1, x2⟩ := pl_cells p0
  obtain ⟨y0, y1, y2, y3, y4, y5, y6, y7⟩ := st_cells q0
  clear p0 q0
  by_cases hm : m1 = n2
  · have hmb : ((m1 : Int) != (n2 : Int)) = false := by simp [hm]
    have HME := hidI hm
    clear hm
    go_enter Try.func97, Try.ntmps97
    go_wp2_with fail
    rw [← HW2.out]
    refine (never_no 1 [false] _ _ (by simp) (bools_newG W2 [false] HS2.out) (by simp)).mono ?_
    rintro e w3 ⟨rfl, hw3⟩
    have hB3 : Below W2.heap.size W2 w3 := by rw [hw3]; exact (Below.refl _ _).alloc (Nat.le_refl _) _
    obtain ⟨p0, q0⟩ := BX.out w3 hB3
    clear x0 x1 x2 y0 y1 y2 y3 y4 y5 y6 y7
    obtain ⟨y0, y1, y2, y3, y4, y5, y6, y7⟩ := st_cells q0
    clear hw3 p0 q0
    go_wp2_with fail
    go_loopw [5, 18] (fun _ i wr => ∃ k : Nat, k ≤ m1 ∧ i = .int .i64 k ∧ (∀ x ∈ s.ready.take k, lineOk x = true) ∧ Below W2.heap.size W2 wr) (fun _ i _ => m1 - (intOf i).toNat)
    case atStart => exact ⟨0, Nat.zero_le _, rfl, by simp, hB3⟩
    case round =>
      obtain ⟨k, hk, rfl, ha, hB⟩ := hrel
      have HA := hidI ha
      have hBs := hB.size
      clear ha
      by_cases hlt : k < m1
      · have hkl : k < s.ready.length := by rw [HM1.out]; exact hlt
        obtain ⟨g, o, b, c, ha, hg, hl⟩ := (HS.out.q1.keep hB).get hkl
        subst ha
        have e1 := hl.cell
        have HLI := hidI hl
        have HTK := hidI (fun h1 h2 => take_all_snoc (p := lineOk) (xs := s.ready) (k := k) hkl h1 h2)
        have HNOT := hidI (fun h2 => all_false_get (p := lineOk) (xs := s.ready) (k := k) hkl h2)
        obtain ⟨xs, hxs⟩ : ∃ xs, xs = s.ready[k] := ⟨_, rfl⟩
        rw [← hxs] at HLI e1 HTK HNOT
        obtain ⟨n, hn⟩ : ∃ n, n = xs.length := ⟨_, rfl⟩
        rw [← hn] at e1
        have HN := hidI hn
        have j1 : (0 : Int) ≤ (k : Int) := by omega
        have j2 : (k : Int) < m1 := by omega
        clear hl hxs hn
        go_wp2_with fail
        refine (lcheck_any xs b _ c _ HN.out.symm (Nat.le_trans (by rw [HN.out]; exact HLI.out.le) HLI.out.cm) HLI.out.it).mono ?_
        rintro e w4 ⟨rfl, hB4⟩
        have k4 : Below W2.heap.size W2 w4 := hB.trans (hB4.mono hBs)
        have s4 := k4.size
        have k5 := k4.alloc s4 (.cells #[.int .i64 (lineE xs)] 23)
        obtain ⟨ok, hok⟩ : ∃ ok, ok = lineOk xs := ⟨_, rfl⟩
        have HOK := hidI hok
        unfold lineE at k5 ⊢
        rw [← hok] at k5 ⊢
        clear hok hB4
        cases ok with
        | true =>
          simp only [if_true] at k5 ⊢
          go_wp2_with (go_at_call 95; refine (ok_no _ _ (one_new _ _ _) (by simp)).mono ?_; rintro e w5 ⟨rfl, hB5⟩)
          go_roundw
          case rel => exact ⟨k + 1, by omega, by go_num, HTK.out HA.out HOK.out.symm, k5.trans (hB5.mono k5.size)⟩
          case measure => simp [intOf]; omega
        | false =>
          simp only [Bool.false_eq_true, if_false] at k5 ⊢
          have HNO : Hid (linesOk n2 s.ready = false) := by show linesOk n2 s.ready = false; unfold linesOk; rw [HNOT.out HOK.out.symm]; simp
          go_wp2_with (go_at_call 95; refine (ok_yes 1 _ _ (one_new _ _ _) (by simp) (by decide)).mono ?_; rintro e w5 ⟨rfl, hB5⟩)
          exact ⟨rfl, by rw [HD.out, HNO.out]; rfl, hBw.trans ((k5.trans (hB5.mono k5.size)).mono s0)⟩
      · have hke : k = m1 := by omega
        subst hke
        have HYES : Hid (linesOk n2 s.ready = true) := by
          show linesOk n2 s.ready = true
          unfold linesOk
          rw [all_of_take HM1.out (Nat.lt_irrefl _) HA.out, decide_eq_true (by rw [HM1.out]; exact HME.out)]; rfl
        clear hlt hk
        go_wp2_with fail
        go_end0
        exact ⟨by rw [HD.out, HYES.out]; rfl, hBw.trans (hB.mono s0)⟩
  · have hmb : ((m1 : Int) != (n2 : Int)) = true := by simp; omega
    have HNO : Hid (linesOk n2 s.ready = false) := by show linesOk n2 s.ready = false; unfold linesOk; rw [HM1.out, decide_eq_false hm]; rfl
    clear hm
    go_enter Try.func97, Try.ntmps97
    go_wp2_with fail
    rw [← HW2.out]
    refine (never_yes 1 [true] _ _ (by simp) (bools_newG W2 [true] HS2.out) (by simp)).mono ?_
    rintro e w3 ⟨rfl, rfl⟩
    exact ⟨rfl, by rw [HD.out, HNO.out]; rfl, (hBw.alloc s0 _)⟩

theorem TakersAt.get {W : World} {a : Option Addr} {xs : List TakerD} (h : TakersAt W a xs) {k : Nat} (hk : k < xs.length) : ∃ g o, a = some ⟨g, o, none⟩ ∧ g < W.heap.size ∧ W.cell? ⟨g, o + k * 2, none⟩ = some (.int .i64 xs[k].queue) ∧ W.cell? ⟨g, o + k * 2 + 1, none⟩ = some (.int .i64 xs[k].most) := by
  rcases h with h | ⟨g, o, ha, hg, h⟩
  · rw [h] at hk; simp at hk
  · exact ⟨g, o, ha, hg, h k hk⟩
theorem askE_if {b : Bool} {d : Int} : askE (if b = true then 0 else d) = if b = true then askE 0 else askE d := by cases b <;> rfl

set_option maxRecDepth 100000 in
set_option maxHeartbeats 1000000 in
theorem askTakers_any (p : PlanD) (a1 a2 a3 : Option Addr) (n1 c1 n2 c2 n3 c3 : Nat) (s : StateD) (b1 b2 b3 : Option Addr) (m1 d1 m2 d2 m3 d3 : Nat) (w : World) (hs : StateAt w b1 b2 b3 m1 m2 m3 s) :
    Calls Try.prog 98 #[.agg #[.slice a1 n1 c1, .slice a2 n2 c2, .slice a3 n3 c3], .agg #[.slice b1 m1 d1, .slice b2 m2 d2, .slice b3 m3 d3, .int .i64 s.nextSeq, .int .i64 s.nextTag, .int .i64 s.came, .int .i64 s.acked, .int .i64 s.dropped]] w fun e w' => e = askE (if s.takers.all (takerOk n2) = true then 0 else 1) ∧ Below w.heap.size w w' := by
  obtain ⟨D, hD⟩ : ∃ D : Int, D = if s.takers.all (takerOk n2) = true then 0 else 1 := ⟨_, rfl⟩
  rw [← hD]
  have HD := hidI hD
  clear hD
  obtain ⟨W2, hW2, hBw, hs2, hbx⟩ := ps_boxed w #[.slice a1 n1 c1, .slice a2 n2 c2, .slice a3 n3 c3] #[.slice b1 m1 d1, .slice b2 m2 d2, .slice b3 m3 d3, .int .i64 s.nextSeq, .int .i64 s.nextTag, .int .i64 s.came, .int .i64 s.acked, .int .i64 s.dropped]
  have HW2 := hidI hW2
  have BX := hidI hbx
  have HS := hidI (hs.keep hBw)
  have HM3 : Hid (s.takers.length = m3) := hs.l3
  have hx3 := hs.x3
  have s0 := hBw.size
  have hs2' : w.heap.size + 1 < W2.heap.size := by omega
  unfold maxLen at hx3
  clear hW2 hbx hs hs2
  obtain ⟨p0, q0⟩ := BX.out W2 (Below.refl _ _)
  obtain ⟨x0, x1, x2⟩ := pl_cells p0
  obtain ⟨y0, y1, y2, y3, y4, y5, y6, y7⟩ := st_cells q0
  clear p0 q0
  go_enter Try.func98, Try.ntmps98
  go_wp2_with fail
  rw [← HW2.out]
  go_loopw [5, 9] (fun _ i wr => ∃ k : Nat, k ≤ m3 ∧ i = .int .i64 k ∧ (∀ x ∈ s.takers.take k, takerOk n2 x = true) ∧ Below W2.heap.size W2 wr) (fun _ i _ => m3 - (intOf i).toNat)
  case atStart => exact ⟨0, Nat.zero_le _, rfl, by simp, Below.refl _ _⟩
  case round =>
    obtain ⟨k, hk, rfl, ha, hB⟩ := hrel
    have HA := hidI ha
    have hBs := hB.size
    clear ha x0 x1 x2 y0 y1 y2 y3 y4 y5 y6 y7
    by_cases hlt : k < m3
    · have hkl : k < s.takers.length := by rw [HM3.out]; exact hlt
      obtain ⟨g, o, ha, hg, e1, e2⟩ := (HS.out.q3.keep hB).get hkl
      subst ha
      have HTK := hidI (fun h1 h2 => take_all_snoc (p := takerOk n2) (xs := s.takers) (k := k) hkl h1 h2)
      have HNOT := hidI (fun h2 => all_false_get (p := takerOk n2) (xs := s.takers) (k := k) hkl h2)
      obtain ⟨x, hx⟩ : ∃ x, x = s.takers[k] := ⟨_, rfl⟩
      rw [← hx] at HTK HNOT e1 e2
      obtain ⟨tq, tm⟩ := x
      dsimp only at e1 e2
      obtain ⟨p0, q0⟩ := BX.out wr hB
      obtain ⟨x0, x1, x2⟩ := pl_cells p0
      have j1 : (0 : Int) ≤ (k : Int) := by omega
      have j2 : (k : Int) < m3 := by omega
      have sk : w.heap.size < wr.heap.size := by omega
      obtain ⟨W3, hW3⟩ : ∃ W3, W3 = wr.alloc (.cells #[.int .i64 tq, .int .i64 tm] 79) := ⟨_, rfl⟩
      have HW3 := hidI hW3
      have k3 : Below W2.heap.size W2 W3 := by rw [hW3]; exact hB.alloc hBs _
      have b3 : W3.heap[wr.heap.size]? = some (.cells #[.int .i64 tq, .int .i64 tm] 79 (0, 0)) := by rw [hW3]; exact World.alloc_heap_new wr _
      have z3 : wr.heap.size + 1 = W3.heap.size := by rw [hW3]; simp
      have HZ3 := hidI z3
      have HB3 := hidI b3
      clear hx p0 q0 hW3 b3 z3
      have hcase : (tq = -1) ∨ (tq ≠ -1 ∧ tq < 0) ∨ (tq ≠ -1 ∧ ¬ tq < 0 ∧ (n2 : Int) ≤ tq) ∨ (tq ≠ -1 ∧ ¬ tq < 0 ∧ ¬ (n2 : Int) ≤ tq) := by omega
      rcases hcase with q1 | ⟨q1, q2⟩ | ⟨q1, q2, q3⟩ | ⟨q1, q2, q3⟩
      · have HBF : Hid ((decide (tq = -1) || isNum tq n2) = true) := by show (decide (tq = -1) || isNum tq n2) = true; rw [q1]; rfl
        have q1' : (tq != -1) = false := by rw [q1]; rfl
        clear q1
        go_wp2_with fail
        rw [← HW3.out]
        refine (never_no 1 [false] _ _ (by simp) (bools_newG W3 [false] HZ3.out) (by simp)).mono ?_
        rintro e w4 ⟨rfl, hw4⟩
        have l4 : Below W3.heap.size W3 w4 := by rw [hw4]; exact (Below.refl _ _).alloc (Nat.le_refl _) _
        have k4 : Below W2.heap.size W2 w4 := k3.trans (l4.mono k3.size)
        have s4 := k4.size
        have b4 := (l4.block wr.heap.size (by have := HZ3.out; omega)).trans HB3.out
        have t0 := cell_of_cells b4 0
        have t1 := cell_of_cells b4 1
        simp at t0 t1
        clear hw4 b4 l4
        go_wp2_with fail
        by_cases hm1 : tm < 1 ∨ 4 < tm
        · have HNO : Hid (s.takers.all (takerOk n2) = false) := HNOT.out (by unfold takerOk; dsimp only; rw [show decide (1 ≤ tm ∧ tm ≤ 4) = false from decide_eq_false (by omega)]; simp)
          refine (never_yes 1 [decide (tm < 1), decide (4 < tm)] _ _ (by simp) (bools_newG w4 _ rfl) (by simp; omega)).mono ?_
          rintro e w5 ⟨rfl, hw5⟩
          exact ⟨rfl, by rw [HD.out, HNO.out]; rfl, by rw [hw5]; exact hBw.trans ((k4.alloc s4 _).mono s0)⟩
        · have HOK : Hid (takerOk n2 ⟨tq, tm⟩ = true) := by show takerOk n2 ⟨tq, tm⟩ = true; unfold takerOk; dsimp only; rw [HBF.out, show decide (1 ≤ tm ∧ tm ≤ 4) = true from decide_eq_true (by omega)]; rfl
          refine (never_no 1 [decide (tm < 1), decide (4 < tm)] _ _ (by simp) (bools_newG w4 _ rfl) (by simp; omega)).mono ?_
          rintro e w5 ⟨rfl, hw5⟩
          have k5 : Below W2.heap.size W2 w5 := by rw [hw5]; exact k4.alloc s4 _
          clear hw5
          go_wp2_with fail
          go_roundw
          case rel => exact ⟨k + 1, by omega, by go_num, HTK.out HA.out HOK.out, k5⟩
          case measure => simp [intOf]; omega
      · have HBF : Hid ((decide (tq = -1) || isNum tq n2) = false) := by show (decide (tq = -1) || isNum tq n2) = false; unfold isNum; simp; omega
        have q1' : (tq != -1) = true := bne_iff_ne.2 q1
        go_wp2_with fail
        rw [← HW3.out]
        refine (never_yes 1 [true] _ _ (by simp) (bools_newG W3 [true] HZ3.out) (by simp)).mono ?_
        rintro e w4 ⟨rfl, hw4⟩
        exact ⟨rfl, by rw [HD.out, HNOT.out (by unfold takerOk; dsimp only; rw [HBF.out]; rfl)]; rfl, by rw [hw4]; exact hBw.trans ((k3.alloc k3.size _).mono s0)⟩
      · have HBF : Hid ((decide (tq = -1) || isNum tq n2) = false) := by show (decide (tq = -1) || isNum tq n2) = false; unfold isNum; simp; omega
        have q1' : (tq != -1) = true := bne_iff_ne.2 q1
        go_wp2_with fail
        rw [← HW3.out]
        refine (never_yes 1 [true] _ _ (by simp) (bools_newG W3 [true] HZ3.out) (by simp)).mono ?_
        rintro e w4 ⟨rfl, hw4⟩
        exact ⟨rfl, by rw [HD.out, HNOT.out (by unfold takerOk; dsimp only; rw [HBF.out]; rfl)]; rfl, by rw [hw4]; exact hBw.trans ((k3.alloc k3.size _).mono s0)⟩
      · have HBF : Hid ((decide (tq = -1) || isNum tq n2) = true) := by show (decide (tq = -1) || isNum tq n2) = true; unfold isNum; simp; omega
        have q1' : (tq != -1) = true := bne_iff_ne.2 q1
        go_wp2_with fail
        rw [← HW3.out]
        refine (never_no 1 [false] _ _ (by simp) (bools_newG W3 [false] HZ3.out) (by simp)).mono ?_
        rintro e w4 ⟨rfl, hw4⟩
        have l4 : Below W3.heap.size W3 w4 := by rw [hw4]; exact (Below.refl _ _).alloc (Nat.le_refl _) _
        have k4 : Below W2.heap.size W2 w4 := k3.trans (l4.mono k3.size)
        have s4 := k4.size
        have b4 := (l4.block wr.heap.size (by have := HZ3.out; omega)).trans HB3.out
        have t0 := cell_of_cells b4 0
        have t1 := cell_of_cells b4 1
        simp at t0 t1
        clear hw4 b4 l4
        go_wp2_with fail
        by_cases hm1 : tm < 1 ∨ 4 < tm
        · have HNO : Hid (s.takers.all (takerOk n2) = false) := HNOT.out (by unfold takerOk; dsimp only; rw [show decide (1 ≤ tm ∧ tm ≤ 4) = false from decide_eq_false (by omega)]; simp)
          refine (never_yes 1 [decide (tm < 1), decide (4 < tm)] _ _ (by simp) (bools_newG w4 _ rfl) (by simp; omega)).mono ?_
          rintro e w5 ⟨rfl, hw5⟩
          exact ⟨rfl, by rw [HD.out, HNO.out]; rfl, by rw [hw5]; exact hBw.trans ((k4.alloc s4 _).mono s0)⟩
        · have HOK : Hid (takerOk n2 ⟨tq, tm⟩ = true) := by show takerOk n2 ⟨tq, tm⟩ = true; unfold takerOk; dsimp only; rw [HBF.out, show decide (1 ≤ tm ∧ tm ≤ 4) = true from decide_eq_true (by omega)]; rfl
          refine (never_no 1 [decide (tm < 1), decide (4 < tm)] _ _ (by simp) (bools_newG w4 _ rfl) (by simp; omega)).mono ?_
          rintro e w5 ⟨rfl, hw5⟩
          have k5 : Below W2.heap.size W2 w5 := by rw [hw5]; exact k4.alloc s4 _
          clear hw5
          go_wp2_with fail
          go_roundw
          case rel => exact ⟨k + 1, by omega, by go_num, HTK.out HA.out HOK.out, k5⟩
          case measure => simp [intOf]; omega
    · have hke : k = m3 := by omega
      subst hke
      have HYES : Hid (s.takers.all (takerOk n2) = true) := all_of_take HM3.out (Nat.lt_irrefl _) HA.out
      clear hlt hk
      go_wp2_with fail
      go_end0
      exact ⟨by rw [HD.out, HYES.out]; rfl, hBw.trans (hB.mono s0)⟩
end Go.Proofs.Ythhkpgnjpieckaa
