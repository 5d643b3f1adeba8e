import Derived.Deep.RegionHeld3
import Derived.Deep.DeepCutAuto
import Derived.Test.YtpoichgodamnkaaXf
import Derived.Test.YtpoichgodamnkaaTm
/- Un -/
namespace Go.Proofs.Ytpoichgodamnkaa
set_option linter.unusedVariables false
set_option maxRecDepth 100000
open Go.RowKit Go.Maps

theorem elemLine : ElemT 27 49 1 24 := elemT_of Try.underlying27 Try.infoLine rfl (by omega)
theorem TypeT.of_turn {T : TypeId} {W W' : World} {t : Nat} {cur : Array Value} (h : W.heap[t]? = some (.cells cur T (0, 0))) (k : TurnB t W W') : TypeT T W W' :=
  ⟨k.size, fun i cur' T' hi hT => k.block i (lt_of_heap hi) (fun e => by rw [e, h] at hi; cases hi; exact hT rfl)⟩
theorem LinesV.snoc {W : World} {n k : Nat} {xss : List (List ItemD)} {vs : List Value} (h : LinesV W n (xss.take k) vs) (hk : k < xss.length) {v : Value} {b : Option Addr} {c : Nat} (hv : LineV W n xss[k] v b c) : LinesV W n (xss.take (k + 1)) (vs ++ [v]) := by
  have hl : (xss.take k).length = k := by rw [List.length_take]; omega
  have hvl : vs.length = k := by rw [h.len, hl]
  have e : xss.take (k + 1) = xss.take k ++ [xss[k]] := List.take_succ_eq_append_getElem hk
  refine ⟨by rw [e, List.length_append, List.length_append, h.len]; rfl, fun i hi => ?_⟩
  have hi' : i < k + 1 := by rw [e, List.length_append, hl] at hi; simpa using hi
  by_cases c1 : i < k
  · obtain ⟨u, b', c', e1, e2⟩ := h.get i (by rw [hl]; exact c1)
    refine ⟨u, b', c', by rw [List.getElem?_append_left (by omega)]; exact e1, ?_⟩
    rw [List.getElem_take] at e2 ⊢
    exact e2
  · have : i = k := by omega
    subst this
    refine ⟨v, b, c, by rw [List.getElem?_append_right (by omega), hvl]; simp, ?_⟩
    rw [List.getElem_take]
    exact hv

set_option maxRecDepth 100000 in
set_option maxHeartbeats 8000000 in
theorem ownState_any (s : StateD) (b1 b2 b3 : Option Addr) (m1 d1 m2 d2 m3 d3 : Nat) (w : World) (hs : StateAt w b1 b2 b3 m1 m2 m3 s) (hn2 : b2 = none → d2 = 0) (hn3 : b3 = none → d3 = 0) (h1 : m1 ≤ 100) (hl : ∀ l ∈ s.ready, l.length ≤ 100) (h2 : m2 ≤ 1000) (h3 : m3 ≤ 100) :
    Calls Try.prog 61 #[.agg #[.slice b1 m1 d1, .slice b2 m2 d2, .slice b3 m3 d3, .int .i64 s.nextSeq, .int .i64 s.nextTag, .int .i64 s.came, .int .i64 s.acked, .int .i64 s.dropped]] w fun e w' => ∃ v, e = .returned v ∧ OwV w' w.heap.size v s ∧ Below w.heap.size w w' := by
  obtain ⟨hz3, hg3, hB3⟩ := allocs_heap [.cells #[.slice b1 m1 d1, .slice b2 m2 d2, .slice b3 m3 d3, .int .i64 s.nextSeq, .int .i64 s.nextTag, .int .i64 s.came, .int .i64 s.acked, .int .i64 s.dropped] 31, .cells #[.slice none 0 0, .slice none 0 0, .slice none 0 0, .int .i64 0, .int .i64 0, .int .i64 0, .int .i64 0, .int .i64 0] 31, .cells #[.slice none 0 0, .slice b2 m2 d2, .slice b3 m3 d3, .int .i64 s.nextSeq, .int .i64 s.nextTag, .int .i64 s.came, .int .i64 s.acked, .int .i64 s.dropped] 31] w
  obtain ⟨W3, hW3⟩ : ∃ W3, W3 = List.foldl World.alloc w [.cells #[.slice b1 m1 d1, .slice b2 m2 d2, .slice b3 m3 d3, .int .i64 s.nextSeq, .int .i64 s.nextTag, .int .i64 s.came, .int .i64 s.acked, .int .i64 s.dropped] 31, .cells #[.slice none 0 0, .slice none 0 0, .slice none 0 0, .int .i64 0, .int .i64 0, .int .i64 0, .int .i64 0, .int .i64 0] 31, .cells #[.slice none 0 0, .slice b2 m2 d2, .slice b3 m3 d3, .int .i64 s.nextSeq, .int .i64 s.nextTag, .int .i64 s.came, .int .i64 s.acked, .int .i64 s.dropped] 31] := ⟨_, rfl⟩
  rw [← hW3] at hz3 hg3 hB3
  have HW3 : Hid (W3 = ((w.alloc (.cells #[.slice b1 m1 d1, .slice b2 m2 d2, .slice b3 m3 d3, .int .i64 s.nextSeq, .int .i64 s.nextTag, .int .i64 s.came, .int .i64 s.acked, .int .i64 s.dropped] 31)).alloc (.cells #[.slice none 0 0, .slice none 0 0, .slice none 0 0, .int .i64 0, .int .i64 0, .int .i64 0, .int .i64 0, .int .i64 0] 31)).alloc (.cells #[.slice none 0 0, .slice b2 m2 d2, .slice b3 m3 d3, .int .i64 s.nextSeq, .int .i64 s.nextTag, .int .i64 s.came, .int .i64 s.acked, .int .i64 s.dropped] 31)) := hW3
  have hz3' : W3.heap.size = w.heap.size + 3 := by rw [hz3]; rfl
  have X0 := hidI (hg3 0 _ rfl)
  have X1 := hidI (hg3 1 _ rfl)
  have X2 := hidI (hg3 2 _ rfl)
  have HZ3 := hidI hz3'
  have HB3 := hidI hB3
  have HS := hidI (hs.keep hB3)
  have HSW := hidI hs
  have HM1 : Hid (s.ready.length = m1) := hs.l1
  have HM2 : Hid (s.outs.length = m2) := hs.l2
  have HM3 : Hid (s.takers.length = m3) := hs.l3
  have HN2 := hidI hn2
  have HN3 := hidI hn3
  have HL := hidI hl
  clear hW3 hz3 hg3 hB3 hs hn2 hn3 hl hz3'
  go_enter Try.func61, Try.ntmps61
  go_wp2_with fail
  rw [← HW3.out]
  go_loopw [4] (fun i wr => ∃ (k : Nat) (aR : Option Addr) (cR : Nat) (vs : List Value), k ≤ m1 ∧ i = .int .i64 k ∧ wr.heap[w.heap.size + 2]? = some (.cells #[.slice aR k cR, .slice b2 m2 d2, .slice b3 m3 d3, .int .i64 s.nextSeq, .int .i64 s.nextTag, .int .i64 s.came, .int .i64 s.acked, .int .i64 s.dropped] 31 (0, 0)) ∧ wr.ownsRow W3.heap.size 49 1 (.slice aR k cR) k vs ∧ LinesV wr W3.heap.size (s.ready.take k) vs ∧ FrameT W3.heap.size (w.heap.size + 2) W3 wr) (fun i _ => m1 - (intOf i).toNat)
  case atStart => exact ⟨0, none, 0, [], Nat.zero_le _, rfl, X2.out, World.ownsRow_nil _ _ _ _, ⟨rfl, fun i hi => by simp at hi⟩, FrameT.refl _ _ _⟩
  case round =>
    obtain ⟨k, aR, cR, vs, hk, rfl, hb2, hrow, hlv, hfr⟩ := hrel
    have HB2 := hidI hb2
    have HROW := hidI hrow
    have HLV := hidI hlv
    have HFR := hidI hfr
    have hB3s := hfr.size
    have hx0 := (hfr.block w.heap.size (by have := HZ3.out; omega) (by omega)).trans X0.out
    have HX0 := hidI hx0
    obtain ⟨y0, y1, y2, y3, y4, y5, y6, y7⟩ := st_cells hx0
    clear hb2 hrow hlv hfr hx0
    by_cases hlt : k < m1
    · have HLT := hidI hlt
      have hkl : k < s.ready.length := by rw [HM1.out]; exact hlt
      have HKL := hidI hkl
      obtain ⟨g, o, b, c, ha, hg, hl⟩ := HSW.out.q1.get hkl
      subst ha
      have hbg : wr.heap[g]? = w.heap[g]? := (HFR.out.block g (by have := HZ3.out; omega) (by omega)).trans (HB3.out.block g hg)
      have c1 : wr.cell? ⟨g, o + k, none⟩ = some (.slice b (s.ready[k]'hkl).length c) := (World.cell?_of_block (w := w) (a := ⟨g, o + k, none⟩) hbg).trans hl.cell
      have HIT : Hid (ItemsAt wr b (s.ready[k]'hkl)) := by
        rcases hl.it with h0 | ⟨gi, oi, e, hgi, hc⟩
        · exact .inl h0
        · have hbi : wr.heap[gi]? = w.heap[gi]? := (HFR.out.block gi (by have := HZ3.out; omega) (by omega)).trans (HB3.out.block gi hgi)
          exact items_row.2 ((items_row.1 hl.it).keepBut (by have := HFR.out.size; have := HZ3.out; omega) fun gi' oi' e' => by rw [e] at e'; cases e'; exact hbi)
      have HLC : Hid (LineCell wr g (o + k) (s.ready[k]'hkl) b c) := ⟨c1, hl.le, hl.cm, hl.nil, HIT.out⟩
      obtain ⟨n, hn⟩ : ∃ n, n = (s.ready[k]'hkl).length := ⟨_, rfl⟩
      have hn100 : n ≤ 100 := by rw [hn]; exact HL.out _ (List.getElem_mem hkl)
      have HNN := hidI hn
      have HLN : Hid ((itemCells (s.ready[k]'hkl)).length = n * 5) := by show _ = _; rw [itemCells_len, hn]
      have HLZ : Hid (b = none → c = 0 ∧ n = 0) := fun e => ⟨hl.nil e, by have := hl.nil e; have := hl.le; omega⟩
      rw [← hn] at c1
      have j1 : (0 : Int) ≤ (k : Int) := by omega
      have j2 : (k : Int) < m1 := by omega
      have SX : Hid (∀ W', FrameT W3.heap.size (w.heap.size + 2) wr W' → W'.cell? ⟨w.heap.size, 0, none⟩ = some (.slice (some ⟨g, o, none⟩) m1 d1) ∧ W'.cell? ⟨g, o + k, none⟩ = some (.slice b n c)) := fun W' hW' => ⟨(World.cell?_of_block (w := wr) (a := ⟨w.heap.size, 0, none⟩) (hW'.block w.heap.size (by have := HZ3.out; omega) (by omega))).trans y0, (World.cell?_of_block (w := wr) (a := ⟨g, o + k, none⟩) (hW'.block g (by have := HZ3.out; omega) (by omega))).trans c1⟩
      have hgw : g < wr.heap.size := by have := HZ3.out; omega
      clear hl hn hbg
      go_wp2_with fail
      refine wp_region_held_drew (S := fun W' => W'.cell? ⟨w.heap.size, 0, none⟩ = some (.slice (some ⟨g, o, none⟩) m1 d1) ∧ W'.cell? ⟨g, o + k, none⟩ = some (.slice b n c)) (by kernel_rfl) (SX.out _ (FrameT.refl _ _ _).drew) (fun hHeld => ?_)
      obtain ⟨wd, hwd⟩ : ∃ wd, wd = wr.drew := ⟨_, rfl⟩
      have Lwd : Hid (Below wr.heap.size wr wd) := by show Below wr.heap.size wr wd; rw [hwd]; exact (Below.refl _ _).drew
      rw [← hwd] at hHeld ⊢
      clear hwd
      (refine wpAnyH_take (i := 0) (v := ?_) rfl (by kernel_rfl) (by kernel_rfl) (by kernel_rfl) (fun _ _ _ h => h) (Or.inl ⟨by kernel_rfl, ?_⟩) (by assumption) ?_; rotate_left; (focus (intro w hSw; (try dsimp only at hSw); go_simp; (try with_reducible rfl))); (try simp only [Act.put, List.getElem_toArray, List.getElem_cons_zero, List.setIfInBounds_toArray, List.set_cons_zero, List.set_cons_succ]))
      (refine wpAnyH_take (i := 3) (v := ?_) rfl (by kernel_rfl) (by kernel_rfl) (by kernel_rfl) (fun _ _ _ h => h) (Or.inl ⟨by kernel_rfl, ?_⟩) (by assumption) ?_; rotate_left; (focus (intro w hSw; (try dsimp only at hSw); go_simp; (try with_reducible rfl))); (try simp only [Act.put, List.getElem_toArray, List.getElem_cons_succ, List.getElem_cons_zero, List.setIfInBounds_toArray, List.set_cons_zero, List.set_cons_succ]))
      (refine wpAnyH_take (i := 4) (v := ?_) rfl (by kernel_rfl) (by kernel_rfl) (by kernel_rfl) (fun _ _ _ h => h) (Or.inl ⟨by kernel_rfl, ?_⟩) (by assumption) ?_; rotate_left; (focus (intro w hSw; (try dsimp only at hSw); go_simp; (try with_reducible rfl))); (try simp only [Act.put, List.getElem_toArray, List.getElem_cons_succ, List.getElem_cons_zero, List.setIfInBounds_toArray, List.set_cons_zero, List.set_cons_succ]))
      (refine wpAnyH_take (i := 5) (v := ?_) rfl (by kernel_rfl) (by kernel_rfl) (by kernel_rfl) (fun _ _ _ h => h) (Or.inl ⟨by kernel_rfl, ?_⟩) (by assumption) ?_; rotate_left; (focus (intro w hSw; (try dsimp only at hSw); go_simp; (try with_reducible rfl))); (try simp only [Act.put, List.getElem_toArray, List.getElem_cons_succ, List.getElem_cons_zero, List.setIfInBounds_toArray, List.set_cons_zero, List.set_cons_succ]))
      (refine wpAnyH_take (i := 6) (v := ?_) rfl (by kernel_rfl) (by kernel_rfl) (by kernel_rfl) (fun _ _ _ h => h) (Or.inl ⟨by kernel_rfl, ?_⟩) (by assumption) ?_; rotate_left; (focus (intro w hSw; (try dsimp only at hSw); go_simp; (try with_reducible rfl))); (try simp only [Act.put, List.getElem_toArray, List.getElem_cons_succ, List.getElem_cons_zero, List.setIfInBounds_toArray, List.set_cons_zero, List.set_cons_succ]))
      (refine wpAnyH_take (i := 7) (v := ?_) rfl (by kernel_rfl) (by kernel_rfl) (by kernel_rfl) (fun _ _ _ h => h) (Or.inl ⟨by kernel_rfl, ?_⟩) (by assumption) ?_; rotate_left; (focus (intro w hSw; (try dsimp only at hSw); go_simp; (try with_reducible rfl))); (try simp only [Act.put, List.getElem_toArray, List.getElem_cons_succ, List.getElem_cons_zero, List.setIfInBounds_toArray, List.set_cons_zero, List.set_cons_succ]))
      refine wpAnyH_ready (rs := [1, 2]) (by kernel_rfl) (by simp) ?_
      refine AllReadyH.cons rfl (fun K hK => ?_) (AllReadyH.cons rfl (fun K hK => ?_) AllReadyH.nil)
      · have e1 := cell_of_cells (plan_keep HB2.out Lwd.out) 0
        simp at e1
        go_simp
        refine hK.out _ _ (SX.out _ (FrameT.of_below Lwd.out hB3s)) (fun hH0 => ?_)
        clear hK K e1
        (try simp only [Act.put, List.getElem_toArray, List.getElem_cons_succ, List.getElem_cons_zero, List.setIfInBounds_toArray, List.set_cons_zero, List.set_cons_succ])
        refine wpAnyH_ready (rs := [2]) (by kernel_rfl) (by simp) ?_
        refine AllReadyH.cons rfl (fun K hK => ?_) AllReadyH.nil
        go_simp
        obtain ⟨wA, hwA⟩ : ∃ wA, wA = wd.alloc (.cells #[] 51) := ⟨_, rfl⟩
        have oA : wA.ownsRow wr.heap.size 51 5 (.slice (some ⟨wd.heap.size, 0, none⟩) 0 0) 0 [] := by rw [hwA]; exact World.ownsRow_made _ #[] 0 (Lwd.out.size) (Nat.zero_le _) rfl
        have LwA : Hid (Below wr.heap.size wr wA) := by show Below wr.heap.size wr wA; rw [hwA]; exact Lwd.out.alloc Lwd.out.size _
        rw [← hwA]
        refine hK.out _ _ (SX.out _ (FrameT.of_below LwA.out hB3s)) (fun hH1 => ?_)
        clear hK K hwA
        (try simp only [Act.put, List.getElem_toArray, List.getElem_cons_succ, List.getElem_cons_zero, List.setIfInBounds_toArray, List.set_cons_zero, List.set_cons_succ])
        refine wpAnyH_ready (rs := [8]) (by kernel_rfl) (by simp) ?_
        refine AllReadyH.cons rfl (fun K hK => ?_) AllReadyH.nil
        refine step_append_row elemItem (by kernel_rfl) _ _ rfl wr.heap.size _ 0 [] rfl oA b n c (itemCells (s.ready[k]'HKL.out)) rfl HLN.out HLZ.out ((items_row.1 HLC.out.it).keep LwA.out) (itemCells_one _) (by unfold maxLen; omega) (by omega) LwA.out.size ?_
        intro v8 w8 o8 g8 _
        have Lw8 : Hid (Below wr.heap.size wr w8) := LwA.out.grown g8 LwA.out.size (fun i hi => (oA.lt i hi).1)
        refine hK.out _ _ (SX.out _ (FrameT.of_below Lw8.out hB3s)) (fun hH2 => ?_)
        clear hK K
        (try simp only [Act.put, List.getElem_toArray, List.getElem_cons_succ, List.getElem_cons_zero, List.setIfInBounds_toArray, List.set_cons_zero, List.set_cons_succ])
        rw [Nat.zero_add, List.nil_append] at o8
        obtain ⟨b8, c8, hv8, hn8⟩ := line_of_own o8 (Nat.le_refl _)
        have he8 := hv8.v
        subst he8
        refine wpAnyH_ready (rs := [9]) (by kernel_rfl) (by simp) ?_
        refine AllReadyH.cons rfl (fun K hK => ?_) AllReadyH.nil
        go_simp
        obtain ⟨w9, hw9⟩ : ∃ w9, w9 = w8.alloc (.cells #[.slice b8 (s.ready[k]'HKL.out).length c8] 49) := ⟨_, rfl⟩
        have l9 : Below w8.heap.size w8 w9 := by rw [hw9]; exact (Below.refl _ _).alloc (Nat.le_refl _) _
        have x9 : w9.heap[w8.heap.size]? = some (.cells #[.slice b8 (s.ready[k]'HKL.out).length c8] 49 (0, 0)) := by rw [hw9]; exact World.alloc_heap_new w8 _
        have Lw9 : Hid (Below wr.heap.size wr w9) := Lw8.out.trans (l9.mono Lw8.out.size)
        rw [← hw9]
        refine hK.out _ _ (SX.out _ (FrameT.of_below Lw9.out hB3s)) (fun hH3 => ?_)
        clear hK K hw9
        (try simp only [Act.put, List.getElem_toArray, List.getElem_cons_succ, List.getElem_cons_zero, List.setIfInBounds_toArray, List.set_cons_zero, List.set_cons_succ])
        refine wpAnyH_ready (rs := [10]) (by kernel_rfl) (by simp) ?_
        refine AllReadyH.cons rfl (fun K hK => ?_) AllReadyH.nil
        refine step_append_row elemLine (by kernel_rfl) _ _ rfl W3.heap.size _ k vs rfl (copied_two HROW.out Lw9.out) (some ⟨w8.heap.size, 0, none⟩) 1 1 [.slice b8 (s.ready[k]'HKL.out).length c8] rfl rfl (fun h => by cases h) (.inr ⟨_, 0, rfl, lt_of_heap x9, fun i u hi => by rw [Nat.zero_add]; refine Eq.trans (cell_of_cells x9 i) ?_; simpa using hi⟩) (fun u hu => by rw [List.mem_singleton.1 hu]; rfl) (by unfold maxLen; omega) (by omega) (Nat.le_trans hB3s Lw9.out.size) ?_
        intro v10 w10 o10 g10 _
        have k10 := TypeT.grown (copied_two HROW.out Lw9.out) g10
        have f10 : FrameT W3.heap.size (w.heap.size + 2) wr w10 := (FrameT.of_below Lw9.out hB3s).grown g10 (Nat.le_trans hB3s Lw9.out.size) (fun i hi => ((copied_two HROW.out Lw9.out).lt i hi).1)
        refine hK.out _ _ (SX.out _ f10) (fun hH10 => ?_)
        clear hK K
        (try simp only [Act.put, List.getElem_toArray, List.getElem_cons_succ, List.getElem_cons_zero, List.setIfInBounds_toArray, List.set_cons_zero, List.set_cons_succ])
        obtain ⟨a10, c10, rfl, -⟩ := own_row o10
        have b10 := (k10.block _ _ _ (plan_keep HB2.out Lw9.out) (by decide)).trans (plan_keep HB2.out Lw9.out)
        have e10 := cell_of_cells b10 0
        have g10' := free_of_cells b10 0
        simp at e10
        (refine wpAnyH_take (i := 11) (v := ?_) rfl (by kernel_rfl) (by kernel_rfl) (by kernel_rfl) (fun _ _ _ h => h) (Or.inl ⟨by kernel_rfl, ?_⟩) (by assumption) ?_; rotate_left; (focus (intro w hSw; (try dsimp only at hSw); go_simp; (try with_reducible rfl))); (try simp only [Act.put, List.getElem_toArray, List.getElem_cons_succ, List.getElem_cons_zero, List.setIfInBounds_toArray, List.set_cons_zero, List.set_cons_succ]))
        refine wpAnyH_ready (rs := [12]) (by kernel_rfl) (by simp) ?_
        refine AllReadyH.cons rfl (fun K hK => ?_) AllReadyH.nil
        go_simp
        have k11 : TypeT 31 w10 (w10.setCell ⟨w.heap.size + 2, 0, none⟩ (.slice a10 (k + 1) c10)) := TypeT.setCell b10 _
        have b11 := setCell_block b10 (j := 0) (.slice a10 (k + 1) c10)
        have f11 := f10.setCell (p := ⟨w.heap.size + 2, 0, none⟩) (.inr rfl) (.slice a10 (k + 1) c10)
        have o11 := k11.row o10 (by decide)
        have lv9 : LineV w9 W3.heap.size (s.ready[k]'HKL.out) (.slice b8 (s.ready[k]'HKL.out).length c8) b8 c8 := (⟨hv8.v, hv8.le, hv8.cm, hv8.nil, hv8.it, hv8.own.lower hB3s⟩ : LineV w8 W3.heap.size (s.ready[k]'HKL.out) (.slice b8 (s.ready[k]'HKL.out).length c8) b8 c8).keep l9
        have lv11 := (lv9.keepT (k10.keepI (by decide))).keepT (k11.keepI (by decide))
        have ls11 := ((HLV.out.keep Lw9.out).keepT (k10.keepI (by decide))).keepT (k11.keepI (by decide))
        have ls12 := ls11.snoc HKL.out lv11
        have RL := hidI (And.intro b11 (And.intro o11 (And.intro ls12 f11)))
        refine hK.out _ _ (SX.out _ f11) (fun hH12 => ?_)
        clear hK K
        refine wpAnyH_done (by kernel_rfl) ?_ _
        go_wp2_with fail
        go_roundw
        case rel => exact ⟨k + 1, a10, c10, vs ++ [.slice b8 (s.ready[k]'HKL.out).length c8], HLT.out, by have := HLT.out; go_num, RL.out.1, RL.out.2.1, RL.out.2.2.1, HFR.out.trans RL.out.2.2.2⟩
        case measure => have := HLT.out; simp [intOf]; omega
      · go_simp
        obtain ⟨wA, hwA⟩ : ∃ wA, wA = wd.alloc (.cells #[] 51) := ⟨_, rfl⟩
        have oA : wA.ownsRow wr.heap.size 51 5 (.slice (some ⟨wd.heap.size, 0, none⟩) 0 0) 0 [] := by rw [hwA]; exact World.ownsRow_made _ #[] 0 (Lwd.out.size) (Nat.zero_le _) rfl
        have LwA : Hid (Below wr.heap.size wr wA) := by show Below wr.heap.size wr wA; rw [hwA]; exact Lwd.out.alloc Lwd.out.size _
        rw [← hwA]
        refine hK.out _ _ (SX.out _ (FrameT.of_below LwA.out hB3s)) (fun hH0 => ?_)
        clear hK K hwA
        (try simp only [Act.put, List.getElem_toArray, List.getElem_cons_succ, List.getElem_cons_zero, List.setIfInBounds_toArray, List.set_cons_zero, List.set_cons_succ])
        refine wpAnyH_ready (rs := [1, 8]) (by kernel_rfl) (by simp) ?_
        refine AllReadyH.cons rfl (fun K hK => ?_) (AllReadyH.cons rfl (fun K hK => ?_) AllReadyH.nil)
        · have e1 := cell_of_cells (plan_keep HB2.out LwA.out) 0
          simp at e1
          go_simp
          refine hK.out _ _ (SX.out _ (FrameT.of_below LwA.out hB3s)) (fun hH1 => ?_)
          clear hK K e1
          (try simp only [Act.put, List.getElem_toArray, List.getElem_cons_succ, List.getElem_cons_zero, List.setIfInBounds_toArray, List.set_cons_zero, List.set_cons_succ])
          refine wpAnyH_ready (rs := [8]) (by kernel_rfl) (by simp) ?_
          refine AllReadyH.cons rfl (fun K hK => ?_) AllReadyH.nil
          refine step_append_row elemItem (by kernel_rfl) _ _ rfl wr.heap.size _ 0 [] rfl oA b n c (itemCells (s.ready[k]'HKL.out)) rfl HLN.out HLZ.out ((items_row.1 HLC.out.it).keep LwA.out) (itemCells_one _) (by unfold maxLen; omega) (by omega) LwA.out.size ?_
          intro v8 w8 o8 g8 _
          have Lw8 : Hid (Below wr.heap.size wr w8) := LwA.out.grown g8 LwA.out.size (fun i hi => (oA.lt i hi).1)
          refine hK.out _ _ (SX.out _ (FrameT.of_below Lw8.out hB3s)) (fun hH2 => ?_)
          clear hK K
          (try simp only [Act.put, List.getElem_toArray, List.getElem_cons_succ, List.getElem_cons_zero, List.setIfInBounds_toArray, List.set_cons_zero, List.set_cons_succ])
          rw [Nat.zero_add, List.nil_append] at o8
          obtain ⟨b8, c8, hv8, hn8⟩ := line_of_own o8 (Nat.le_refl _)
          have he8 := hv8.v
          subst he8
          refine wpAnyH_ready (rs := [9]) (by kernel_rfl) (by simp) ?_
          refine AllReadyH.cons rfl (fun K hK => ?_) AllReadyH.nil
          go_simp
          obtain ⟨w9, hw9⟩ : ∃ w9, w9 = w8.alloc (.cells #[.slice b8 (s.ready[k]'HKL.out).length c8] 49) := ⟨_, rfl⟩
          have l9 : Below w8.heap.size w8 w9 := by rw [hw9]; exact (Below.refl _ _).alloc (Nat.le_refl _) _
          have x9 : w9.heap[w8.heap.size]? = some (.cells #[.slice b8 (s.ready[k]'HKL.out).length c8] 49 (0, 0)) := by rw [hw9]; exact World.alloc_heap_new w8 _
          have Lw9 : Hid (Below wr.heap.size wr w9) := Lw8.out.trans (l9.mono Lw8.out.size)
          rw [← hw9]
          refine hK.out _ _ (SX.out _ (FrameT.of_below Lw9.out hB3s)) (fun hH3 => ?_)
          clear hK K hw9
          (try simp only [Act.put, List.getElem_toArray, List.getElem_cons_succ, List.getElem_cons_zero, List.setIfInBounds_toArray, List.set_cons_zero, List.set_cons_succ])
          refine wpAnyH_ready (rs := [10]) (by kernel_rfl) (by simp) ?_
          refine AllReadyH.cons rfl (fun K hK => ?_) AllReadyH.nil
          refine step_append_row elemLine (by kernel_rfl) _ _ rfl W3.heap.size _ k vs rfl (copied_two HROW.out Lw9.out) (some ⟨w8.heap.size, 0, none⟩) 1 1 [.slice b8 (s.ready[k]'HKL.out).length c8] rfl rfl (fun h => by cases h) (.inr ⟨_, 0, rfl, lt_of_heap x9, fun i u hi => by rw [Nat.zero_add]; refine Eq.trans (cell_of_cells x9 i) ?_; simpa using hi⟩) (fun u hu => by rw [List.mem_singleton.1 hu]; rfl) (by unfold maxLen; omega) (by omega) (Nat.le_trans hB3s Lw9.out.size) ?_
          intro v10 w10 o10 g10 _
          have k10 := TypeT.grown (copied_two HROW.out Lw9.out) g10
          have f10 : FrameT W3.heap.size (w.heap.size + 2) wr w10 := (FrameT.of_below Lw9.out hB3s).grown g10 (Nat.le_trans hB3s Lw9.out.size) (fun i hi => ((copied_two HROW.out Lw9.out).lt i hi).1)
          refine hK.out _ _ (SX.out _ f10) (fun hH10 => ?_)
          clear hK K
          (try simp only [Act.put, List.getElem_toArray, List.getElem_cons_succ, List.getElem_cons_zero, List.setIfInBounds_toArray, List.set_cons_zero, List.set_cons_succ])
          obtain ⟨a10, c10, rfl, -⟩ := own_row o10
          have b10 := (k10.block _ _ _ (plan_keep HB2.out Lw9.out) (by decide)).trans (plan_keep HB2.out Lw9.out)
          have e10 := cell_of_cells b10 0
          have g10' := free_of_cells b10 0
          simp at e10
          (refine wpAnyH_take (i := 11) (v := ?_) rfl (by kernel_rfl) (by kernel_rfl) (by kernel_rfl) (fun _ _ _ h => h) (Or.inl ⟨by kernel_rfl, ?_⟩) (by assumption) ?_; rotate_left; (focus (intro w hSw; (try dsimp only at hSw); go_simp; (try with_reducible rfl))); (try simp only [Act.put, List.getElem_toArray, List.getElem_cons_succ, List.getElem_cons_zero, List.setIfInBounds_toArray, List.set_cons_zero, List.set_cons_succ]))
          refine wpAnyH_ready (rs := [12]) (by kernel_rfl) (by simp) ?_
          refine AllReadyH.cons rfl (fun K hK => ?_) AllReadyH.nil
          go_simp
          have k11 : TypeT 31 w10 (w10.setCell ⟨w.heap.size + 2, 0, none⟩ (.slice a10 (k + 1) c10)) := TypeT.setCell b10 _
          have b11 := setCell_block b10 (j := 0) (.slice a10 (k + 1) c10)
          have f11 := f10.setCell (p := ⟨w.heap.size + 2, 0, none⟩) (.inr rfl) (.slice a10 (k + 1) c10)
          have o11 := k11.row o10 (by decide)
          have lv9 : LineV w9 W3.heap.size (s.ready[k]'HKL.out) (.slice b8 (s.ready[k]'HKL.out).length c8) b8 c8 := (⟨hv8.v, hv8.le, hv8.cm, hv8.nil, hv8.it, hv8.own.lower hB3s⟩ : LineV w8 W3.heap.size (s.ready[k]'HKL.out) (.slice b8 (s.ready[k]'HKL.out).length c8) b8 c8).keep l9
          have lv11 := (lv9.keepT (k10.keepI (by decide))).keepT (k11.keepI (by decide))
          have ls11 := ((HLV.out.keep Lw9.out).keepT (k10.keepI (by decide))).keepT (k11.keepI (by decide))
          have ls12 := ls11.snoc HKL.out lv11
          have RL := hidI (And.intro b11 (And.intro o11 (And.intro ls12 f11)))
          refine hK.out _ _ (SX.out _ f11) (fun hH12 => ?_)
          clear hK K
          refine wpAnyH_done (by kernel_rfl) ?_ _
          go_wp2_with fail
          go_roundw
          case rel => exact ⟨k + 1, a10, c10, vs ++ [.slice b8 (s.ready[k]'HKL.out).length c8], HLT.out, by have := HLT.out; go_num, RL.out.1, RL.out.2.1, RL.out.2.2.1, HFR.out.trans RL.out.2.2.2⟩
          case measure => have := HLT.out; simp [intOf]; omega
        · refine step_append_row elemItem (by kernel_rfl) _ _ rfl wr.heap.size _ 0 [] rfl oA b n c (itemCells (s.ready[k]'HKL.out)) rfl HLN.out HLZ.out ((items_row.1 HLC.out.it).keep LwA.out) (itemCells_one _) (by unfold maxLen; omega) (by omega) LwA.out.size ?_
          intro v8 w8 o8 g8 _
          have Lw8 : Hid (Below wr.heap.size wr w8) := LwA.out.grown g8 LwA.out.size (fun i hi => (oA.lt i hi).1)
          refine hK.out _ _ (SX.out _ (FrameT.of_below Lw8.out hB3s)) (fun hH1 => ?_)
          clear hK K
          (try simp only [Act.put, List.getElem_toArray, List.getElem_cons_succ, List.getElem_cons_zero, List.setIfInBounds_toArray, List.set_cons_zero, List.set_cons_succ])
          rw [Nat.zero_add, List.nil_append] at o8
          obtain ⟨b8, c8, hv8, hn8⟩ := line_of_own o8 (Nat.le_refl _)
          have he8 := hv8.v
          subst he8
          refine wpAnyH_ready (rs := [1, 9]) (by kernel_rfl) (by simp) ?_
          refine AllReadyH.cons rfl (fun K hK => ?_) (AllReadyH.cons rfl (fun K hK => ?_) AllReadyH.nil)
          · have e1 := cell_of_cells (plan_keep HB2.out Lw8.out) 0
            simp at e1
            go_simp
            refine hK.out _ _ (SX.out _ (FrameT.of_below Lw8.out hB3s)) (fun hH2 => ?_)
            clear hK K e1
            (try simp only [Act.put, List.getElem_toArray, List.getElem_cons_succ, List.getElem_cons_zero, List.setIfInBounds_toArray, List.set_cons_zero, List.set_cons_succ])
            refine wpAnyH_ready (rs := [9]) (by kernel_rfl) (by simp) ?_
            refine AllReadyH.cons rfl (fun K hK => ?_) AllReadyH.nil
            go_simp
            obtain ⟨w9, hw9⟩ : ∃ w9, w9 = w8.alloc (.cells #[.slice b8 (s.ready[k]'HKL.out).length c8] 49) := ⟨_, rfl⟩
            have l9 : Below w8.heap.size w8 w9 := by rw [hw9]; exact (Below.refl _ _).alloc (Nat.le_refl _) _
            have x9 : w9.heap[w8.heap.size]? = some (.cells #[.slice b8 (s.ready[k]'HKL.out).length c8] 49 (0, 0)) := by rw [hw9]; exact World.alloc_heap_new w8 _
            have Lw9 : Hid (Below wr.heap.size wr w9) := Lw8.out.trans (l9.mono Lw8.out.size)
            rw [← hw9]
            refine hK.out _ _ (SX.out _ (FrameT.of_below Lw9.out hB3s)) (fun hH3 => ?_)
            clear hK K hw9
            (try simp only [Act.put, List.getElem_toArray, List.getElem_cons_succ, List.getElem_cons_zero, List.setIfInBounds_toArray, List.set_cons_zero, List.set_cons_succ])
            refine wpAnyH_ready (rs := [10]) (by kernel_rfl) (by simp) ?_
            refine AllReadyH.cons rfl (fun K hK => ?_) AllReadyH.nil
            refine step_append_row elemLine (by kernel_rfl) _ _ rfl W3.heap.size _ k vs rfl (copied_two HROW.out Lw9.out) (some ⟨w8.heap.size, 0, none⟩) 1 1 [.slice b8 (s.ready[k]'HKL.out).length c8] rfl rfl (fun h => by cases h) (.inr ⟨_, 0, rfl, lt_of_heap x9, fun i u hi => by rw [Nat.zero_add]; refine Eq.trans (cell_of_cells x9 i) ?_; simpa using hi⟩) (fun u hu => by rw [List.mem_singleton.1 hu]; rfl) (by unfold maxLen; omega) (by omega) (Nat.le_trans hB3s Lw9.out.size) ?_
            intro v10 w10 o10 g10 _
            have k10 := TypeT.grown (copied_two HROW.out Lw9.out) g10
            have f10 : FrameT W3.heap.size (w.heap.size + 2) wr w10 := (FrameT.of_below Lw9.out hB3s).grown g10 (Nat.le_trans hB3s Lw9.out.size) (fun i hi => ((copied_two HROW.out Lw9.out).lt i hi).1)
            refine hK.out _ _ (SX.out _ f10) (fun hH10 => ?_)
            clear hK K
            (try simp only [Act.put, List.getElem_toArray, List.getElem_cons_succ, List.getElem_cons_zero, List.setIfInBounds_toArray, List.set_cons_zero, List.set_cons_succ])
            obtain ⟨a10, c10, rfl, -⟩ := own_row o10
            have b10 := (k10.block _ _ _ (plan_keep HB2.out Lw9.out) (by decide)).trans (plan_keep HB2.out Lw9.out)
            have e10 := cell_of_cells b10 0
            have g10' := free_of_cells b10 0
            simp at e10
            (refine wpAnyH_take (i := 11) (v := ?_) rfl (by kernel_rfl) (by kernel_rfl) (by kernel_rfl) (fun _ _ _ h => h) (Or.inl ⟨by kernel_rfl, ?_⟩) (by assumption) ?_; rotate_left; (focus (intro w hSw; (try dsimp only at hSw); go_simp; (try with_reducible rfl))); (try simp only [Act.put, List.getElem_toArray, List.getElem_cons_succ, List.getElem_cons_zero, List.setIfInBounds_toArray, List.set_cons_zero, List.set_cons_succ]))
            refine wpAnyH_ready (rs := [12]) (by kernel_rfl) (by simp) ?_
            refine AllReadyH.cons rfl (fun K hK => ?_) AllReadyH.nil
            go_simp
            have k11 : TypeT 31 w10 (w10.setCell ⟨w.heap.size + 2, 0, none⟩ (.slice a10 (k + 1) c10)) := TypeT.setCell b10 _
            have b11 := setCell_block b10 (j := 0) (.slice a10 (k + 1) c10)
            have f11 := f10.setCell (p := ⟨w.heap.size + 2, 0, none⟩) (.inr rfl) (.slice a10 (k + 1) c10)
            have o11 := k11.row o10 (by decide)
            have lv9 : LineV w9 W3.heap.size (s.ready[k]'HKL.out) (.slice b8 (s.ready[k]'HKL.out).length c8) b8 c8 := (⟨hv8.v, hv8.le, hv8.cm, hv8.nil, hv8.it, hv8.own.lower hB3s⟩ : LineV w8 W3.heap.size (s.ready[k]'HKL.out) (.slice b8 (s.ready[k]'HKL.out).length c8) b8 c8).keep l9
            have lv11 := (lv9.keepT (k10.keepI (by decide))).keepT (k11.keepI (by decide))
            have ls11 := ((HLV.out.keep Lw9.out).keepT (k10.keepI (by decide))).keepT (k11.keepI (by decide))
            have ls12 := ls11.snoc HKL.out lv11
            have RL := hidI (And.intro b11 (And.intro o11 (And.intro ls12 f11)))
            refine hK.out _ _ (SX.out _ f11) (fun hH12 => ?_)
            clear hK K
            refine wpAnyH_done (by kernel_rfl) ?_ _
            go_wp2_with fail
            go_roundw
            case rel => exact ⟨k + 1, a10, c10, vs ++ [.slice b8 (s.ready[k]'HKL.out).length c8], HLT.out, by have := HLT.out; go_num, RL.out.1, RL.out.2.1, RL.out.2.2.1, HFR.out.trans RL.out.2.2.2⟩
            case measure => have := HLT.out; simp [intOf]; omega
          · go_simp
            obtain ⟨w9, hw9⟩ : ∃ w9, w9 = w8.alloc (.cells #[.slice b8 (s.ready[k]'HKL.out).length c8] 49) := ⟨_, rfl⟩
            have l9 : Below w8.heap.size w8 w9 := by rw [hw9]; exact (Below.refl _ _).alloc (Nat.le_refl _) _
            have x9 : w9.heap[w8.heap.size]? = some (.cells #[.slice b8 (s.ready[k]'HKL.out).length c8] 49 (0, 0)) := by rw [hw9]; exact World.alloc_heap_new w8 _
            have Lw9 : Hid (Below wr.heap.size wr w9) := Lw8.out.trans (l9.mono Lw8.out.size)
            rw [← hw9]
            refine hK.out _ _ (SX.out _ (FrameT.of_below Lw9.out hB3s)) (fun hH2 => ?_)
            clear hK K hw9
            (try simp only [Act.put, List.getElem_toArray, List.getElem_cons_succ, List.getElem_cons_zero, List.setIfInBounds_toArray, List.set_cons_zero, List.set_cons_succ])
            refine wpAnyH_ready (rs := [1]) (by kernel_rfl) (by simp) ?_
            refine AllReadyH.cons rfl (fun K hK => ?_) AllReadyH.nil
            have e1 := cell_of_cells (plan_keep HB2.out Lw9.out) 0
            simp at e1
            go_simp
            refine hK.out _ _ (SX.out _ (FrameT.of_below Lw9.out hB3s)) (fun hH3 => ?_)
            clear hK K e1
            (try simp only [Act.put, List.getElem_toArray, List.getElem_cons_succ, List.getElem_cons_zero, List.setIfInBounds_toArray, List.set_cons_zero, List.set_cons_succ])
            refine wpAnyH_ready (rs := [10]) (by kernel_rfl) (by simp) ?_
            refine AllReadyH.cons rfl (fun K hK => ?_) AllReadyH.nil
            refine step_append_row elemLine (by kernel_rfl) _ _ rfl W3.heap.size _ k vs rfl (copied_two HROW.out Lw9.out) (some ⟨w8.heap.size, 0, none⟩) 1 1 [.slice b8 (s.ready[k]'HKL.out).length c8] rfl rfl (fun h => by cases h) (.inr ⟨_, 0, rfl, lt_of_heap x9, fun i u hi => by rw [Nat.zero_add]; refine Eq.trans (cell_of_cells x9 i) ?_; simpa using hi⟩) (fun u hu => by rw [List.mem_singleton.1 hu]; rfl) (by unfold maxLen; omega) (by omega) (Nat.le_trans hB3s Lw9.out.size) ?_
            intro v10 w10 o10 g10 _
            have k10 := TypeT.grown (copied_two HROW.out Lw9.out) g10
            have f10 : FrameT W3.heap.size (w.heap.size + 2) wr w10 := (FrameT.of_below Lw9.out hB3s).grown g10 (Nat.le_trans hB3s Lw9.out.size) (fun i hi => ((copied_two HROW.out Lw9.out).lt i hi).1)
            refine hK.out _ _ (SX.out _ f10) (fun hH10 => ?_)
            clear hK K
            (try simp only [Act.put, List.getElem_toArray, List.getElem_cons_succ, List.getElem_cons_zero, List.setIfInBounds_toArray, List.set_cons_zero, List.set_cons_succ])
            obtain ⟨a10, c10, rfl, -⟩ := own_row o10
            have b10 := (k10.block _ _ _ (plan_keep HB2.out Lw9.out) (by decide)).trans (plan_keep HB2.out Lw9.out)
            have e10 := cell_of_cells b10 0
            have g10' := free_of_cells b10 0
            simp at e10
            (refine wpAnyH_take (i := 11) (v := ?_) rfl (by kernel_rfl) (by kernel_rfl) (by kernel_rfl) (fun _ _ _ h => h) (Or.inl ⟨by kernel_rfl, ?_⟩) (by assumption) ?_; rotate_left; (focus (intro w hSw; (try dsimp only at hSw); go_simp; (try with_reducible rfl))); (try simp only [Act.put, List.getElem_toArray, List.getElem_cons_succ, List.getElem_cons_zero, List.setIfInBounds_toArray, List.set_cons_zero, List.set_cons_succ]))
            refine wpAnyH_ready (rs := [12]) (by kernel_rfl) (by simp) ?_
            refine AllReadyH.cons rfl (fun K hK => ?_) AllReadyH.nil
            go_simp
            have k11 : TypeT 31 w10 (w10.setCell ⟨w.heap.size + 2, 0, none⟩ (.slice a10 (k + 1) c10)) := TypeT.setCell b10 _
            have b11 := setCell_block b10 (j := 0) (.slice a10 (k + 1) c10)
            have f11 := f10.setCell (p := ⟨w.heap.size + 2, 0, none⟩) (.inr rfl) (.slice a10 (k + 1) c10)
            have o11 := k11.row o10 (by decide)
            have lv9 : LineV w9 W3.heap.size (s.ready[k]'HKL.out) (.slice b8 (s.ready[k]'HKL.out).length c8) b8 c8 := (⟨hv8.v, hv8.le, hv8.cm, hv8.nil, hv8.it, hv8.own.lower hB3s⟩ : LineV w8 W3.heap.size (s.ready[k]'HKL.out) (.slice b8 (s.ready[k]'HKL.out).length c8) b8 c8).keep l9
            have lv11 := (lv9.keepT (k10.keepI (by decide))).keepT (k11.keepI (by decide))
            have ls11 := ((HLV.out.keep Lw9.out).keepT (k10.keepI (by decide))).keepT (k11.keepI (by decide))
            have ls12 := ls11.snoc HKL.out lv11
            have RL := hidI (And.intro b11 (And.intro o11 (And.intro ls12 f11)))
            refine hK.out _ _ (SX.out _ f11) (fun hH12 => ?_)
            clear hK K
            refine wpAnyH_done (by kernel_rfl) ?_ _
            go_wp2_with fail
            go_roundw
            case rel => exact ⟨k + 1, a10, c10, vs ++ [.slice b8 (s.ready[k]'HKL.out).length c8], HLT.out, by have := HLT.out; go_num, RL.out.1, RL.out.2.1, RL.out.2.2.1, HFR.out.trans RL.out.2.2.2⟩
            case measure => have := HLT.out; simp [intOf]; omega
    · have hke : m1 = k := by omega
      subst hke
      have EX : Hid (∀ W', FrameT W3.heap.size (w.heap.size + 2) wr W' → W'.heap[w.heap.size]? = some (.cells #[.slice b1 m1 d1, .slice b2 m2 d2, .slice b3 m3 d3, .int .i64 s.nextSeq, .int .i64 s.nextTag, .int .i64 s.came, .int .i64 s.acked, .int .i64 s.dropped] 31 (0, 0))) := fun W' hW' => (hW'.block w.heap.size (by have := HZ3.out; omega) (by omega)).trans HX0.out
      have HOUT : Hid (OutsAt wr b2 s.outs ∧ TakersAt wr b3 s.takers) := by
        refine ⟨?_, ?_⟩
        · refine outs_row.2 ?_
          rcases outs_row.1 HSW.out.q2 with h0 | ⟨gi, oi, e, hgi, hc⟩
          · exact .inl h0
          · have hbi : wr.heap[gi]? = w.heap[gi]? := (HFR.out.block gi (by have := HZ3.out; omega) (by omega)).trans (HB3.out.block gi hgi)
            exact (outs_row.1 HSW.out.q2).keepBut (by have := HFR.out.size; have := HZ3.out; omega) fun gi' oi' e' => by rw [e] at e'; cases e'; exact hbi
        · refine takers_row.2 ?_
          rcases takers_row.1 HSW.out.q3 with h0 | ⟨gi, oi, e, hgi, hc⟩
          · exact .inl h0
          · have hbi : wr.heap[gi]? = w.heap[gi]? := (HFR.out.block gi (by have := HZ3.out; omega) (by omega)).trans (HB3.out.block gi hgi)
            exact (takers_row.1 HSW.out.q3).keepBut (by have := HFR.out.size; have := HZ3.out; omega) fun gi' oi' e' => by rw [e] at e'; cases e'; exact hbi
      have hzO : b2 = none → d2 = 0 ∧ m2 = 0 := fun e => ⟨HN2.out e, by
        rcases HSW.out.q2 with h | ⟨_, _, h, _⟩
        · rw [← HM2.out, h]; rfl
        · rw [e] at h; cases h⟩
      have hzT : b3 = none → d3 = 0 ∧ m3 = 0 := fun e => ⟨HN3.out e, by
        rcases HSW.out.q3 with h | ⟨_, _, h, _⟩
        · rw [← HM3.out, h]; rfl
        · rw [e] at h; cases h⟩
      have HZO := hidI hzO
      have TK : Hid (∀ W', FrameT W3.heap.size (w.heap.size + 2) wr W' → RowAt W' b3 (takerCells s.takers)) := fun W' hW' => by
        rcases takers_row.1 HSW.out.q3 with h0 | ⟨gi, oi, e, hgi, hc⟩
        · exact .inl h0
        · exact (takers_row.1 HOUT.out.2).keepBut hW'.size fun gi' oi' e' => by rw [e] at e'; cases e'; exact hW'.block gi (by have := HZ3.out; omega) (by omega)
      have HZT := hidI hzT
      obtain ⟨wA, hwA⟩ : ∃ wA, wA = wr.alloc (.cells #[] 53) := ⟨_, rfl⟩
      have lA : Below wr.heap.size wr wA := by rw [hwA]; exact (Below.refl _ _).alloc (Nat.le_refl _) _
      have oA : wA.ownsRow wr.heap.size 53 8 (.slice (some ⟨wr.heap.size, 0, none⟩) 0 0) 0 [] := by rw [hwA]; exact World.ownsRow_made _ #[] 0 (Nat.le_refl _) (Nat.zero_le _) rfl
      have HWA := hidI hwA
      have LA := hidI lA
      have OA := hidI oA
      have cA := cell_of_cells (EX.out _ (FrameT.of_below lA hB3s)) 1
      simp at cA
      rw [hwA] at cA
      have cB := cell_of_cells (plan_keep HB2.out lA) 1
      simp at cB
      clear hlt hk hzO hzT hwA lA oA
      go_upto_region 8 with (at_builtin; rw [← HWA.out]; refine append_row elemOut (by kernel_rfl) _ _ rfl wr.heap.size _ 0 [] rfl OA.out b2 m2 d2 (outCells s.outs) rfl (by rw [outCells_len, HM2.out]) HZO.out ((outs_row.1 HOUT.out.1).keep LA.out) (outCells_one _) (by unfold maxLen; omega) (by omega) LA.out.size ?_; intro v6 w6 o6 g6 _; rw [Nat.zero_add, List.nil_append] at o6; have l6 : Below wr.heap.size wr w6 := LA.out.grown g6 LA.out.size (fun i hi => (OA.out.lt i hi).1); have L6 := hidI l6; have O6 := hidI o6; obtain ⟨a6, c6, rfl, -⟩ := own_row o6; have b6 := plan_keep HB2.out l6; have B6 := hidI b6; have d61 := cell_of_cells b6 1; have d61f := free_of_cells b6 1; simp at d61; clear o6 g6 l6 b6)
      obtain ⟨w7, hw7⟩ : ∃ w7, w7 = w6.setCell ⟨w.heap.size + 1 + 1, 1, none⟩ (.slice a6 m2 c6) := ⟨_, rfl⟩
      rw [← hw7]
      have b7 : w7.heap[w.heap.size + 2]? = some (.cells #[.slice aR m1 cR, .slice a6 m2 c6, .slice b3 m3 d3, .int .i64 s.nextSeq, .int .i64 s.nextTag, .int .i64 s.came, .int .i64 s.acked, .int .i64 s.dropped] 31 (0, 0)) := by rw [hw7]; exact setCell_block B6.out (j := 1) _
      have f7 : FrameT W3.heap.size (w.heap.size + 2) wr w7 := by rw [hw7]; exact (FrameT.of_below L6.out hB3s).setCell (p := ⟨w.heap.size + 1 + 1, 1, none⟩) (.inr rfl) _
      have kt7 : TypeT 31 w6 w7 := by rw [hw7]; exact TypeT.setCell B6.out _
      have hs7 : w7.heap.size = w6.heap.size := by rw [hw7]; simp [World.setCell]
      obtain ⟨w8, hw8⟩ : ∃ w8, w8 = w7.alloc (.cells #[] 56) := ⟨_, rfl⟩
      have l8 : Below w7.heap.size w7 w8 := by rw [hw8]; exact (Below.refl _ _).alloc (Nat.le_refl _) _
      have f8 := f7.trans (FrameT.of_below l8 (Nat.le_trans hB3s f7.size))
      have o8 : w8.ownsRow w7.heap.size 56 2 (.slice (some ⟨w7.heap.size, 0, none⟩) 0 0) 0 [] := by rw [hw8]; exact World.ownsRow_made _ #[] 0 (Nat.le_refl _) (Nat.zero_le _) rfl
      have cC := cell_of_cells (EX.out _ f8) 2
      simp at cC
      rw [hw8] at cC
      have HW8 := hidI hw8
      have B7 := hidI b7
      have F7 := hidI f7
      have F8 := hidI f8
      have KT7 := hidI kt7
      have L8 := hidI l8
      have O8 := hidI o8
      have HS7 := hidI hs7
      have hx1 : w7.heap[w.heap.size + 1]? = _ := (f7.block (w.heap.size + 1) (by have := HZ3.out; omega) (by omega)).trans ((HFR.out.block (w.heap.size + 1) (by have := HZ3.out; omega) (by omega)).trans X1.out)
      have HX1 := hidI hx1
      clear hw7 hw8 b7 f7 f8 kt7 l8 o8 hs7 hx1 d61 d61f cA cB
      go_wp2_with (at_builtin; rw [← HW8.out]; refine append_row elemTaker (by kernel_rfl) _ _ rfl w7.heap.size _ 0 [] rfl O8.out b3 m3 d3 (takerCells s.takers) rfl (by rw [takerCells_len, HM3.out]) HZT.out (TK.out _ F8.out) (takerCells_one _) (by unfold maxLen; omega) (by omega) L8.out.size ?_; intro v9 w9 o9 g9 _; rw [Nat.zero_add, List.nil_append] at o9; have O9 := hidI o9; obtain ⟨a9, c9, rfl, -⟩ := own_row o9; have G9 := hidI g9; have l9 : Below w7.heap.size w7 w9 := L8.out.grown g9 L8.out.size (fun i hi => (O8.out.lt i hi).1); have L9 := hidI l9; have b9 := plan_keep B7.out l9; have B9 := hidI b9; have x9 := cell_of_cells b9 2; have x9f := free_of_cells b9 2; simp at x9; clear y0 y1 y2 y3 y4 y5 y6 y7; obtain ⟨y0, y1, y2, y3, y4, y5, y6, y7⟩ := st_cells b9; have r9 := plan_keep HX1.out l9; obtain ⟨u0, u1, u2, u3, u4, u5, u6, u7⟩ := st_cells r9; have v0 := free_of_cells r9 0; have v1 := free_of_cells r9 1; have v2 := free_of_cells r9 2; have v3 := free_of_cells r9 3; have v4 := free_of_cells r9 4; have v5 := free_of_cells r9 5; have v6 := free_of_cells r9 6; have v7 := free_of_cells r9 7; have R9 := hidI r9; clear o9 g9 l9 b9 r9)
      generalize hX : w9.setCell ⟨w.heap.size + 1 + 1, 2, none⟩ (.slice a9 m3 c9) = X
      generalize hW4 : World.setCell (World.setCell (World.setCell (World.setCell (World.setCell (World.setCell (World.setCell (World.setCell X _ _) _ _) _ _) _ _) _ _) _ _) _ _) _ _ = W4
      have ktX : TypeT 31 w9 X := by rw [← hX]; exact TypeT.setCell B9.out _
      have hRX : X.heap[w.heap.size + 1]? = some (.cells #[.slice none 0 0, .slice none 0 0, .slice none 0 0, .int .i64 0, .int .i64 0, .int .i64 0, .int .i64 0, .int .i64 0] 31 (0, 0)) := by rw [← hX]; exact (heap_setCell_other w9 ⟨w.heap.size + 1 + 1, 2, none⟩ (w.heap.size + 1) _ (by show w.heap.size + 1 ≠ w.heap.size + 1 + 1; omega)).trans R9.out
      obtain ⟨b4, t4⟩ := store8 hRX hW4
      obtain ⟨z0, z1, z2, z3, z4, z5, z6, z7⟩ := st_cells b4
      have kt4 : TypeT 31 X W4 := TypeT.of_turn hRX t4
      have ktA : TypeT 31 w6 W4 := ((KT7.out.trans (TypeT.of_below L9.out)).trans ktX).trans kt4
      have fX : FrameT W3.heap.size (w.heap.size + 2) W3 X := by rw [← hX]; exact ((HFR.out.trans F7.out).trans (FrameT.of_below L9.out (Nat.le_trans hB3s F7.out.size))).setCell (p := ⟨w.heap.size + 1 + 1, 2, none⟩) (.inr rfl) _
      have e1 : s.ready.take m1 = s.ready := List.take_of_length_le (by rw [HM1.out]; exact Nat.le_refl _)
      have hz := HZ3.out
      exact bodyPost_ret (v := .agg #[.slice aR m1 cR, .slice a6 m2 c6, .slice a9 m3 c9, .int .i64 s.nextSeq, .int .i64 s.nextTag, .int .i64 s.came, .int .i64 s.acked, .int .i64 s.dropped]) (by simp [results, Try.results61, go_sem, z0, z1, z2, z3, z4, z5, z6, z7]) rfl ⟨_, rfl, ⟨_, _, _, _, _, _, _, _, _, rfl, HM1.out, HM2.out, HM3.out, by omega, ⟨vs, own_base (ktA.row (copied_two HROW.out L6.out) (by decide)) (by omega), by
        have := ((HLV.out.keep L6.out).keepT (ktA.keepI (by decide))).lower (n' := w.heap.size) (by omega)
        rw [e1] at this
        exact this⟩, own_base (ktA.row O6.out (by decide)) (by omega), own_base ((ktX.trans kt4).row O9.out (by decide)) (by have := F7.out.size; omega)⟩, HB3.out.trans ((fX.below (by omega) (by omega)).trans (t4.below (by have := fX.size; omega) (by omega)))⟩

end Go.Proofs.Ytpoichgodamnkaa

/- Ur -/
namespace Go.Proofs.Ytpoichgodamnkaa
set_option linter.unusedVariables false
set_option maxRecDepth 100000
open Go.RowKit Go.Maps

def aS : StateD := joinS bS 0 3
def bbS : StateD := delS aS 0
theorem facts_T : (joinE officeP bS 0 3 = 0 ∧ goneIdx bS.takers = 0 ∧ nextE officeP aS 0 = 0 ∧ nextK aS 0 = 0 ∧ delE officeP aS 0 = 0) ∧ (nextE officeP bS 1 = 8 ∧ joinE officeP bS 0 5 = 3 ∧ nextE officeP bS 0 = 0 ∧ nextK bS 0 = 1 ∧ aS.nextTag = 6) := by decide +kernel
theorem facts_U : bbS.outs = [bOut 1, ⟨6, 0, 0, ⟨2, ⟨#[120, 46, 121]⟩, ⟨#[116, 119, 111]⟩, false, 0⟩⟩] ∧ bbS.ready = [[⟨3, ⟨#[120, 46, 121]⟩, ⟨#[116, 104, 114, 101, 101]⟩, false, 0⟩], [], []] ∧ aS.takers = [⟨0, 3⟩, ⟨0, 2⟩] := by
  have e : nextK aS 0 = 0 := facts_T.1.2.2.2.1
  unfold bbS delS delO
  rw [e]
  exact ⟨rfl, rfl, rfl⟩

theorem get_len {xs ys : List (List ItemD)} (e : xs = ys) (h : 0 < xs.length) {n : Nat} (hn : (ys.getD 0 []).length = n) : (xs[0]'h).length = n := by
  subst e
  rw [List.getD_eq_getElem?_getD, List.getElem?_eq_getElem h] at hn
  exact hn

set_option maxRecDepth 100000 in
set_option maxHeartbeats 8000000 in
theorem takersBegun_any (w : World) : Calls Try.prog 22 #[] w fun e w' => e = .returned (.bool true) ∧ Below w.heap.size w w' := by
  have F := hidI facts_T
  go_enter Try.func22, Try.ntmps22
  go_wp2_with fail
  refine (office_any _).mono ?_
  rintro e w1 ⟨rfl, k1, hp1⟩
  have HP1 := hidI hp1
  clear hp1
  go_wp2_with fail
  refine (busy_any _).mono ?_
  rintro e w2 ⟨gI, gR, gO, gT, rfl, hb2, -, -, k2'⟩
  have HS2 := hidI (hb2.state 1)
  have k2 := k1.trans (k2'.mono k1.size)
  clear hb2
  go_wp2_with fail
  refine (join_any officeP _ _ _ _ _ _ _ _ _ bS _ _ _ _ _ _ _ _ _ 0 3 _ (HP1.out.keep k2') HS2.out (fun h => by cases h) (fun h => by cases h)).mono ?_
  rintro e w3 ⟨v3, rfl, hres3, k3'⟩
  rw [F.out.1.1] at hres3 ⊢
  rw [show numOf 0 ((goneIdx bS.takers : Nat) : Int) = 0 by unfold numOf; rw [if_pos rfl, F.out.1.2.1]; rfl]
  have hres3' : StRes w3 w2.heap.size v3 0 aS := hres3
  obtain ⟨x1, x2, x3, t1, e1, t2, e2, t3, e3, rfl, ho3⟩ := hres3'.1 rfl
  clear hres3'
  have k3 := k2.trans (k3'.mono k2.size)
  obtain rfl : t1 = 3 := ho3.l1.symm.trans rfl
  obtain rfl : t2 = 1 := ho3.l2.symm.trans rfl
  obtain rfl : t3 = 2 := ho3.l3.symm.trans rfl
  obtain ⟨w4, hw4⟩ : ∃ w4, w4 = w3.alloc (.cells #[.slice x1 3 e1, .slice x2 1 e2, .slice x3 2 e3, .int .i64 aS.nextSeq, .int .i64 aS.nextTag, .int .i64 aS.came, .int .i64 aS.acked, .int .i64 aS.dropped] 31) := ⟨_, rfl⟩
  have l4 : Below w3.heap.size w3 w4 := by rw [hw4]; exact (Below.refl _ _).alloc (Nat.le_refl _) _
  have b4 : w4.heap[w3.heap.size]? = some (.cells #[.slice x1 3 e1, .slice x2 1 e2, .slice x3 2 e3, .int .i64 aS.nextSeq, .int .i64 aS.nextTag, .int .i64 aS.came, .int .i64 aS.acked, .int .i64 aS.dropped] 31 (0, 0)) := by rw [hw4]; exact World.alloc_heap_new w3 _
  have k4 := k3.trans (l4.mono k3.size)
  have HO4 := hidI (ho3.keep l4)
  obtain ⟨BA, hBA⟩ : ∃ BA, BA = w3.heap.size := ⟨_, rfl⟩
  have HBA := hidI hBA
  rw [← hBA] at b4
  have HB4 := hidI b4
  have HW4 := hidI hw4
  have K4 := hidI k4
  have SA : Hid (∀ W, Below w4.heap.size w4 W → (W.cell? ⟨BA, 0, none⟩ = some (.slice x1 3 e1) ∧ W.cell? ⟨BA, 1, none⟩ = some (.slice x2 1 e2) ∧ W.cell? ⟨BA, 2, none⟩ = some (.slice x3 2 e3) ∧ W.cell? ⟨BA, 3, none⟩ = some (.int .i64 aS.nextSeq) ∧ W.cell? ⟨BA, 4, none⟩ = some (.int .i64 aS.nextTag) ∧ W.cell? ⟨BA, 5, none⟩ = some (.int .i64 aS.came) ∧ W.cell? ⟨BA, 6, none⟩ = some (.int .i64 aS.acked) ∧ W.cell? ⟨BA, 7, none⟩ = some (.int .i64 aS.dropped))) := fun W hW => st_cells (plan_keep HB4.out hW)
  clear hres3 ho3 l4 b4 hw4 k1 k2 k2' k3 k3' HP1 HS2 k4 hBA
  go_upto_region 2 with fail
  rw [← HW4.out, ← HBA.out]
  refine wp_region_held_drew (S := fun W => (W.cell? ⟨BA, 0, none⟩ = some (.slice x1 3 e1) ∧ W.cell? ⟨BA, 1, none⟩ = some (.slice x2 1 e2) ∧ W.cell? ⟨BA, 2, none⟩ = some (.slice x3 2 e3) ∧ W.cell? ⟨BA, 3, none⟩ = some (.int .i64 aS.nextSeq) ∧ W.cell? ⟨BA, 4, none⟩ = some (.int .i64 aS.nextTag) ∧ W.cell? ⟨BA, 5, none⟩ = some (.int .i64 aS.came) ∧ W.cell? ⟨BA, 6, none⟩ = some (.int .i64 aS.acked) ∧ W.cell? ⟨BA, 7, none⟩ = some (.int .i64 aS.dropped))) (by kernel_rfl) (SA.out _ (Below.refl _ _).drew) (fun hHeld => ?_)
  (refine wpAnyH_take (i := 1) (v := ?_) rfl (by kernel_rfl) (by kernel_rfl) (by kernel_rfl) (fun _ _ _ h => h) (Or.inl ⟨by kernel_rfl, ?_⟩) (by assumption) ?_; rotate_left; (focus (intro w hSw; (try dsimp only at hSw); go_simp; (try with_reducible rfl))); (try simp only [Act.put, List.getElem_toArray, List.getElem_cons_succ, List.getElem_cons_zero, List.setIfInBounds_toArray, List.set_cons_zero, List.set_cons_succ]))
  refine wpAnyH_ready (rs := [0]) (by kernel_rfl) (by simp) ?_
  refine AllReadyH.cons rfl (fun K hK => ?_) AllReadyH.nil
  go_simp
  refine (office_any _).mono ?_
  rintro e w5 ⟨rfl, k5', hp5⟩
  have k5 : Below w4.heap.size w4 w5 := below_undrew k5'
  have HP5 := hidI hp5
  refine hK.out _ _ (SA.out _ k5) (fun hHeld2 => ?_)
  clear hHeld hK K k5' hp5
  try simp only [Act.put, List.getElem_toArray, List.getElem_cons_succ, List.getElem_cons_zero, List.setIfInBounds_toArray, List.set_cons_zero, List.set_cons_succ]
  refine wpAnyH_ready (rs := [2]) (by kernel_rfl) (by simp) ?_
  refine AllReadyH.cons rfl (fun K hK => ?_) AllReadyH.nil
  go_simp
  refine (next_any officeP _ _ _ _ _ _ _ _ _ aS _ _ _ _ _ _ _ _ _ 0 _ HP5.out (HO4.out.keep k5).state).mono ?_
  rintro e w6 ⟨rfl, k6'⟩
  rw [F.out.1.2.2.1, F.out.1.2.2.2.1, show numOf 0 0 = 0 from rfl]
  have k6 : Below w4.heap.size w4 w6 := k5.trans (k6'.mono k5.size)
  refine hK.out _ _ (SA.out _ k6) (fun hHeld3 => ?_)
  clear hHeld2 hK K k5 k6' HP5
  try simp only [Act.put, List.getElem_toArray, List.getElem_cons_succ, List.getElem_cons_zero, List.setIfInBounds_toArray, List.set_cons_zero, List.set_cons_succ]
  (refine wpAnyH_take (i := 3) (v := ?_) rfl (by kernel_rfl) (by kernel_rfl) (by kernel_rfl) (fun _ _ _ h => h) (Or.inl ⟨by kernel_rfl, ?_⟩) (by assumption) ?_; rotate_left; (focus (intro w hSw; (try dsimp only at hSw); go_simp; (try with_reducible rfl))); (try simp only [Act.put, List.getElem_toArray, List.getElem_cons_succ, List.getElem_cons_zero, List.setIfInBounds_toArray, List.set_cons_zero, List.set_cons_succ]))
  (refine wpAnyH_take (i := 4) (v := ?_) rfl (by kernel_rfl) (by kernel_rfl) (by kernel_rfl) (fun _ _ _ h => h) (Or.inl ⟨by kernel_rfl, ?_⟩) (by assumption) ?_; rotate_left; (focus (intro w hSw; (try dsimp only at hSw); go_simp; (try with_reducible rfl))); (try simp only [Act.put, List.getElem_toArray, List.getElem_cons_succ, List.getElem_cons_zero, List.setIfInBounds_toArray, List.set_cons_zero, List.set_cons_succ]))
  (refine wpAnyH_take (i := 5) (v := ?_) rfl (by kernel_rfl) (by kernel_rfl) (by kernel_rfl) (fun _ _ _ h => h) (Or.inl ⟨by kernel_rfl, ?_⟩) (by assumption) ?_; rotate_left; (focus (intro w hSw; (try dsimp only at hSw); go_simp; (try with_reducible rfl))); (try simp only [Act.put, List.getElem_toArray, List.getElem_cons_succ, List.getElem_cons_zero, List.setIfInBounds_toArray, List.set_cons_zero, List.set_cons_succ]))
  (refine wpAnyH_take (i := 6) (v := ?_) rfl (by kernel_rfl) (by kernel_rfl) (by kernel_rfl) (fun _ _ _ h => h) (Or.inl ⟨by kernel_rfl, ?_⟩) (by assumption) ?_; rotate_left; (focus (intro w hSw; (try dsimp only at hSw); go_simp; (try with_reducible rfl))); (try simp only [Act.put, List.getElem_toArray, List.getElem_cons_succ, List.getElem_cons_zero, List.setIfInBounds_toArray, List.set_cons_zero, List.set_cons_succ]))
  (refine wpAnyH_take (i := 7) (v := ?_) rfl (by kernel_rfl) (by kernel_rfl) (by kernel_rfl) (fun _ _ _ h => h) (Or.inl ⟨by kernel_rfl, ?_⟩) (by assumption) ?_; rotate_left; (focus (intro w hSw; (try dsimp only at hSw); go_simp; (try with_reducible rfl))); (try simp only [Act.put, List.getElem_toArray, List.getElem_cons_succ, List.getElem_cons_zero, List.setIfInBounds_toArray, List.set_cons_zero, List.set_cons_succ]))
  refine wpAnyH_done (by kernel_rfl) ?_ _
  clear hHeld3
  go_wp2_with fail
  have Lw6 : Hid (Below w4.heap.size w4 w6.drew) := k6.drew
  go_cut [6, 7, 8] (fun s6 s7 s8 wx => ∃ BB y1 y2 y3 f1 f2 f3, s6 = .pointer (some ⟨BB, 0, none⟩) ∧ s7 = .int .i64 6 ∧ s8 = .int .i64 0 ∧ wx.heap[BB]? = some (.cells #[.slice y1 3 f1, .slice y2 2 f2, .slice y3 2 f3, .int .i64 bbS.nextSeq, .int .i64 bbS.nextTag, .int .i64 bbS.came, .int .i64 bbS.acked, .int .i64 bbS.dropped] 31 (0, 0)) ∧ OwnSt wx 0 y1 y2 y3 3 f1 2 f2 2 f3 bbS ∧ Below w4.heap.size w4 wx)
  case first =>
    refine wp_region_held_drew (S := fun W => (W.cell? ⟨BA, 0, none⟩ = some (.slice x1 3 e1) ∧ W.cell? ⟨BA, 1, none⟩ = some (.slice x2 1 e2) ∧ W.cell? ⟨BA, 2, none⟩ = some (.slice x3 2 e3) ∧ W.cell? ⟨BA, 3, none⟩ = some (.int .i64 aS.nextSeq) ∧ W.cell? ⟨BA, 4, none⟩ = some (.int .i64 aS.nextTag) ∧ W.cell? ⟨BA, 5, none⟩ = some (.int .i64 aS.came) ∧ W.cell? ⟨BA, 6, none⟩ = some (.int .i64 aS.acked) ∧ W.cell? ⟨BA, 7, none⟩ = some (.int .i64 aS.dropped))) (by kernel_rfl) (SA.out _ k6.drew) (fun hHeld => ?_)
    (refine wpAnyH_take (i := 1) (v := ?_) rfl (by kernel_rfl) (by kernel_rfl) (by kernel_rfl) (fun _ _ _ h => h) (Or.inl ⟨by kernel_rfl, ?_⟩) (by assumption) ?_; rotate_left; (focus (intro w hSw; (try dsimp only at hSw); go_simp; (try with_reducible rfl))); (try simp only [Act.put, List.getElem_toArray, List.getElem_cons_succ, List.getElem_cons_zero, List.setIfInBounds_toArray, List.set_cons_zero, List.set_cons_succ]))
    obtain ⟨wq, hwq⟩ : ∃ wq, wq = w6.drew := ⟨_, rfl⟩
    have Lwq : Hid (Below w4.heap.size w4 wq) := by show Below w4.heap.size w4 wq; rw [hwq]; exact Lw6.out
    rw [← hwq] at hHeld ⊢
    clear hwq
  -- REGION 3
    refine wpAnyH_ready (rs := [0, 7]) (by kernel_rfl) (by simp) ?_
    refine AllReadyH.cons rfl (fun K hK => ?_) (AllReadyH.cons rfl (fun K hK => ?_) AllReadyH.nil)
    · go_simp
      refine (office_any _).mono ?_
      rintro e wo ⟨rfl, ko, hpo⟩
      have Lwo : Hid (Below w4.heap.size w4 wo) := Lwq.out.trans (ko.mono Lwq.out.size)
      have HPo := hidI hpo
      refine hK.out _ _ (SA.out _ Lwo.out) (fun hHo => ?_)
      clear hK K hpo
      (try simp only [Act.put, List.getElem_toArray, List.getElem_cons_succ, List.getElem_cons_zero, List.setIfInBounds_toArray, List.set_cons_zero, List.set_cons_succ])
      refine wpAnyH_ready (rs := [2, 7]) (by kernel_rfl) (by simp) ?_
      refine AllReadyH.cons rfl (fun K hK => ?_) (AllReadyH.cons rfl (fun K hK => ?_) AllReadyH.nil)
      · go_simp
        refine (deliver_any officeP _ _ _ _ _ _ _ _ _ aS _ _ _ _ _ _ _ _ _ 0 _ HPo.out (HO4.out.keep Lwo.out).state (HO4.out.keep Lwo.out).nils.1 (HO4.out.keep Lwo.out).nils.2).mono ?_
        rintro e wd ⟨vd, rfl, hresd, kd⟩
        rw [F.out.1.2.2.2.2] at hresd ⊢
        rw [show numOf 0 aS.nextTag = 6 by unfold numOf; rw [if_pos rfl]; exact F.out.2.2.2.2.2]
        have hresd' : StRes wd wo.heap.size vd 0 bbS := hresd
        obtain ⟨y1, y2, y3, q1, f1, q2, f2, q3, f3, rfl, hod⟩ := hresd'.1 rfl
        obtain rfl : q1 = 3 := hod.l1.symm.trans rfl
        obtain rfl : q2 = 2 := hod.l2.symm.trans rfl
        obtain rfl : q3 = 2 := hod.l3.symm.trans rfl
        have Lwd : Hid (Below w4.heap.size w4 wd) := Lwo.out.trans (kd.mono Lwo.out.size)
        have HOd := hidI (hod.lower (Nat.zero_le _))
        refine hK.out _ _ (SA.out _ Lwd.out) (fun hHd => ?_)
        clear hK K hresd hresd'
        (try simp only [Act.put, List.getElem_toArray, List.getElem_cons_succ, List.getElem_cons_zero, List.setIfInBounds_toArray, List.set_cons_zero, List.set_cons_succ])
        (refine wpAnyH_take (i := 3) (v := ?_) rfl (by kernel_rfl) (by kernel_rfl) (by kernel_rfl) (fun _ _ _ h => h) (Or.inl ⟨by kernel_rfl, ?_⟩) (by assumption) ?_; rotate_left; (focus (intro w hSw; (try dsimp only at hSw); go_simp; (try with_reducible rfl))); (try simp only [Act.put, List.getElem_toArray, List.getElem_cons_succ, List.getElem_cons_zero, List.setIfInBounds_toArray, List.set_cons_zero, List.set_cons_succ]))
        (refine wpAnyH_take (i := 4) (v := ?_) rfl (by kernel_rfl) (by kernel_rfl) (by kernel_rfl) (fun _ _ _ h => h) (Or.inl ⟨by kernel_rfl, ?_⟩) (by assumption) ?_; rotate_left; (focus (intro w hSw; (try dsimp only at hSw); go_simp; (try with_reducible rfl))); (try simp only [Act.put, List.getElem_toArray, List.getElem_cons_succ, List.getElem_cons_zero, List.setIfInBounds_toArray, List.set_cons_zero, List.set_cons_succ]))
        (refine wpAnyH_take (i := 5) (v := ?_) rfl (by kernel_rfl) (by kernel_rfl) (by kernel_rfl) (fun _ _ _ h => h) (Or.inl ⟨by kernel_rfl, ?_⟩) (by assumption) ?_; rotate_left; (focus (intro w hSw; (try dsimp only at hSw); go_simp; (try with_reducible rfl))); (try simp only [Act.put, List.getElem_toArray, List.getElem_cons_succ, List.getElem_cons_zero, List.setIfInBounds_toArray, List.set_cons_zero, List.set_cons_succ]))
        (refine wpAnyH_take (i := 6) (v := ?_) rfl (by kernel_rfl) (by kernel_rfl) (by kernel_rfl) (fun _ _ _ h => h) (Or.inl ⟨by kernel_rfl, ?_⟩) (by assumption) ?_; rotate_left; (focus (intro w hSw; (try dsimp only at hSw); go_simp; (try with_reducible rfl))); (try simp only [Act.put, List.getElem_toArray, List.getElem_cons_succ, List.getElem_cons_zero, List.setIfInBounds_toArray, List.set_cons_zero, List.set_cons_succ]))
        refine wpAnyH_ready (rs := [7]) (by kernel_rfl) (by simp) ?_
        refine AllReadyH.cons rfl (fun K hK => ?_) AllReadyH.nil
        go_simp
        obtain ⟨wa, hwa⟩ : ∃ wa, wa = wd.alloc (.cells #[.slice none 0 0, .slice none 0 0, .slice none 0 0, .int .i64 0, .int .i64 0, .int .i64 0, .int .i64 0, .int .i64 0] 31) := ⟨_, rfl⟩
        have la : Below wd.heap.size wd wa := by rw [hwa]; exact (Below.refl _ _).alloc (Nat.le_refl _) _
        have Lwa : Hid (Below w4.heap.size w4 wa) := Lwd.out.trans (la.mono Lwd.out.size)
        have ba : wa.heap[wd.heap.size]? = some (.cells #[.slice none 0 0, .slice none 0 0, .slice none 0 0, .int .i64 0, .int .i64 0, .int .i64 0, .int .i64 0, .int .i64 0] 31 (0, 0)) := by rw [hwa]; exact World.alloc_heap_new wd _
        obtain ⟨BB, hBB⟩ : ∃ BB, BB = wd.heap.size := ⟨_, rfl⟩
        have hBg : w4.heap.size ≤ BB := by rw [hBB]; exact Lwd.out.size
        rw [← hwa, ← hBB]
        rw [← hBB] at ba
        have HOa := hidI (HOd.out.keep la)
        refine hK.out _ _ (SA.out _ Lwa.out) (fun hHa => ?_)
        clear hK K hwa hBB
        (try simp only [Act.put, List.getElem_toArray, List.getElem_cons_succ, List.getElem_cons_zero, List.setIfInBounds_toArray, List.set_cons_zero, List.set_cons_succ])
        refine wpAnyH_ready (rs := [8]) (by kernel_rfl) (by simp) ?_
        refine AllReadyH.cons rfl (fun K hK => ?_) AllReadyH.nil
        obtain ⟨c0, c1, c2, c3, c4, c5, c6, c7⟩ := st_cells ba
        have g0 := free_of_cells ba 0
        have g1 := free_of_cells ba 1
        have g2 := free_of_cells ba 2
        have g3 := free_of_cells ba 3
        have g4 := free_of_cells ba 4
        have g5 := free_of_cells ba 5
        have g6 := free_of_cells ba 6
        have g7 := free_of_cells ba 7
        go_simp
        generalize hWz : World.setCell (World.setCell (World.setCell (World.setCell (World.setCell (World.setCell (World.setCell (World.setCell wa _ _) _ _) _ _) _ _) _ _) _ _) _ _) _ _ = Wz
        obtain ⟨bz, tz⟩ := store8 ba hWz
        have lz : Below w4.heap.size w4 Wz := Lwa.out.trans (tz.below Lwa.out.size hBg)
        have oz := HOa.out.turn ba (by decide) tz
        have RL := hidI (And.intro bz (And.intro oz lz))
        refine hK.out _ _ (SA.out _ lz) (fun hHz => ?_)
        clear hK K
        (try simp only [Act.put, List.getElem_toArray, List.getElem_cons_succ, List.getElem_cons_zero, List.setIfInBounds_toArray, List.set_cons_zero, List.set_cons_succ])
        (refine wpAnyH_take (i := 9) (v := ?_) rfl (by kernel_rfl) (by kernel_rfl) (by kernel_rfl) (fun _ _ _ h => h) (Or.inl ⟨by kernel_rfl, ?_⟩) (by assumption) ?_; rotate_left; (focus (intro w hSw; (try dsimp only at hSw); go_simp; (try with_reducible rfl))); (try simp only [Act.put, List.getElem_toArray, List.getElem_cons_succ, List.getElem_cons_zero, List.setIfInBounds_toArray, List.set_cons_zero, List.set_cons_succ]))
        (refine wpAnyH_take (i := 10) (v := ?_) rfl (by kernel_rfl) (by kernel_rfl) (by kernel_rfl) (fun _ _ _ h => h) (Or.inl ⟨by kernel_rfl, ?_⟩) (by assumption) ?_; rotate_left; (focus (intro w hSw; (try dsimp only at hSw); go_simp; (try with_reducible rfl))); (try simp only [Act.put, List.getElem_toArray, List.getElem_cons_succ, List.getElem_cons_zero, List.setIfInBounds_toArray, List.set_cons_zero, List.set_cons_succ]))
        refine wpAnyH_done (by kernel_rfl) ?_ _
        clear c0 c1 c2 c3 c4 c5 c6 c7 g0 g1 g2 g3 g4 g5 g6 g7 bz oz lz hHz tz hWz
        go_wp2_with fail
        go_meet
        case rel => exact ⟨BB, y1, y2, y3, f1, f2, f3, rfl, rfl, rfl, RL.out⟩
      · go_simp
        obtain ⟨wa, hwa⟩ : ∃ wa, wa = wo.alloc (.cells #[.slice none 0 0, .slice none 0 0, .slice none 0 0, .int .i64 0, .int .i64 0, .int .i64 0, .int .i64 0, .int .i64 0] 31) := ⟨_, rfl⟩
        have la : Below wo.heap.size wo wa := by rw [hwa]; exact (Below.refl _ _).alloc (Nat.le_refl _) _
        have Lwa : Hid (Below w4.heap.size w4 wa) := Lwo.out.trans (la.mono Lwo.out.size)
        have ba : wa.heap[wo.heap.size]? = some (.cells #[.slice none 0 0, .slice none 0 0, .slice none 0 0, .int .i64 0, .int .i64 0, .int .i64 0, .int .i64 0, .int .i64 0] 31 (0, 0)) := by rw [hwa]; exact World.alloc_heap_new wo _
        obtain ⟨BB, hBB⟩ : ∃ BB, BB = wo.heap.size := ⟨_, rfl⟩
        have hBg : w4.heap.size ≤ BB := by rw [hBB]; exact Lwo.out.size
        rw [← hwa, ← hBB]
        rw [← hBB] at ba
        have HPa := hidI (HPo.out.keep la)
        refine hK.out _ _ (SA.out _ Lwa.out) (fun hHa => ?_)
        clear hK K hwa hBB
        (try simp only [Act.put, List.getElem_toArray, List.getElem_cons_succ, List.getElem_cons_zero, List.setIfInBounds_toArray, List.set_cons_zero, List.set_cons_succ])
        refine wpAnyH_ready (rs := [2]) (by kernel_rfl) (by simp) ?_
        refine AllReadyH.cons rfl (fun K hK => ?_) AllReadyH.nil
        go_simp
        refine (deliver_any officeP _ _ _ _ _ _ _ _ _ aS _ _ _ _ _ _ _ _ _ 0 _ HPa.out (HO4.out.keep Lwa.out).state (HO4.out.keep Lwa.out).nils.1 (HO4.out.keep Lwa.out).nils.2).mono ?_
        rintro e wd ⟨vd, rfl, hresd, kd⟩
        rw [F.out.1.2.2.2.2] at hresd ⊢
        rw [show numOf 0 aS.nextTag = 6 by unfold numOf; rw [if_pos rfl]; exact F.out.2.2.2.2.2]
        have hresd' : StRes wd wa.heap.size vd 0 bbS := hresd
        obtain ⟨y1, y2, y3, q1, f1, q2, f2, q3, f3, rfl, hod⟩ := hresd'.1 rfl
        obtain rfl : q1 = 3 := hod.l1.symm.trans rfl
        obtain rfl : q2 = 2 := hod.l2.symm.trans rfl
        obtain rfl : q3 = 2 := hod.l3.symm.trans rfl
        have Lwd : Hid (Below w4.heap.size w4 wd) := Lwa.out.trans (kd.mono Lwa.out.size)
        have HOd := hidI (hod.lower (Nat.zero_le _))
        have bd := plan_keep ba kd
        refine hK.out _ _ (SA.out _ Lwd.out) (fun hHd => ?_)
        clear hK K hresd hresd'
        (try simp only [Act.put, List.getElem_toArray, List.getElem_cons_succ, List.getElem_cons_zero, List.setIfInBounds_toArray, List.set_cons_zero, List.set_cons_succ])
        (refine wpAnyH_take (i := 3) (v := ?_) rfl (by kernel_rfl) (by kernel_rfl) (by kernel_rfl) (fun _ _ _ h => h) (Or.inl ⟨by kernel_rfl, ?_⟩) (by assumption) ?_; rotate_left; (focus (intro w hSw; (try dsimp only at hSw); go_simp; (try with_reducible rfl))); (try simp only [Act.put, List.getElem_toArray, List.getElem_cons_succ, List.getElem_cons_zero, List.setIfInBounds_toArray, List.set_cons_zero, List.set_cons_succ]))
        (refine wpAnyH_take (i := 4) (v := ?_) rfl (by kernel_rfl) (by kernel_rfl) (by kernel_rfl) (fun _ _ _ h => h) (Or.inl ⟨by kernel_rfl, ?_⟩) (by assumption) ?_; rotate_left; (focus (intro w hSw; (try dsimp only at hSw); go_simp; (try with_reducible rfl))); (try simp only [Act.put, List.getElem_toArray, List.getElem_cons_succ, List.getElem_cons_zero, List.setIfInBounds_toArray, List.set_cons_zero, List.set_cons_succ]))
        (refine wpAnyH_take (i := 5) (v := ?_) rfl (by kernel_rfl) (by kernel_rfl) (by kernel_rfl) (fun _ _ _ h => h) (Or.inl ⟨by kernel_rfl, ?_⟩) (by assumption) ?_; rotate_left; (focus (intro w hSw; (try dsimp only at hSw); go_simp; (try with_reducible rfl))); (try simp only [Act.put, List.getElem_toArray, List.getElem_cons_succ, List.getElem_cons_zero, List.setIfInBounds_toArray, List.set_cons_zero, List.set_cons_succ]))
        (refine wpAnyH_take (i := 6) (v := ?_) rfl (by kernel_rfl) (by kernel_rfl) (by kernel_rfl) (fun _ _ _ h => h) (Or.inl ⟨by kernel_rfl, ?_⟩) (by assumption) ?_; rotate_left; (focus (intro w hSw; (try dsimp only at hSw); go_simp; (try with_reducible rfl))); (try simp only [Act.put, List.getElem_toArray, List.getElem_cons_succ, List.getElem_cons_zero, List.setIfInBounds_toArray, List.set_cons_zero, List.set_cons_succ]))
        refine wpAnyH_ready (rs := [8]) (by kernel_rfl) (by simp) ?_
        refine AllReadyH.cons rfl (fun K hK => ?_) AllReadyH.nil
        obtain ⟨c0, c1, c2, c3, c4, c5, c6, c7⟩ := st_cells bd
        have g0 := free_of_cells bd 0
        have g1 := free_of_cells bd 1
        have g2 := free_of_cells bd 2
        have g3 := free_of_cells bd 3
        have g4 := free_of_cells bd 4
        have g5 := free_of_cells bd 5
        have g6 := free_of_cells bd 6
        have g7 := free_of_cells bd 7
        go_simp
        generalize hWz : World.setCell (World.setCell (World.setCell (World.setCell (World.setCell (World.setCell (World.setCell (World.setCell wd _ _) _ _) _ _) _ _) _ _) _ _) _ _) _ _ = Wz
        obtain ⟨bz, tz⟩ := store8 bd hWz
        have lz : Below w4.heap.size w4 Wz := Lwd.out.trans (tz.below Lwd.out.size hBg)
        have oz := HOd.out.turn bd (by decide) tz
        have RL := hidI (And.intro bz (And.intro oz lz))
        refine hK.out _ _ (SA.out _ lz) (fun hHz => ?_)
        clear hK K
        (try simp only [Act.put, List.getElem_toArray, List.getElem_cons_succ, List.getElem_cons_zero, List.setIfInBounds_toArray, List.set_cons_zero, List.set_cons_succ])
        (refine wpAnyH_take (i := 9) (v := ?_) rfl (by kernel_rfl) (by kernel_rfl) (by kernel_rfl) (fun _ _ _ h => h) (Or.inl ⟨by kernel_rfl, ?_⟩) (by assumption) ?_; rotate_left; (focus (intro w hSw; (try dsimp only at hSw); go_simp; (try with_reducible rfl))); (try simp only [Act.put, List.getElem_toArray, List.getElem_cons_succ, List.getElem_cons_zero, List.setIfInBounds_toArray, List.set_cons_zero, List.set_cons_succ]))
        (refine wpAnyH_take (i := 10) (v := ?_) rfl (by kernel_rfl) (by kernel_rfl) (by kernel_rfl) (fun _ _ _ h => h) (Or.inl ⟨by kernel_rfl, ?_⟩) (by assumption) ?_; rotate_left; (focus (intro w hSw; (try dsimp only at hSw); go_simp; (try with_reducible rfl))); (try simp only [Act.put, List.getElem_toArray, List.getElem_cons_succ, List.getElem_cons_zero, List.setIfInBounds_toArray, List.set_cons_zero, List.set_cons_succ]))
        refine wpAnyH_done (by kernel_rfl) ?_ _
        clear c0 c1 c2 c3 c4 c5 c6 c7 g0 g1 g2 g3 g4 g5 g6 g7 bz oz lz hHz tz hWz
        go_wp2_with fail
        go_meet
        case rel => exact ⟨BB, y1, y2, y3, f1, f2, f3, rfl, rfl, rfl, RL.out⟩
    · go_simp
      obtain ⟨wa, hwa⟩ : ∃ wa, wa = wq.alloc (.cells #[.slice none 0 0, .slice none 0 0, .slice none 0 0, .int .i64 0, .int .i64 0, .int .i64 0, .int .i64 0, .int .i64 0] 31) := ⟨_, rfl⟩
      have la : Below wq.heap.size wq wa := by rw [hwa]; exact (Below.refl _ _).alloc (Nat.le_refl _) _
      have Lwa : Hid (Below w4.heap.size w4 wa) := Lwq.out.trans (la.mono Lwq.out.size)
      have ba : wa.heap[wq.heap.size]? = some (.cells #[.slice none 0 0, .slice none 0 0, .slice none 0 0, .int .i64 0, .int .i64 0, .int .i64 0, .int .i64 0, .int .i64 0] 31 (0, 0)) := by rw [hwa]; exact World.alloc_heap_new wq _
      obtain ⟨BB, hBB⟩ : ∃ BB, BB = wq.heap.size := ⟨_, rfl⟩
      have hBg : w4.heap.size ≤ BB := by rw [hBB]; exact Lwq.out.size
      rw [← hwa, ← hBB]
      rw [← hBB] at ba
      refine hK.out _ _ (SA.out _ Lwa.out) (fun hHa => ?_)
      clear hK K hwa hBB
      (try simp only [Act.put, List.getElem_toArray, List.getElem_cons_succ, List.getElem_cons_zero, List.setIfInBounds_toArray, List.set_cons_zero, List.set_cons_succ])
      refine wpAnyH_ready (rs := [0]) (by kernel_rfl) (by simp) ?_
      refine AllReadyH.cons rfl (fun K hK => ?_) AllReadyH.nil
      go_simp
      refine (office_any _).mono ?_
      rintro e wo ⟨rfl, ko, hpo⟩
      have Lwo : Hid (Below w4.heap.size w4 wo) := Lwa.out.trans (ko.mono Lwa.out.size)
      have HPo := hidI hpo
      have bo := plan_keep ba ko
      refine hK.out _ _ (SA.out _ Lwo.out) (fun hHo => ?_)
      clear hK K hpo
      (try simp only [Act.put, List.getElem_toArray, List.getElem_cons_succ, List.getElem_cons_zero, List.setIfInBounds_toArray, List.set_cons_zero, List.set_cons_succ])
      refine wpAnyH_ready (rs := [2]) (by kernel_rfl) (by simp) ?_
      refine AllReadyH.cons rfl (fun K hK => ?_) AllReadyH.nil
      go_simp
      refine (deliver_any officeP _ _ _ _ _ _ _ _ _ aS _ _ _ _ _ _ _ _ _ 0 _ HPo.out (HO4.out.keep Lwo.out).state (HO4.out.keep Lwo.out).nils.1 (HO4.out.keep Lwo.out).nils.2).mono ?_
      rintro e wd ⟨vd, rfl, hresd, kd⟩
      rw [F.out.1.2.2.2.2] at hresd ⊢
      rw [show numOf 0 aS.nextTag = 6 by unfold numOf; rw [if_pos rfl]; exact F.out.2.2.2.2.2]
      have hresd' : StRes wd wo.heap.size vd 0 bbS := hresd
      obtain ⟨y1, y2, y3, q1, f1, q2, f2, q3, f3, rfl, hod⟩ := hresd'.1 rfl
      obtain rfl : q1 = 3 := hod.l1.symm.trans rfl
      obtain rfl : q2 = 2 := hod.l2.symm.trans rfl
      obtain rfl : q3 = 2 := hod.l3.symm.trans rfl
      have Lwd : Hid (Below w4.heap.size w4 wd) := Lwo.out.trans (kd.mono Lwo.out.size)
      have HOd := hidI (hod.lower (Nat.zero_le _))
      have bd := plan_keep bo kd
      refine hK.out _ _ (SA.out _ Lwd.out) (fun hHd => ?_)
      clear hK K hresd hresd'
      (try simp only [Act.put, List.getElem_toArray, List.getElem_cons_succ, List.getElem_cons_zero, List.setIfInBounds_toArray, List.set_cons_zero, List.set_cons_succ])
      (refine wpAnyH_take (i := 3) (v := ?_) rfl (by kernel_rfl) (by kernel_rfl) (by kernel_rfl) (fun _ _ _ h => h) (Or.inl ⟨by kernel_rfl, ?_⟩) (by assumption) ?_; rotate_left; (focus (intro w hSw; (try dsimp only at hSw); go_simp; (try with_reducible rfl))); (try simp only [Act.put, List.getElem_toArray, List.getElem_cons_succ, List.getElem_cons_zero, List.setIfInBounds_toArray, List.set_cons_zero, List.set_cons_succ]))
      (refine wpAnyH_take (i := 4) (v := ?_) rfl (by kernel_rfl) (by kernel_rfl) (by kernel_rfl) (fun _ _ _ h => h) (Or.inl ⟨by kernel_rfl, ?_⟩) (by assumption) ?_; rotate_left; (focus (intro w hSw; (try dsimp only at hSw); go_simp; (try with_reducible rfl))); (try simp only [Act.put, List.getElem_toArray, List.getElem_cons_succ, List.getElem_cons_zero, List.setIfInBounds_toArray, List.set_cons_zero, List.set_cons_succ]))
      (refine wpAnyH_take (i := 5) (v := ?_) rfl (by kernel_rfl) (by kernel_rfl) (by kernel_rfl) (fun _ _ _ h => h) (Or.inl ⟨by kernel_rfl, ?_⟩) (by assumption) ?_; rotate_left; (focus (intro w hSw; (try dsimp only at hSw); go_simp; (try with_reducible rfl))); (try simp only [Act.put, List.getElem_toArray, List.getElem_cons_succ, List.getElem_cons_zero, List.setIfInBounds_toArray, List.set_cons_zero, List.set_cons_succ]))
      (refine wpAnyH_take (i := 6) (v := ?_) rfl (by kernel_rfl) (by kernel_rfl) (by kernel_rfl) (fun _ _ _ h => h) (Or.inl ⟨by kernel_rfl, ?_⟩) (by assumption) ?_; rotate_left; (focus (intro w hSw; (try dsimp only at hSw); go_simp; (try with_reducible rfl))); (try simp only [Act.put, List.getElem_toArray, List.getElem_cons_succ, List.getElem_cons_zero, List.setIfInBounds_toArray, List.set_cons_zero, List.set_cons_succ]))
      refine wpAnyH_ready (rs := [8]) (by kernel_rfl) (by simp) ?_
      refine AllReadyH.cons rfl (fun K hK => ?_) AllReadyH.nil
      obtain ⟨c0, c1, c2, c3, c4, c5, c6, c7⟩ := st_cells bd
      have g0 := free_of_cells bd 0
      have g1 := free_of_cells bd 1
      have g2 := free_of_cells bd 2
      have g3 := free_of_cells bd 3
      have g4 := free_of_cells bd 4
      have g5 := free_of_cells bd 5
      have g6 := free_of_cells bd 6
      have g7 := free_of_cells bd 7
      go_simp
      generalize hWz : World.setCell (World.setCell (World.setCell (World.setCell (World.setCell (World.setCell (World.setCell (World.setCell wd _ _) _ _) _ _) _ _) _ _) _ _) _ _) _ _ = Wz
      obtain ⟨bz, tz⟩ := store8 bd hWz
      have lz : Below w4.heap.size w4 Wz := Lwd.out.trans (tz.below Lwd.out.size hBg)
      have oz := HOd.out.turn bd (by decide) tz
      have RL := hidI (And.intro bz (And.intro oz lz))
      refine hK.out _ _ (SA.out _ lz) (fun hHz => ?_)
      clear hK K
      (try simp only [Act.put, List.getElem_toArray, List.getElem_cons_succ, List.getElem_cons_zero, List.setIfInBounds_toArray, List.set_cons_zero, List.set_cons_succ])
      (refine wpAnyH_take (i := 9) (v := ?_) rfl (by kernel_rfl) (by kernel_rfl) (by kernel_rfl) (fun _ _ _ h => h) (Or.inl ⟨by kernel_rfl, ?_⟩) (by assumption) ?_; rotate_left; (focus (intro w hSw; (try dsimp only at hSw); go_simp; (try with_reducible rfl))); (try simp only [Act.put, List.getElem_toArray, List.getElem_cons_succ, List.getElem_cons_zero, List.setIfInBounds_toArray, List.set_cons_zero, List.set_cons_succ]))
      (refine wpAnyH_take (i := 10) (v := ?_) rfl (by kernel_rfl) (by kernel_rfl) (by kernel_rfl) (fun _ _ _ h => h) (Or.inl ⟨by kernel_rfl, ?_⟩) (by assumption) ?_; rotate_left; (focus (intro w hSw; (try dsimp only at hSw); go_simp; (try with_reducible rfl))); (try simp only [Act.put, List.getElem_toArray, List.getElem_cons_succ, List.getElem_cons_zero, List.setIfInBounds_toArray, List.set_cons_zero, List.set_cons_succ]))
      refine wpAnyH_done (by kernel_rfl) ?_ _
      clear c0 c1 c2 c3 c4 c5 c6 c7 g0 g1 g2 g3 g4 g5 g6 g7 bz oz lz hHz tz hWz
      go_wp2_with fail
      go_meet
      case rel => exact ⟨BB, y1, y2, y3, f1, f2, f3, rfl, rfl, rfl, RL.out⟩
  -- END REGION 3
  case rest =>
    obtain ⟨BB, y1, y2, y3, f1, f2, f3, rfl, rfl, rfl, hbb, hob, hBx⟩ := hcut
    have HBB := hidI hbb
    have HOB := hidI hob
    have HBX := hidI hBx
    have HBAx := hidI (plan_keep HB4.out hBx)
    have HOAx := hidI (HO4.out.keep hBx)
    clear hbb hob hBx k6 Lw6
    go_wp2_with fail
    refine (office_any _).mono ?_
    rintro e v1 ⟨rfl, k1, hp1⟩
    have HP1 := hidI hp1
    clear hp1
    go_wp2_with fail
    refine (busy_any _).mono ?_
    rintro e v2 ⟨gI, gR, gO, gT, rfl, hb2, -, -, k2'⟩
    have HS2 := hidI (hb2.state 1)
    have k2 := k1.trans (k2'.mono k1.size)
    clear hb2 k1
    go_wp2_with fail
    refine (next_any officeP _ _ _ _ _ _ _ _ _ bS _ _ _ _ _ _ _ _ _ 1 _ (HP1.out.keep k2') HS2.out).mono ?_
    rintro e v3 ⟨rfl, k3'⟩
    rw [F.out.2.1]
    have k3 := k2.trans (k3'.mono k2.size)
    clear k2 k2' k3' HP1 HS2
    go_wp2_with fail
    refine (office_any _).mono ?_
    rintro e v4 ⟨rfl, k4', hp4⟩
    have HP4 := hidI hp4
    clear hp4
    go_wp2_with fail
    refine (busy_any _).mono ?_
    rintro e v5 ⟨gI, gR, gO, gT, rfl, hb5, -, -, k5'⟩
    have HS5 := hidI (hb5.state 1)
    have k5 := k3.trans ((k4'.trans (k5'.mono k4'.size)).mono k3.size)
    clear hb5 k4' k3
    go_wp2_with fail
    refine (join_any officeP _ _ _ _ _ _ _ _ _ bS _ _ _ _ _ _ _ _ _ 0 5 _ (HP4.out.keep k5') HS5.out (fun h => by cases h) (fun h => by cases h)).mono ?_
    rintro e v6 ⟨u6, rfl, hres6, k6'⟩
    rw [F.out.2.2.1] at hres6 ⊢
    rw [show numOf 3 ((goneIdx bS.takers : Nat) : Int) = 0 from rfl, hres6.2 (by decide)]
    unfold zerS
    have k6 := k5.trans (k6'.mono k5.size)
    clear k5 k5' k6' hres6 HP4 HS5
    obtain ⟨vz, hvz⟩ : ∃ vz, vz = v6.alloc (.cells #[.slice none 0 0, .slice none 0 0, .slice none 0 0, .int .i64 0, .int .i64 0, .int .i64 0, .int .i64 0, .int .i64 0] 31) := ⟨_, rfl⟩
    have l7 : Below wc.heap.size wc vz := by rw [hvz]; exact k6.alloc k6.size _
    have HVZ := hidI hvz
    clear hvz
    go_wp2_with fail
    rw [← HVZ.out]
    refine (office_any _).mono ?_
    rintro e v7 ⟨rfl, k7', hp7⟩
    have HP7 := hidI hp7
    have k7 := l7.trans (k7'.mono l7.size)
    clear hp7 l7 k6 k7'
    go_wp2_with fail
    refine (busy_any _).mono ?_
    rintro e v8 ⟨gI, gR, gO, gT, rfl, hb8, -, -, k8'⟩
    have HS8 := hidI (hb8.state 1)
    have k8 := k7.trans (k8'.mono k7.size)
    clear hb8 k7
    go_wp2_with fail
    refine (next_any officeP _ _ _ _ _ _ _ _ _ bS _ _ _ _ _ _ _ _ _ 0 _ (HP7.out.keep k8') HS8.out).mono ?_
    rintro e v9 ⟨rfl, k9'⟩
    rw [F.out.2.2.2.1, F.out.2.2.2.2.1, show numOf 0 1 = 1 from rfl]
    have k9 := k8.trans (k9'.mono k8.size)
    clear k8 k8' k9' HP7 HS8
    have K9 := hidI k9
    have hob := HOB.out.keep k9
    have hoa := HOAx.out.keep k9
    obtain ⟨c0, c1, c2, c3, c4, c5, c6, c7⟩ := st_cells (plan_keep HBB.out k9)
    obtain ⟨d0, d1, d2, d3, d4, d5, d6, d7⟩ := st_cells (plan_keep HBAx.out k9)
    obtain ⟨go, rfl⟩ : ∃ go, y2 = some ⟨go, 0, none⟩ := by
      rcases hob.r2.2 with ⟨e, e0⟩ | ⟨g, cap, cur, e, _⟩
      · cases e0
      · cases e; exact ⟨g, rfl⟩
    have o1 := hob.r2.cellAt 9 (by omega)
    have o2 := hob.r2.cellAt 13 (by omega)
    rw [facts_U.1] at o1 o2
    simp [outCells, OutD.cells, bOut] at o1 o2
    obtain ⟨ga, rfl⟩ : ∃ ga, x3 = some ⟨ga, 0, none⟩ := by
      rcases hoa.r3.2 with ⟨e, e0⟩ | ⟨g, cap, cur, e, _⟩
      · cases e0
      · cases e; exact ⟨g, rfl⟩
    have p1 := hoa.r3.cellAt 0 (by omega)
    have p2 := hoa.r3.cellAt 1 (by omega)
    rw [facts_U.2.2] at p1 p2
    simp [takerCells, TakerD.cells] at p1 p2
    obtain ⟨vs, hr1, hlv⟩ := hob.r1
    obtain ⟨gr, rfl⟩ : ∃ gr, y1 = some ⟨gr, 0, none⟩ := by
      rcases hr1.2 with ⟨e, e0⟩ | ⟨g, cap, cur, e, _⟩
      · cases e0
      · cases e; exact ⟨g, rfl⟩
    have hrl : (0 : Nat) < bbS.ready.length := by rw [facts_U.2.1]; decide
    obtain ⟨v, bl, cl, hv1, hl0⟩ := hlv.get 0 hrl
    have q1 := hr1.cellAt 0 (by omega)
    rw [hv1, hl0.v] at q1
    have hlen : (bbS.ready[0]'hrl).length = 1 := get_len facts_U.2.1 hrl rfl
    rw [hlen] at q1
    clear hob hoa hr1 hlv hv1 hl0 hlen k9
    go_wp2_with fail
    go_ret
    exact ⟨rfl, K4.out.trans ((HBX.out.trans (K9.out.mono HBX.out.size)).mono K4.out.size)⟩

end Go.Proofs.Ytpoichgodamnkaa
