import Derived.Deep.RegionHeld3
import Derived.Deep.DeepCutAuto
import Derived.Test.YtpoichgodamnkaaGreatSUk
import Derived.Test.YtpoichgodamnkaaGreatGbx
namespace Go.Proofs.YtpoichgodamnkaaGreat
open Go.RowKit Go.Maps
set_option linter.unusedVariables false
set_option maxRecDepth 100000
set_option maxHeartbeats 8000000
theorem elemLine : ElemT 27 41 1 24 := elemT_of Tryz.underlying27 Tryz.infoLine rfl (by omega)
theorem TypeT.of_turn {T : TypeId} {W W' : World} {t : Nat} {cur : Array Value} (h : W.heap[t]? = some (.cells cur T (0, 0))) (k : TurnB t W W') : TypeT T W W' :=
 ⟨k.size, fun i cur' T' hi hT => k.block i (lth_ hi) (fun e => by rw [e, h] at hi; cases hi; exact hT rfl)⟩
theorem LinesV.snoc {W : World} {n k : Nat} {xss : List (List ItemD)} {vs : List Value} (h : LinesV W n (xss.take k) vs) (hk : k < xss.length) {v : Value} {b : Option Addr} {c : Nat} (hv : LineV W n xss[k] v b c) : LinesV W n (xss.take (k + 1)) (vs ++ [v]) := by
 have hl : (xss.take k).length = k := by rw [List.length_take]; omega
 have hvl : vs.length = k := by rw [h.len, hl]
 have e : xss.take (k + 1) = xss.take k ++ [xss[k]] := List.take_succ_eq_append_getElem hk
 refine ⟨by rw [e, List.length_append, List.length_append, h.len]; rfl, fun i hi => ?_⟩
 have hi' : i < k + 1 := by rw [e, List.length_append, hl] at hi; simpa using hi
 by_cases c1 : i < k
 ·obtain ⟨u, b', c', e1, e2⟩ := h.get i (by rw [hl]; exact c1)
  refine ⟨u, b', c', by rw [List.getElem?_append_left (by omega)]; exact e1, ?_⟩
  rw [List.getElem_take] at e2 ⊢
  exact e2
 ·have : i = k := by omega
  subst this
  refine ⟨v, b, c, by rw [List.getElem?_append_right (by omega), hvl]; simp, ?_⟩
  rw [List.getElem_take]
  exact hv
theorem ownState_any (s : StateD) (b1 b2 b3 : Option Addr) (m1 d1 m2 d2 m3 d3 : Nat) (w : World) (hs : StateAt w b1 b2 b3 m1 m2 m3 s) (hn2 : b2 = none → d2 = 0) (hn3 : b3 = none → d3 = 0) (h1 : m1 ≤ 100) (hl : ∀ l ∈ s.ready, l.length ≤ 100) (h2 : m2 ≤ 1000) (h3 : m3 ≤ 100) :
  Calls Tryz.prog 60 #[.agg #[.slice b1 m1 d1, .slice b2 m2 d2, .slice b3 m3 d3, .int .i64 s.nextSeq, .int .i64 s.nextTag, .int .i64 s.came, .int .i64 s.acked, .int .i64 s.dropped]] w fun e w' => ∃ v, e = .returned v ∧ OwV w' w.heap.size v s ∧ Below w.heap.size w w' := by
 obtain ⟨hz3, hg3, hB3⟩ := allocs_heap [.cells #[.slice b1 m1 d1, .slice b2 m2 d2, .slice b3 m3 d3, .int .i64 s.nextSeq, .int .i64 s.nextTag, .int .i64 s.came, .int .i64 s.acked, .int .i64 s.dropped] 31, .cells #[.slice none 0 0, .slice none 0 0, .slice none 0 0, .int .i64 0, .int .i64 0, .int .i64 0, .int .i64 0, .int .i64 0] 31, .cells #[.slice none 0 0, .slice b2 m2 d2, .slice b3 m3 d3, .int .i64 s.nextSeq, .int .i64 s.nextTag, .int .i64 s.came, .int .i64 s.acked, .int .i64 s.dropped] 31] w
 obtain ⟨W3, hW3⟩ : ∃ W3, W3 = List.foldl World.alloc w [.cells #[.slice b1 m1 d1, .slice b2 m2 d2, .slice b3 m3 d3, .int .i64 s.nextSeq, .int .i64 s.nextTag, .int .i64 s.came, .int .i64 s.acked, .int .i64 s.dropped] 31, .cells #[.slice none 0 0, .slice none 0 0, .slice none 0 0, .int .i64 0, .int .i64 0, .int .i64 0, .int .i64 0, .int .i64 0] 31, .cells #[.slice none 0 0, .slice b2 m2 d2, .slice b3 m3 d3, .int .i64 s.nextSeq, .int .i64 s.nextTag, .int .i64 s.came, .int .i64 s.acked, .int .i64 s.dropped] 31] := ⟨_, rfl⟩
 rw [← hW3] at hz3 hg3 hB3
 have HW3 : Hid (W3 = ((w.alloc (.cells #[.slice b1 m1 d1, .slice b2 m2 d2, .slice b3 m3 d3, .int .i64 s.nextSeq, .int .i64 s.nextTag, .int .i64 s.came, .int .i64 s.acked, .int .i64 s.dropped] 31)).alloc (.cells #[.slice none 0 0, .slice none 0 0, .slice none 0 0, .int .i64 0, .int .i64 0, .int .i64 0, .int .i64 0, .int .i64 0] 31)).alloc (.cells #[.slice none 0 0, .slice b2 m2 d2, .slice b3 m3 d3, .int .i64 s.nextSeq, .int .i64 s.nextTag, .int .i64 s.came, .int .i64 s.acked, .int .i64 s.dropped] 31)) := hW3
 have hz3' : W3.heap.size = w.heap.size + 3 := by rw [hz3]; rfl
 have X0 := hidI (hg3 0 _ rfl)
 have X1 := hidI (hg3 1 _ rfl)
 have X2 := hidI (hg3 2 _ rfl)
 have HZ3 := hidI hz3'
 have HB3 := hidI hB3
 have HS := hidI (hs.keep hB3)
 have HSW := hidI hs
 have HM1 : Hid (s.ready.length = m1) := hs.l1
 have HM2 : Hid (s.outs.length = m2) := hs.l2
 have HM3 : Hid (s.takers.length = m3) := hs.l3
 have HN2 := hidI hn2
 have HN3 := hidI hn3
 have HL := hidI hl
 clear hW3 hz3 hg3 hB3 hs hn2 hn3 hl hz3'
 go_enter Tryz.func60, Tryz.ntmps60
 go_wp2_with fail
 rw [← HW3.out]
 go_loopw [4] (fun i wr => ∃ (k : Nat) (aR : Option Addr) (cR : Nat) (vs : List Value), k ≤ m1 ∧ i = .int .i64 k ∧ wr.heap[w.heap.size + 2]? = some (.cells #[.slice aR k cR, .slice b2 m2 d2, .slice b3 m3 d3, .int .i64 s.nextSeq, .int .i64 s.nextTag, .int .i64 s.came, .int .i64 s.acked, .int .i64 s.dropped] 31 (0, 0)) ∧ wr.ownsRow W3.heap.size 41 1 (.slice aR k cR) k vs ∧ LinesV wr W3.heap.size (s.ready.take k) vs ∧ FrameT W3.heap.size (w.heap.size + 2) W3 wr) (fun i _ => m1 - (intOf i).toNat)
 case atStart => exact ⟨0, none, 0, [], Nat.zero_le _, rfl, X2.out, World.ownsRow_nil _ _ _ _, ⟨rfl, fun i hi => by simp at hi⟩, FrameT.refl _ _ _⟩
 case round =>
  obtain ⟨k, aR, cR, vs, hk, rfl, hb2, hrow, hlv, hfr⟩ := hrel
  have HB2 := hidI hb2
  have HROW := hidI hrow
  have HLV := hidI hlv
  have HFR := hidI hfr
  have hB3s := hfr.size
  have hx0 := (hfr.block w.heap.size (by have := HZ3.out; omega) (by omega)).trans X0.out
  have HX0 := hidI hx0
  obtain ⟨y0, y1, y2, y3, y4, y5, y6, y7⟩ := st_cells hx0
  clear hb2 hrow hlv hfr hx0
  by_cases hlt : k < m1
  ·have HLT := hidI hlt
   have hkl : k < s.ready.length := by rw [HM1.out]; exact hlt
   have HKL := hidI hkl
   obtain ⟨g, o, b, c, ha, hg, hl⟩ := HSW.out.q1.get hkl
   subst ha
   have hbg : wr.heap[g]? = w.heap[g]? := (HFR.out.block g (by have := HZ3.out; omega) (by omega)).trans (HB3.out.block g hg)
   have c1 : wr.cell? ⟨g, o + k, none⟩ = some (.slice b (s.ready[k]'hkl).length c) := (World.cell?_of_block (w := w) (a := ⟨g, o + k, none⟩) hbg).trans hl.cell
   have HIT : Hid (ItemsAt wr b (s.ready[k]'hkl)) := by
    rcases hl.it with h0 | ⟨gi, oi, e, hgi, hc⟩
    ·exact .inl h0
    ·have hbi : wr.heap[gi]? = w.heap[gi]? := (HFR.out.block gi (by have := HZ3.out; omega) (by omega)).trans (HB3.out.block gi hgi)
     exact items_row.2 ((items_row.1 hl.it).keepBut (by have := HFR.out.size; have := HZ3.out; omega) fun gi' oi' e' => by rw [e] at e'; cases e'; exact hbi)
   have HLC : Hid (LineCell wr g (o + k) (s.ready[k]'hkl) b c) := ⟨c1, hl.le, hl.cm, hl.nil, HIT.out⟩
   obtain ⟨n, hn⟩ : ∃ n, n = (s.ready[k]'hkl).length := ⟨_, rfl⟩
   have hn100 : n ≤ 100 := by rw [hn]; exact HL.out _ (List.getElem_mem hkl)
   have HNN := hidI hn
   have HLN : Hid ((itemCells (s.ready[k]'hkl)).length = n * 5) := by show _ = _; rw [itemCells_len, hn]
   have HLZ : Hid (b = none → c = 0 ∧ n = 0) := fun e => ⟨hl.nil e, by have := hl.nil e; have := hl.le; omega⟩
   rw [← hn] at c1
   have j1 : (0 : Int) ≤ (k : Int) := by omega
   have j2 : (k : Int) < m1 := by omega
   have SX : Hid (∀ W', FrameT W3.heap.size (w.heap.size + 2) wr W' → W'.cell? ⟨w.heap.size, 0, none⟩ = some (.slice (some ⟨g, o, none⟩) m1 d1) ∧ W'.cell? ⟨g, o + k, none⟩ = some (.slice b n c)) := fun W' hW' => ⟨(World.cell?_of_block (w := wr) (a := ⟨w.heap.size, 0, none⟩) (hW'.block w.heap.size (by have := HZ3.out; omega) (by omega))).trans y0, (World.cell?_of_block (w := wr) (a := ⟨g, o + k, none⟩) (hW'.block g (by have := HZ3.out; omega) (by omega))).trans c1⟩
   have hgw : g < wr.heap.size := by have := HZ3.out; omega
   clear hl hn hbg
   go_wp2_with fail
   refine wp_region_held_drew (S := fun W' => W'.cell? ⟨w.heap.size, 0, none⟩ = some (.slice (some ⟨g, o, none⟩) m1 d1) ∧ W'.cell? ⟨g, o + k, none⟩ = some (.slice b n c)) (by kernel_rfl) (SX.out _ (FrameT.refl _ _ _).drew) (fun hHeld => ?_)
   obtain ⟨wd, hwd⟩ : ∃ wd, wd = wr.drew := ⟨_, rfl⟩
   have Lwd : Hid (Below wr.heap.size wr wd) := by show Below wr.heap.size wr wd; rw [hwd]; exact (Below.refl _ _).drew
   rw [← hwd] at hHeld ⊢
   clear hwd
   refine tk 0 ?_
   refine tk 3 ?_
   refine tk 4 ?_
   refine tk 5 ?_
   refine tk 6 ?_
   refine tk 7 ?_
   refine wpAnyH_ready (rs := [1, 2]) (by kernel_rfl) (by simp) ?_
   refine AllReadyH.cons rfl (fun K hK => ?_) (AllReadyH.cons rfl (fun K hK => ?_) AllReadyH.nil)
   ·have e1 := coc_ (pkp_ HB2.out Lwd.out) 0
    simp at e1
    go_simp
    refine hK.out _ _ (SX.out _ (FrameT.of_below Lwd.out hB3s)) (fun hH0 => ?_)
    clear hK K e1
    try refine nrm ?_
    refine rdy 2 (fun K hK => ?_)
    go_simp
    obtain ⟨wA, hwA⟩ : ∃ wA, wA = wd.alloc (.cells #[] 43) := ⟨_, rfl⟩
    have oA : wA.ownsRow wr.heap.size 43 5 (.slice (some ⟨wd.heap.size, 0, none⟩) 0 0) 0 [] := by rw [hwA]; exact World.ownsRow_made _ #[] 0 (Lwd.out.size) (Nat.zero_le _) rfl
    have LwA : Hid (Below wr.heap.size wr wA) := by show Below wr.heap.size wr wA; rw [hwA]; exact Lwd.out.alloc Lwd.out.size _
    rw [← hwA]
    refine hK.out _ _ (SX.out _ (FrameT.of_below LwA.out hB3s)) (fun hH1 => ?_)
    clear hK K hwA
    try refine nrm ?_
    refine rdy 8 (fun K hK => ?_)
    refine step_append_row elemItem (by kernel_rfl) _ _ rfl wr.heap.size _ 0 [] rfl oA b n c (itemCells (s.ready[k]'HKL.out)) rfl HLN.out HLZ.out ((items_row.1 HLC.out.it).keep LwA.out) (itemCells_one _) (by unfold maxLen; omega) (by omega) LwA.out.size ?_
    intro v8 w8 o8 g8 _
    have Lw8 : Hid (Below wr.heap.size wr w8) := LwA.out.grown g8 LwA.out.size (fun i hi => (oA.lt i hi).1)
    refine hK.out _ _ (SX.out _ (FrameT.of_below Lw8.out hB3s)) (fun hH2 => ?_)
    clear hK K
    try refine nrm ?_
    rw [Nat.zero_add, List.nil_append] at o8
    obtain ⟨b8, c8, hv8, hn8⟩ := line_of_own o8 (Nat.le_refl _)
    have he8 := hv8.v
    subst he8
    refine rdy 9 (fun K hK => ?_)
    go_simp
    obtain ⟨w9, hw9⟩ : ∃ w9, w9 = w8.alloc (.cells #[.slice b8 (s.ready[k]'HKL.out).length c8] 41) := ⟨_, rfl⟩
    have l9 : Below w8.heap.size w8 w9 := by rw [hw9]; exact (Below.refl _ _).alloc (Nat.le_refl _) _
    have x9 : w9.heap[w8.heap.size]? = some (.cells #[.slice b8 (s.ready[k]'HKL.out).length c8] 41 (0, 0)) := by rw [hw9]; exact World.alloc_heap_new w8 _
    have Lw9 : Hid (Below wr.heap.size wr w9) := Lw8.out.trans (l9.mono Lw8.out.size)
    rw [← hw9]
    refine hK.out _ _ (SX.out _ (FrameT.of_below Lw9.out hB3s)) (fun hH3 => ?_)
    clear hK K hw9
    try refine nrm ?_
    refine rdy 10 (fun K hK => ?_)
    refine step_append_row elemLine (by kernel_rfl) _ _ rfl W3.heap.size _ k vs rfl (cp2_ HROW.out Lw9.out) (some ⟨w8.heap.size, 0, none⟩) 1 1 [.slice b8 (s.ready[k]'HKL.out).length c8] rfl rfl (fun h => by cases h) (.inr ⟨_, 0, rfl, lth_ x9, fun i u hi => by rw [Nat.zero_add]; refine Eq.trans (coc_ x9 i) ?_; simpa using hi⟩) (fun u hu => by rw [List.mem_singleton.1 hu]; rfl) (by unfold maxLen; omega) (by omega) (Nat.le_trans hB3s Lw9.out.size) ?_
    intro v10 w10 o10 g10 _
    have k10 := TypeT.grown (cp2_ HROW.out Lw9.out) g10
    have f10 : FrameT W3.heap.size (w.heap.size + 2) wr w10 := (FrameT.of_below Lw9.out hB3s).grown g10 (Nat.le_trans hB3s Lw9.out.size) (fun i hi => ((cp2_ HROW.out Lw9.out).lt i hi).1)
    refine hK.out _ _ (SX.out _ f10) (fun hH10 => ?_)
    clear hK K
    try refine nrm ?_
    obtain ⟨a10, c10, rfl, -⟩ := own_row o10
    have b10 := (k10.block _ _ _ (pkp_ HB2.out Lw9.out) (by decide)).trans (pkp_ HB2.out Lw9.out)
    have e10 := coc_ b10 0
    have g10' := foc_ b10 0
    simp at e10
    refine tk 11 ?_
    refine rdy 12 (fun K hK => ?_)
    go_simp
    have k11 : TypeT 31 w10 (w10.setCell ⟨w.heap.size + 2, 0, none⟩ (.slice a10 (k + 1) c10)) := TypeT.setCell b10 _
    have b11 := scb_ b10 (j := 0) (.slice a10 (k + 1) c10)
    have f11 := f10.setCell (p := ⟨w.heap.size + 2, 0, none⟩) (.inr rfl) (.slice a10 (k + 1) c10)
    have o11 := k11.row o10 (by decide)
    have lv9 : LineV w9 W3.heap.size (s.ready[k]'HKL.out) (.slice b8 (s.ready[k]'HKL.out).length c8) b8 c8 := (⟨hv8.v, hv8.le, hv8.cm, hv8.nil, hv8.it, hv8.own.lower hB3s⟩ : LineV w8 W3.heap.size (s.ready[k]'HKL.out) (.slice b8 (s.ready[k]'HKL.out).length c8) b8 c8).keep l9
    have lv11 := (lv9.keepT (k10.keepI (by decide))).keepT (k11.keepI (by decide))
    have ls11 := ((HLV.out.keep Lw9.out).keepT (k10.keepI (by decide))).keepT (k11.keepI (by decide))
    have ls12 := ls11.snoc HKL.out lv11
    have RL := hidI (And.intro b11 (And.intro o11 (And.intro ls12 f11)))
    refine hK.out _ _ (SX.out _ f11) (fun hH12 => ?_)
    clear hK K
    refine wpAnyH_done (by kernel_rfl) ?_ _
    go_wp2_with fail
    go_roundw
    case rel => exact ⟨k + 1, a10, c10, vs ++ [.slice b8 (s.ready[k]'HKL.out).length c8], HLT.out, by have := HLT.out; go_num, RL.out.1, RL.out.2.1, RL.out.2.2.1, HFR.out.trans RL.out.2.2.2⟩
    case measure => have := HLT.out; simp [intOf]; omega
   ·go_simp
    obtain ⟨wA, hwA⟩ : ∃ wA, wA = wd.alloc (.cells #[] 43) := ⟨_, rfl⟩
    have oA : wA.ownsRow wr.heap.size 43 5 (.slice (some ⟨wd.heap.size, 0, none⟩) 0 0) 0 [] := by rw [hwA]; exact World.ownsRow_made _ #[] 0 (Lwd.out.size) (Nat.zero_le _) rfl
    have LwA : Hid (Below wr.heap.size wr wA) := by show Below wr.heap.size wr wA; rw [hwA]; exact Lwd.out.alloc Lwd.out.size _
    rw [← hwA]
    refine hK.out _ _ (SX.out _ (FrameT.of_below LwA.out hB3s)) (fun hH0 => ?_)
    clear hK K hwA
    try refine nrm ?_
    refine wpAnyH_ready (rs := [1, 8]) (by kernel_rfl) (by simp) ?_
    refine AllReadyH.cons rfl (fun K hK => ?_) (AllReadyH.cons rfl (fun K hK => ?_) AllReadyH.nil)
    ·have e1 := coc_ (pkp_ HB2.out LwA.out) 0
     simp at e1
     go_simp
     refine hK.out _ _ (SX.out _ (FrameT.of_below LwA.out hB3s)) (fun hH1 => ?_)
     clear hK K e1
     try refine nrm ?_
     refine rdy 8 (fun K hK => ?_)
     refine step_append_row elemItem (by kernel_rfl) _ _ rfl wr.heap.size _ 0 [] rfl oA b n c (itemCells (s.ready[k]'HKL.out)) rfl HLN.out HLZ.out ((items_row.1 HLC.out.it).keep LwA.out) (itemCells_one _) (by unfold maxLen; omega) (by omega) LwA.out.size ?_
     intro v8 w8 o8 g8 _
     have Lw8 : Hid (Below wr.heap.size wr w8) := LwA.out.grown g8 LwA.out.size (fun i hi => (oA.lt i hi).1)
     refine hK.out _ _ (SX.out _ (FrameT.of_below Lw8.out hB3s)) (fun hH2 => ?_)
     clear hK K
     try refine nrm ?_
     rw [Nat.zero_add, List.nil_append] at o8
     obtain ⟨b8, c8, hv8, hn8⟩ := line_of_own o8 (Nat.le_refl _)
     have he8 := hv8.v
     subst he8
     refine rdy 9 (fun K hK => ?_)
     go_simp
     obtain ⟨w9, hw9⟩ : ∃ w9, w9 = w8.alloc (.cells #[.slice b8 (s.ready[k]'HKL.out).length c8] 41) := ⟨_, rfl⟩
     have l9 : Below w8.heap.size w8 w9 := by rw [hw9]; exact (Below.refl _ _).alloc (Nat.le_refl _) _
     have x9 : w9.heap[w8.heap.size]? = some (.cells #[.slice b8 (s.ready[k]'HKL.out).length c8] 41 (0, 0)) := by rw [hw9]; exact World.alloc_heap_new w8 _
     have Lw9 : Hid (Below wr.heap.size wr w9) := Lw8.out.trans (l9.mono Lw8.out.size)
     rw [← hw9]
     refine hK.out _ _ (SX.out _ (FrameT.of_below Lw9.out hB3s)) (fun hH3 => ?_)
     clear hK K hw9
     try refine nrm ?_
     refine rdy 10 (fun K hK => ?_)
     refine step_append_row elemLine (by kernel_rfl) _ _ rfl W3.heap.size _ k vs rfl (cp2_ HROW.out Lw9.out) (some ⟨w8.heap.size, 0, none⟩) 1 1 [.slice b8 (s.ready[k]'HKL.out).length c8] rfl rfl (fun h => by cases h) (.inr ⟨_, 0, rfl, lth_ x9, fun i u hi => by rw [Nat.zero_add]; refine Eq.trans (coc_ x9 i) ?_; simpa using hi⟩) (fun u hu => by rw [List.mem_singleton.1 hu]; rfl) (by unfold maxLen; omega) (by omega) (Nat.le_trans hB3s Lw9.out.size) ?_
     intro v10 w10 o10 g10 _
     have k10 := TypeT.grown (cp2_ HROW.out Lw9.out) g10
     have f10 : FrameT W3.heap.size (w.heap.size + 2) wr w10 := (FrameT.of_below Lw9.out hB3s).grown g10 (Nat.le_trans hB3s Lw9.out.size) (fun i hi => ((cp2_ HROW.out Lw9.out).lt i hi).1)
     refine hK.out _ _ (SX.out _ f10) (fun hH10 => ?_)
     clear hK K
     try refine nrm ?_
     obtain ⟨a10, c10, rfl, -⟩ := own_row o10
     have b10 := (k10.block _ _ _ (pkp_ HB2.out Lw9.out) (by decide)).trans (pkp_ HB2.out Lw9.out)
     have e10 := coc_ b10 0
     have g10' := foc_ b10 0
     simp at e10
     refine tk 11 ?_
     refine rdy 12 (fun K hK => ?_)
     go_simp
     have k11 : TypeT 31 w10 (w10.setCell ⟨w.heap.size + 2, 0, none⟩ (.slice a10 (k + 1) c10)) := TypeT.setCell b10 _
     have b11 := scb_ b10 (j := 0) (.slice a10 (k + 1) c10)
     have f11 := f10.setCell (p := ⟨w.heap.size + 2, 0, none⟩) (.inr rfl) (.slice a10 (k + 1) c10)
     have o11 := k11.row o10 (by decide)
     have lv9 : LineV w9 W3.heap.size (s.ready[k]'HKL.out) (.slice b8 (s.ready[k]'HKL.out).length c8) b8 c8 := (⟨hv8.v, hv8.le, hv8.cm, hv8.nil, hv8.it, hv8.own.lower hB3s⟩ : LineV w8 W3.heap.size (s.ready[k]'HKL.out) (.slice b8 (s.ready[k]'HKL.out).length c8) b8 c8).keep l9
     have lv11 := (lv9.keepT (k10.keepI (by decide))).keepT (k11.keepI (by decide))
     have ls11 := ((HLV.out.keep Lw9.out).keepT (k10.keepI (by decide))).keepT (k11.keepI (by decide))
     have ls12 := ls11.snoc HKL.out lv11
     have RL := hidI (And.intro b11 (And.intro o11 (And.intro ls12 f11)))
     refine hK.out _ _ (SX.out _ f11) (fun hH12 => ?_)
     clear hK K
     refine wpAnyH_done (by kernel_rfl) ?_ _
     go_wp2_with fail
     go_roundw
     case rel => exact ⟨k + 1, a10, c10, vs ++ [.slice b8 (s.ready[k]'HKL.out).length c8], HLT.out, by have := HLT.out; go_num, RL.out.1, RL.out.2.1, RL.out.2.2.1, HFR.out.trans RL.out.2.2.2⟩
     case measure => have := HLT.out; simp [intOf]; omega
    ·refine step_append_row elemItem (by kernel_rfl) _ _ rfl wr.heap.size _ 0 [] rfl oA b n c (itemCells (s.ready[k]'HKL.out)) rfl HLN.out HLZ.out ((items_row.1 HLC.out.it).keep LwA.out) (itemCells_one _) (by unfold maxLen; omega) (by omega) LwA.out.size ?_
     intro v8 w8 o8 g8 _
     have Lw8 : Hid (Below wr.heap.size wr w8) := LwA.out.grown g8 LwA.out.size (fun i hi => (oA.lt i hi).1)
     refine hK.out _ _ (SX.out _ (FrameT.of_below Lw8.out hB3s)) (fun hH1 => ?_)
     clear hK K
     try refine nrm ?_
     rw [Nat.zero_add, List.nil_append] at o8
     obtain ⟨b8, c8, hv8, hn8⟩ := line_of_own o8 (Nat.le_refl _)
     have he8 := hv8.v
     subst he8
     refine wpAnyH_ready (rs := [1, 9]) (by kernel_rfl) (by simp) ?_
     refine AllReadyH.cons rfl (fun K hK => ?_) (AllReadyH.cons rfl (fun K hK => ?_) AllReadyH.nil)
     ·have e1 := coc_ (pkp_ HB2.out Lw8.out) 0
      simp at e1
      go_simp
      refine hK.out _ _ (SX.out _ (FrameT.of_below Lw8.out hB3s)) (fun hH2 => ?_)
      clear hK K e1
      try refine nrm ?_
      refine rdy 9 (fun K hK => ?_)
      go_simp
      obtain ⟨w9, hw9⟩ : ∃ w9, w9 = w8.alloc (.cells #[.slice b8 (s.ready[k]'HKL.out).length c8] 41) := ⟨_, rfl⟩
      have l9 : Below w8.heap.size w8 w9 := by rw [hw9]; exact (Below.refl _ _).alloc (Nat.le_refl _) _
      have x9 : w9.heap[w8.heap.size]? = some (.cells #[.slice b8 (s.ready[k]'HKL.out).length c8] 41 (0, 0)) := by rw [hw9]; exact World.alloc_heap_new w8 _
      have Lw9 : Hid (Below wr.heap.size wr w9) := Lw8.out.trans (l9.mono Lw8.out.size)
      rw [← hw9]
      refine hK.out _ _ (SX.out _ (FrameT.of_below Lw9.out hB3s)) (fun hH3 => ?_)
      clear hK K hw9
      try refine nrm ?_
      refine rdy 10 (fun K hK => ?_)
      refine step_append_row elemLine (by kernel_rfl) _ _ rfl W3.heap.size _ k vs rfl (cp2_ HROW.out Lw9.out) (some ⟨w8.heap.size, 0, none⟩) 1 1 [.slice b8 (s.ready[k]'HKL.out).length c8] rfl rfl (fun h => by cases h) (.inr ⟨_, 0, rfl, lth_ x9, fun i u hi => by rw [Nat.zero_add]; refine Eq.trans (coc_ x9 i) ?_; simpa using hi⟩) (fun u hu => by rw [List.mem_singleton.1 hu]; rfl) (by unfold maxLen; omega) (by omega) (Nat.le_trans hB3s Lw9.out.size) ?_
      intro v10 w10 o10 g10 _
      have k10 := TypeT.grown (cp2_ HROW.out Lw9.out) g10
      have f10 : FrameT W3.heap.size (w.heap.size + 2) wr w10 := (FrameT.of_below Lw9.out hB3s).grown g10 (Nat.le_trans hB3s Lw9.out.size) (fun i hi => ((cp2_ HROW.out Lw9.out).lt i hi).1)
      refine hK.out _ _ (SX.out _ f10) (fun hH10 => ?_)
      clear hK K
      try refine nrm ?_
      obtain ⟨a10, c10, rfl, -⟩ := own_row o10
      have b10 := (k10.block _ _ _ (pkp_ HB2.out Lw9.out) (by decide)).trans (pkp_ HB2.out Lw9.out)
      have e10 := coc_ b10 0
      have g10' := foc_ b10 0
      simp at e10
      refine tk 11 ?_
      refine rdy 12 (fun K hK => ?_)
      go_simp
      have k11 : TypeT 31 w10 (w10.setCell ⟨w.heap.size + 2, 0, none⟩ (.slice a10 (k + 1) c10)) := TypeT.setCell b10 _
      have b11 := scb_ b10 (j := 0) (.slice a10 (k + 1) c10)
      have f11 := f10.setCell (p := ⟨w.heap.size + 2, 0, none⟩) (.inr rfl) (.slice a10 (k + 1) c10)
      have o11 := k11.row o10 (by decide)
      have lv9 : LineV w9 W3.heap.size (s.ready[k]'HKL.out) (.slice b8 (s.ready[k]'HKL.out).length c8) b8 c8 := (⟨hv8.v, hv8.le, hv8.cm, hv8.nil, hv8.it, hv8.own.lower hB3s⟩ : LineV w8 W3.heap.size (s.ready[k]'HKL.out) (.slice b8 (s.ready[k]'HKL.out).length c8) b8 c8).keep l9
      have lv11 := (lv9.keepT (k10.keepI (by decide))).keepT (k11.keepI (by decide))
      have ls11 := ((HLV.out.keep Lw9.out).keepT (k10.keepI (by decide))).keepT (k11.keepI (by decide))
      have ls12 := ls11.snoc HKL.out lv11
      have RL := hidI (And.intro b11 (And.intro o11 (And.intro ls12 f11)))
      refine hK.out _ _ (SX.out _ f11) (fun hH12 => ?_)
      clear hK K
      refine wpAnyH_done (by kernel_rfl) ?_ _
      go_wp2_with fail
      go_roundw
      case rel => exact ⟨k + 1, a10, c10, vs ++ [.slice b8 (s.ready[k]'HKL.out).length c8], HLT.out, by have := HLT.out; go_num, RL.out.1, RL.out.2.1, RL.out.2.2.1, HFR.out.trans RL.out.2.2.2⟩
      case measure => have := HLT.out; simp [intOf]; omega
     ·go_simp
      obtain ⟨w9, hw9⟩ : ∃ w9, w9 = w8.alloc (.cells #[.slice b8 (s.ready[k]'HKL.out).length c8] 41) := ⟨_, rfl⟩
      have l9 : Below w8.heap.size w8 w9 := by rw [hw9]; exact (Below.refl _ _).alloc (Nat.le_refl _) _
      have x9 : w9.heap[w8.heap.size]? = some (.cells #[.slice b8 (s.ready[k]'HKL.out).length c8] 41 (0, 0)) := by rw [hw9]; exact World.alloc_heap_new w8 _
      have Lw9 : Hid (Below wr.heap.size wr w9) := Lw8.out.trans (l9.mono Lw8.out.size)
      rw [← hw9]
      refine hK.out _ _ (SX.out _ (FrameT.of_below Lw9.out hB3s)) (fun hH2 => ?_)
      clear hK K hw9
      try refine nrm ?_
      refine rdy 1 (fun K hK => ?_)
      have e1 := coc_ (pkp_ HB2.out Lw9.out) 0
      simp at e1
      go_simp
      refine hK.out _ _ (SX.out _ (FrameT.of_below Lw9.out hB3s)) (fun hH3 => ?_)
      clear hK K e1
      try refine nrm ?_
      refine rdy 10 (fun K hK => ?_)
      refine step_append_row elemLine (by kernel_rfl) _ _ rfl W3.heap.size _ k vs rfl (cp2_ HROW.out Lw9.out) (some ⟨w8.heap.size, 0, none⟩) 1 1 [.slice b8 (s.ready[k]'HKL.out).length c8] rfl rfl (fun h => by cases h) (.inr ⟨_, 0, rfl, lth_ x9, fun i u hi => by rw [Nat.zero_add]; refine Eq.trans (coc_ x9 i) ?_; simpa using hi⟩) (fun u hu => by rw [List.mem_singleton.1 hu]; rfl) (by unfold maxLen; omega) (by omega) (Nat.le_trans hB3s Lw9.out.size) ?_
      intro v10 w10 o10 g10 _
      have k10 := TypeT.grown (cp2_ HROW.out Lw9.out) g10
      have f10 : FrameT W3.heap.size (w.heap.size + 2) wr w10 := (FrameT.of_below Lw9.out hB3s).grown g10 (Nat.le_trans hB3s Lw9.out.size) (fun i hi => ((cp2_ HROW.out Lw9.out).lt i hi).1)
      refine hK.out _ _ (SX.out _ f10) (fun hH10 => ?_)
      clear hK K
      try refine nrm ?_
      obtain ⟨a10, c10, rfl, -⟩ := own_row o10
      have b10 := (k10.block _ _ _ (pkp_ HB2.out Lw9.out) (by decide)).trans (pkp_ HB2.out Lw9.out)
      have e10 := coc_ b10 0
      have g10' := foc_ b10 0
      simp at e10
      refine tk 11 ?_
      refine rdy 12 (fun K hK => ?_)
      go_simp
      have k11 : TypeT 31 w10 (w10.setCell ⟨w.heap.size + 2, 0, none⟩ (.slice a10 (k + 1) c10)) := TypeT.setCell b10 _
      have b11 := scb_ b10 (j := 0) (.slice a10 (k + 1) c10)
      have f11 := f10.setCell (p := ⟨w.heap.size + 2, 0, none⟩) (.inr rfl) (.slice a10 (k + 1) c10)
      have o11 := k11.row o10 (by decide)
      have lv9 : LineV w9 W3.heap.size (s.ready[k]'HKL.out) (.slice b8 (s.ready[k]'HKL.out).length c8) b8 c8 := (⟨hv8.v, hv8.le, hv8.cm, hv8.nil, hv8.it, hv8.own.lower hB3s⟩ : LineV w8 W3.heap.size (s.ready[k]'HKL.out) (.slice b8 (s.ready[k]'HKL.out).length c8) b8 c8).keep l9
      have lv11 := (lv9.keepT (k10.keepI (by decide))).keepT (k11.keepI (by decide))
      have ls11 := ((HLV.out.keep Lw9.out).keepT (k10.keepI (by decide))).keepT (k11.keepI (by decide))
      have ls12 := ls11.snoc HKL.out lv11
      have RL := hidI (And.intro b11 (And.intro o11 (And.intro ls12 f11)))
      refine hK.out _ _ (SX.out _ f11) (fun hH12 => ?_)
      clear hK K
      refine wpAnyH_done (by kernel_rfl) ?_ _
      go_wp2_with fail
      go_roundw
      case rel => exact ⟨k + 1, a10, c10, vs ++ [.slice b8 (s.ready[k]'HKL.out).length c8], HLT.out, by have := HLT.out; go_num, RL.out.1, RL.out.2.1, RL.out.2.2.1, HFR.out.trans RL.out.2.2.2⟩
      case measure => have := HLT.out; simp [intOf]; omega
  ·have hke : m1 = k := by omega
   subst hke
   have EX : Hid (∀ W', FrameT W3.heap.size (w.heap.size + 2) wr W' → W'.heap[w.heap.size]? = some (.cells #[.slice b1 m1 d1, .slice b2 m2 d2, .slice b3 m3 d3, .int .i64 s.nextSeq, .int .i64 s.nextTag, .int .i64 s.came, .int .i64 s.acked, .int .i64 s.dropped] 31 (0, 0))) := fun W' hW' => (hW'.block w.heap.size (by have := HZ3.out; omega) (by omega)).trans HX0.out
   have HOUT : Hid (OutsAt wr b2 s.outs ∧ TakersAt wr b3 s.takers) := by
    refine ⟨?_, ?_⟩
    ·refine outs_row.2 ?_
     rcases outs_row.1 HSW.out.q2 with h0 | ⟨gi, oi, e, hgi, hc⟩
     ·exact .inl h0
     ·have hbi : wr.heap[gi]? = w.heap[gi]? := (HFR.out.block gi (by have := HZ3.out; omega) (by omega)).trans (HB3.out.block gi hgi)
      exact (outs_row.1 HSW.out.q2).keepBut (by have := HFR.out.size; have := HZ3.out; omega) fun gi' oi' e' => by rw [e] at e'; cases e'; exact hbi
    ·refine takers_row.2 ?_
     rcases takers_row.1 HSW.out.q3 with h0 | ⟨gi, oi, e, hgi, hc⟩
     ·exact .inl h0
     ·have hbi : wr.heap[gi]? = w.heap[gi]? := (HFR.out.block gi (by have := HZ3.out; omega) (by omega)).trans (HB3.out.block gi hgi)
      exact (takers_row.1 HSW.out.q3).keepBut (by have := HFR.out.size; have := HZ3.out; omega) fun gi' oi' e' => by rw [e] at e'; cases e'; exact hbi
   have hzO : b2 = none → d2 = 0 ∧ m2 = 0 := fun e => ⟨HN2.out e, by
    rcases HSW.out.q2 with h | ⟨_, _, h, _⟩
    ·rw [← HM2.out, h]; rfl
    ·rw [e] at h; cases h⟩
   have hzT : b3 = none → d3 = 0 ∧ m3 = 0 := fun e => ⟨HN3.out e, by
    rcases HSW.out.q3 with h | ⟨_, _, h, _⟩
    ·rw [← HM3.out, h]; rfl
    ·rw [e] at h; cases h⟩
   have HZO := hidI hzO
   have TK : Hid (∀ W', FrameT W3.heap.size (w.heap.size + 2) wr W' → RowAt W' b3 (tkC_ s.takers)) := fun W' hW' => by
    rcases takers_row.1 HSW.out.q3 with h0 | ⟨gi, oi, e, hgi, hc⟩
    ·exact .inl h0
    ·exact (takers_row.1 HOUT.out.2).keepBut hW'.size fun gi' oi' e' => by rw [e] at e'; cases e'; exact hW'.block gi (by have := HZ3.out; omega) (by omega)
   have HZT := hidI hzT
   obtain ⟨wA, hwA⟩ : ∃ wA, wA = wr.alloc (.cells #[] 91) := ⟨_, rfl⟩
   have lA : Below wr.heap.size wr wA := by rw [hwA]; exact (Below.refl _ _).alloc (Nat.le_refl _) _
   have oA : wA.ownsRow wr.heap.size 91 8 (.slice (some ⟨wr.heap.size, 0, none⟩) 0 0) 0 [] := by rw [hwA]; exact World.ownsRow_made _ #[] 0 (Nat.le_refl _) (Nat.zero_le _) rfl
   have HWA := hidI hwA
   have LA := hidI lA
   have OA := hidI oA
   have cA := coc_ (EX.out _ (FrameT.of_below lA hB3s)) 1
   simp at cA
   rw [hwA] at cA
   have cB := coc_ (pkp_ HB2.out lA) 1
   simp at cB
   clear hlt hk hzO hzT hwA lA oA
   go_upto_region 8 with (at_builtin; rw [← HWA.out]; refine append_row elemOut (by kernel_rfl) _ _ rfl wr.heap.size _ 0 [] rfl OA.out b2 m2 d2 (outCells s.outs) rfl (by rw [outCells_len, HM2.out]) HZO.out ((outs_row.1 HOUT.out.1).keep LA.out) (outCells_one _) (by unfold maxLen; omega) (by omega) LA.out.size ?_; intro v6 w6 o6 g6 _; rw [Nat.zero_add, List.nil_append] at o6; have l6 : Below wr.heap.size wr w6 := LA.out.grown g6 LA.out.size (fun i hi => (OA.out.lt i hi).1); have L6 := hidI l6; have O6 := hidI o6; obtain ⟨a6, c6, rfl, -⟩ := own_row o6; have b6 := pkp_ HB2.out l6; have B6 := hidI b6; have d61 := coc_ b6 1; have d61f := foc_ b6 1; simp at d61; clear o6 g6 l6 b6)
   obtain ⟨w7, hw7⟩ : ∃ w7, w7 = w6.setCell ⟨w.heap.size + 1 + 1, 1, none⟩ (.slice a6 m2 c6) := ⟨_, rfl⟩
   rw [← hw7]
   have b7 : w7.heap[w.heap.size + 2]? = some (.cells #[.slice aR m1 cR, .slice a6 m2 c6, .slice b3 m3 d3, .int .i64 s.nextSeq, .int .i64 s.nextTag, .int .i64 s.came, .int .i64 s.acked, .int .i64 s.dropped] 31 (0, 0)) := by rw [hw7]; exact scb_ B6.out (j := 1) _
   have f7 : FrameT W3.heap.size (w.heap.size + 2) wr w7 := by rw [hw7]; exact (FrameT.of_below L6.out hB3s).setCell (p := ⟨w.heap.size + 1 + 1, 1, none⟩) (.inr rfl) _
   have kt7 : TypeT 31 w6 w7 := by rw [hw7]; exact TypeT.setCell B6.out _
   have hs7 : w7.heap.size = w6.heap.size := by rw [hw7]; simp [World.setCell]
   obtain ⟨w8, hw8⟩ : ∃ w8, w8 = w7.alloc (.cells #[] 93) := ⟨_, rfl⟩
   have l8 : Below w7.heap.size w7 w8 := by rw [hw8]; exact (Below.refl _ _).alloc (Nat.le_refl _) _
   have f8 := f7.trans (FrameT.of_below l8 (Nat.le_trans hB3s f7.size))
   have o8 : w8.ownsRow w7.heap.size 93 2 (.slice (some ⟨w7.heap.size, 0, none⟩) 0 0) 0 [] := by rw [hw8]; exact World.ownsRow_made _ #[] 0 (Nat.le_refl _) (Nat.zero_le _) rfl
   have cC := coc_ (EX.out _ f8) 2
   simp at cC
   rw [hw8] at cC
   have HW8 := hidI hw8
   have B7 := hidI b7
   have F7 := hidI f7
   have F8 := hidI f8
   have KT7 := hidI kt7
   have L8 := hidI l8
   have O8 := hidI o8
   have HS7 := hidI hs7
   have hx1 : w7.heap[w.heap.size + 1]? = _ := (f7.block (w.heap.size + 1) (by have := HZ3.out; omega) (by omega)).trans ((HFR.out.block (w.heap.size + 1) (by have := HZ3.out; omega) (by omega)).trans X1.out)
   have HX1 := hidI hx1
   clear hw7 hw8 b7 f7 f8 kt7 l8 o8 hs7 hx1 d61 d61f cA cB
   go_wp2_with (at_builtin; rw [← HW8.out]; refine append_row elemTaker (by kernel_rfl) _ _ rfl w7.heap.size _ 0 [] rfl O8.out b3 m3 d3 (tkC_ s.takers) rfl (by rw [takerCells_len, HM3.out]) HZT.out (TK.out _ F8.out) (takerCells_one _) (by unfold maxLen; omega) (by omega) L8.out.size ?_; intro v9 w9 o9 g9 _; rw [Nat.zero_add, List.nil_append] at o9; have O9 := hidI o9; obtain ⟨a9, c9, rfl, -⟩ := own_row o9; have G9 := hidI g9; have l9 : Below w7.heap.size w7 w9 := L8.out.grown g9 L8.out.size (fun i hi => (O8.out.lt i hi).1); have L9 := hidI l9; have b9 := pkp_ B7.out l9; have B9 := hidI b9; have x9 := coc_ b9 2; have x9f := foc_ b9 2; simp at x9; clear y0 y1 y2 y3 y4 y5 y6 y7; obtain ⟨y0, y1, y2, y3, y4, y5, y6, y7⟩ := st_cells b9; have r9 := pkp_ HX1.out l9; obtain ⟨u0, u1, u2, u3, u4, u5, u6, u7⟩ := st_cells r9; have v0 := foc_ r9 0; have v1 := foc_ r9 1; have v2 := foc_ r9 2; have v3 := foc_ r9 3; have v4 := foc_ r9 4; have v5 := foc_ r9 5; have v6 := foc_ r9 6; have v7 := foc_ r9 7; have R9 := hidI r9; clear o9 g9 l9 b9 r9)
   generalize hX : w9.setCell ⟨w.heap.size + 1 + 1, 2, none⟩ (.slice a9 m3 c9) = X
   generalize hW4 : World.setCell (World.setCell (World.setCell (World.setCell (World.setCell (World.setCell (World.setCell (World.setCell X _ _) _ _) _ _) _ _) _ _) _ _) _ _) _ _ = W4
   have ktX : TypeT 31 w9 X := by rw [← hX]; exact TypeT.setCell B9.out _
   have hRX : X.heap[w.heap.size + 1]? = some (.cells #[.slice none 0 0, .slice none 0 0, .slice none 0 0, .int .i64 0, .int .i64 0, .int .i64 0, .int .i64 0, .int .i64 0] 31 (0, 0)) := by rw [← hX]; exact (heap_setCell_other w9 ⟨w.heap.size + 1 + 1, 2, none⟩ (w.heap.size + 1) _ (by show w.heap.size + 1 ≠ w.heap.size + 1 + 1; omega)).trans R9.out
   obtain ⟨b4, t4⟩ := store8 hRX hW4
   obtain ⟨z0, z1, z2, z3, z4, z5, z6, z7⟩ := st_cells b4
   have kt4 : TypeT 31 X W4 := TypeT.of_turn hRX t4
   have ktA : TypeT 31 w6 W4 := ((KT7.out.trans (TypeT.of_below L9.out)).trans ktX).trans kt4
   have fX : FrameT W3.heap.size (w.heap.size + 2) W3 X := by rw [← hX]; exact ((HFR.out.trans F7.out).trans (FrameT.of_below L9.out (Nat.le_trans hB3s F7.out.size))).setCell (p := ⟨w.heap.size + 1 + 1, 2, none⟩) (.inr rfl) _
   have e1 : s.ready.take m1 = s.ready := List.take_of_length_le (by rw [HM1.out]; exact Nat.le_refl _)
   have hz := HZ3.out
   exact bodyPost_ret (v := .agg #[.slice aR m1 cR, .slice a6 m2 c6, .slice a9 m3 c9, .int .i64 s.nextSeq, .int .i64 s.nextTag, .int .i64 s.came, .int .i64 s.acked, .int .i64 s.dropped]) (by simp [results, Tryz.results60, go_sem, z0, z1, z2, z3, z4, z5, z6, z7]) rfl ⟨_, rfl, ⟨_, _, _, _, _, _, _, _, _, rfl, HM1.out, HM2.out, HM3.out, by omega, ⟨vs, own_base (ktA.row (cp2_ HROW.out L6.out) (by decide)) (by omega), by
    have := ((HLV.out.keep L6.out).keepT (ktA.keepI (by decide))).lower (n' := w.heap.size) (by omega)
    rw [e1] at this
    exact this⟩, own_base (ktA.row O6.out (by decide)) (by omega), own_base ((ktX.trans kt4).row O9.out (by decide)) (by have := F7.out.size; omega)⟩, HB3.out.trans ((fX.below (by omega) (by omega)).trans (t4.below (by have := fX.size; omega) (by omega)))⟩
end Go.Proofs.YtpoichgodamnkaaGreat
