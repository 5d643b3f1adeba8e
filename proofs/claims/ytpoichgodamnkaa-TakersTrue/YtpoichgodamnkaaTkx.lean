import Derived.Deep.RegionWith
import Derived.Test.YtpoichgodamnkaaTjx
namespace Go.Proofs.Ytpoichgodamnkaa
open Go.RowKit Go.Maps
set_option linter.unusedVariables false
set_option maxRecDepth 100000
set_option maxHeartbeats 4000000
structure LinesTo (W : World) (n : Nat) (xss : List (List ItemD)) (k : Nat) (vs : List Value) : Prop where
 len : vs.length = xss.length
 get : ∀ i (h : i < xss.length), i < k → ∃ v b c, vs[i]? = some v ∧ LineV W n xss[i] v b c
theorem LinesTo.keepT {W W' : World} {n k : Nat} {xss : List (List ItemD)} {vs : List Value} (h : LinesTo W n xss k vs) (hk : KeepI n W W') : LinesTo W' n xss k vs := by
 refine ⟨h.len, fun i hi hik => ?_⟩
 obtain ⟨v, b, c, h1, h2⟩ := h.get i hi hik
 exact ⟨v, b, c, h1, h2.keepT hk⟩
theorem LinesTo.set {W : World} {n k : Nat} {xss : List (List ItemD)} {vs : List Value} (h : LinesTo W n xss k vs) (hk : k < xss.length) {v : Value} {b : Option Addr} {c : Nat} (hv : LineV W n xss[k] v b c) : LinesTo W n xss (k + 1) (vs.set k v) := by
 refine ⟨by rw [List.length_set]; exact h.len, fun i hi hik => ?_⟩
 by_cases e : i = k
 ·subst e
  exact ⟨v, b, c, by rw [List.getElem?_set, if_pos rfl, if_pos (by rw [h.len]; exact hi)], hv⟩
 ·obtain ⟨u, b', c', h1, h2⟩ := h.get i hi (by omega)
  exact ⟨u, b', c', by rw [List.getElem?_set, if_neg (fun e' => e e'.symm)]; exact h1, h2⟩
theorem LinesTo.all {W : World} {n k : Nat} {xss : List (List ItemD)} {vs : List Value} (h : LinesTo W n xss k vs) (hk : xss.length ≤ k) : LinesV W n xss vs := ⟨h.len, fun i hi => h.get i hi (by omega)⟩
theorem line_of_own {W : World} {base n : Nat} {v : Value} {xs : List ItemD} {m : Nat} (h : W.ownsRow base 51 5 v m (itemCells xs)) (hn : n ≤ base) : ∃ b c, LineV W n xs v b c ∧ m = xs.length := by
 obtain ⟨e, a, c, h1, h2, h3, h4, h5⟩ := own_items h
 refine ⟨a, c, ⟨by rw [h1, e], by omega, h3, fun z => (h4 z).1, h5, ?_⟩, e⟩
 rcases h.2 with ⟨rfl, _⟩ | ⟨g, cap, cur, rfl, hb, hg, _⟩
 ·cases h1; exact .inl rfl
 ·cases h1; exact .inr ⟨g, 0, cur, rfl, by omega, hg⟩
theorem copiedS_any (s : StateD) (b1 b2 b3 : Option Addr) (m1 d1 m2 d2 m3 d3 : Nat) (w : World) (hs : StateAt w b1 b2 b3 m1 m2 m3 s) (hn2 : b2 = none → d2 = 0) (hn3 : b3 = none → d3 = 0) (h1 : m1 ≤ 100) (hl : ∀ l ∈ s.ready, l.length ≤ 100) (h2 : m2 ≤ 1000) (h3 : m3 ≤ 100) :
 Calls Try.prog 97 #[.agg #[.slice b1 m1 d1, .slice b2 m2 d2, .slice b3 m3 d3, .int .i64 s.nextSeq, .int .i64 s.nextTag, .int .i64 s.came, .int .i64 s.acked, .int .i64 s.dropped]] w fun e w' => ∃ v, e = .returned v ∧ OwV w' w.heap.size v s ∧ Below w.heap.size w w' := by
 obtain ⟨i0, hi, hz0, hz1, hz2⟩ := info_parts Try.infoLine
 obtain ⟨W2, hW2, hs2, hb0, hb1, hBw⟩ : ∃ W2, W2 = (w.alloc (.cells #[.slice b1 m1 d1, .slice b2 m2 d2, .slice b3 m3 d3, .int .i64 s.nextSeq, .int .i64 s.nextTag, .int .i64 s.came, .int .i64 s.acked, .int .i64 s.dropped] 31)).alloc (.cells #[.slice none 0 0, .slice none 0 0, .slice none 0 0, .int .i64 0, .int .i64 0, .int .i64 0, .int .i64 0, .int .i64 0] 31) ∧ W2.heap.size = w.heap.size + 2 ∧ W2.heap[w.heap.size]? = some (.cells #[.slice b1 m1 d1, .slice b2 m2 d2, .slice b3 m3 d3, .int .i64 s.nextSeq, .int .i64 s.nextTag, .int .i64 s.came, .int .i64 s.acked, .int .i64 s.dropped] 31 (0, 0)) ∧ W2.heap[w.heap.size + 1]? = some (.cells #[.slice none 0 0, .slice none 0 0, .slice none 0 0, .int .i64 0, .int .i64 0, .int .i64 0, .int .i64 0, .int .i64 0] 31 (0, 0)) ∧ Below w.heap.size w W2 := by
  obtain ⟨h1, h2, h3, h4⟩ := two_heap w _ _ _ rfl
  exact ⟨_, rfl, h1, h2, h3, h4⟩
 have HW2 := hidI hW2
 have HB0 := hidI hb0
 have HB1 := hidI hb1
 have HBW := hidI hBw
 have HS := hidI (hs.keep hBw)
 have HM1 : Hid (s.ready.length = m1) := hs.l1
 have HM2 : Hid (s.outs.length = m2) := hs.l2
 have HM3 : Hid (s.takers.length = m3) := hs.l3
 have HS2 : Hid (W2.heap.size = w.heap.size + 2) := hs2
 have HN2 := hidI hn2
 have HN3 := hidI hn3
 have HL := hidI hl
 have s0 := hBw.size
 obtain ⟨y0, y1, y2, y3, y4, y5, y6, y7⟩ := st_cells hb0
 clear hW2 hb0 hb1 hs hs2 hn2 hn3 hl hBw
 go_enter Try.func97, Try.ntmps97
 go_wp2_with (at_make; rw [← HW2.out]; refine wpList_make_full _ rfl _ _ 27 rfl W2.heap.size 49 i0 (.slice none 0 0) 1 Try.underlying27 hi hz0 hz1 _ _ _ _ m1 rfl rfl rfl rfl (by rw [hz2]; omega) (by unfold maxLen; omega) (Nat.le_refl _) ?_; intro w3 hown3 hgrow3; have q3 := (hgrow3.block w.heap.size (by have := HS2.out; omega) (by simp)).trans HB0.out; clear y0 y1 y2 y3 y4 y5 y6 y7; obtain ⟨y0, y1, y2, y3, y4, y5, y6, y7⟩ := st_cells q3)
 clear q3
 have HB3 : Hid (Below W2.heap.size W2 w3) := (Below.refl _ _).grown hgrow3 (Nat.le_refl _) (by simp)
 have HO3 := hidI hown3
 clear hown3 hgrow3 y0 y1 y2 y3 y4 y5 y6 y7
 go_loopw [4, 5, 13] (fun _ _ i wr => ∃ (k : Nat) (vs : List Value), k ≤ m1 ∧ i = .int .i64 k ∧ wr.ownsRow W2.heap.size 49 1 (.slice (some ⟨W2.heap.size, 0, none⟩) m1 m1) m1 vs ∧ LinesTo wr W2.heap.size s.ready k vs ∧ Below W2.heap.size W2 wr) (fun _ _ i _ => m1 - (intOf i).toNat)
 case atStart => exact ⟨0, _, Nat.zero_le _, rfl, HO3.out, ⟨by rw [made_lines, List.length_replicate]; exact HM1.out.symm, fun i hi h => absurd h (Nat.not_lt_zero _)⟩, HB3.out⟩
 case round =>
  obtain ⟨k, vs, hk, rfl, hown, hlt0, hB⟩ := hrel
  have HO := hidI hown
  have HLT0 := hidI hlt0
  have HB := hidI hB
  have hBs := hB.size
  obtain ⟨y0, y1, y2, y3, y4, y5, y6, y7⟩ := st_cells ((hB.block _ (by have := HS2.out; omega)).trans HB0.out)
  clear hown hlt0
  by_cases hlt : k < m1
  ·have HLT := hidI hlt
   have hkl : k < s.ready.length := by rw [HM1.out]; exact hlt
   obtain ⟨g, o, b, c, ha, hg, hl⟩ := (HS.out.q1.keep hB).get hkl
   subst ha
   have c1 := hl.cell
   have HLC := hidI hl
   have HKL := hidI hkl
   obtain ⟨n, hn⟩ : ∃ n, n = (s.ready[k]'hkl).length := ⟨_, rfl⟩
   have HNN := hidI hn
   rw [← hn] at c1
   have hn100 : n ≤ 100 := by rw [hn]; exact HL.out _ (List.getElem_mem hkl)
   have j1 : (0 : Int) ≤ (k : Int) := by omega
   have j2 : (k : Int) < m1 := by omega
   clear hl hn
   go_wp2_with fail
   refine (copyItem_any (s.ready[k]'HKL.out) b n c wr (by rw [itemCells_len, HNN.out]) (by omega) (fun e => ⟨HLC.out.nil e, by have := HLC.out.nil e; have := HLC.out.le; have := HNN.out; omega⟩) (items_row.1 HLC.out.it)).mono ?_
   rintro e w5 ⟨v, rfl, hown5, hB5⟩
   obtain ⟨b5, c5, hv5, hn5⟩ := line_of_own hown5 (Nat.le_trans hBs (Nat.le_refl _))
   have hve := hv5.v
   have HV5 := hidI hv5
   have hO5 := cp2_ HO.out hB5
   have hf5 := hO5.frozenAt k
   have hc5 := hO5.cellAt k (by omega)
   have HO5 := hidI hO5
   have HB5 := hidI hB5
   have s5 := hB5.size
   have hvs : vs[k]? = some (vs[k]'(by rw [HLT0.out.len]; exact HKL.out)) := List.getElem?_eq_getElem _
   rw [hvs] at hc5
   subst hve
   clear hv5 hO5 hB5 hown5 hn5 hvs
   go_wp2_with fail
   go_roundw
   case rel =>
    have hst := HO5.out.stored k (.slice b5 (s.ready[k]'HKL.out).length c5)
    refine ⟨k + 1, vs.set k (.slice b5 (s.ready[k]'HKL.out).length c5), HLT.out, by have := HLT.out; go_num, hst.1, ?_, ?_⟩
    ·have hki := KeepI.row (n := W2.heap.size) HO5.out (by decide) k (.slice b5 (s.ready[k]'HKL.out).length c5)
     exact LinesTo.set ((HLT0.out.keepT (KeepI.of_below HB5.out)).keepT hki) HKL.out (HV5.out.keepT hki)
    ·exact (HB.out.trans (HB5.out.mono hBs)).setCell (p := ⟨W2.heap.size, k, none⟩) (Nat.le_refl _) _
   case measure => have := HLT.out; simp [intOf]; omega
  ·have hke : m1 = k := by omega
   subst hke
   clear hlt hk
   have hO0 := (hB.block _ (by have := HS2.out; omega)).trans HB0.out
   have HOD : Hid (∀ W, Below wr.heap.size wr.drew W → W.heap[w.heap.size]? = some (.cells #[.slice b1 m1 d1, .slice b2 m2 d2, .slice b3 m3 d3, .int .i64 s.nextSeq, .int .i64 s.nextTag, .int .i64 s.came, .int .i64 s.acked, .int .i64 s.dropped] 31 (0, 0))) := fun W hW => (hW.block _ (by have := HS2.out; omega)).trans hO0
   have HRD : Hid (∀ W, Below wr.heap.size wr.drew W → W.heap[w.heap.size + 1]? = some (.cells #[.slice none 0 0, .slice none 0 0, .slice none 0 0, .int .i64 0, .int .i64 0, .int .i64 0, .int .i64 0, .int .i64 0] 31 (0, 0))) := fun W hW => (hW.block _ (by have := HS2.out; omega)).trans ((hB.block _ (by have := HS2.out; omega)).trans HB1.out)
   have HST := hidI (HS.out.keep hB)
   have hm2 : b2 = none → d2 = 0 ∧ m2 = 0 := fun e => ⟨HN2.out e, by
    rcases HST.out.q2 with h | ⟨_, _, h, _⟩
    ·rw [← HM2.out, h]; rfl
    ·rw [e] at h; cases h⟩
   have hm3 : b3 = none → d3 = 0 ∧ m3 = 0 := fun e => ⟨HN3.out e, by
    rcases HST.out.q3 with h | ⟨_, _, h, _⟩
    ·rw [← HM3.out, h]; rfl
    ·rw [e] at h; cases h⟩
   have CO := hidI (copyOut_any s.outs b2 m2 d2 wr.drew (by rw [outCells, flat_length (k := 8) (fun _ => rfl), HM2.out]) (by omega) hm2 (outs_row.1 HST.out.q2))
   have CT : Hid (∀ W, Below wr.heap.size wr.drew W → Calls Try.prog 115 #[.slice b3 m3 d3] W fun e w' => ∃ v, e = .returned v ∧ w'.ownsRow W.heap.size 56 2 v m3 (tkC_ s.takers) ∧ Below W.heap.size W w') := fun W hW => copyTaker_any s.takers b3 m3 d3 W (by rw [tkC_, flat_length (k := 2) (fun _ => rfl), HM3.out]) (by omega) hm3 ((takers_row.1 HST.out.q3).keep (bud_ hW))
   clear hm2 hm3 hO0
   go_wp2_with fail
   go_region_with (first
    | (go_at_call 114; refine CO.out.mono ?_; rintro e w6 ⟨v6, rfl, hown6, hB6⟩; obtain ⟨a6, c6, rfl, l6, l6', l6n, r6⟩ := own_row hown6; have HO6 := hidI hown6; have HB6 := hidI hB6; obtain ⟨z0, z1, z2, z3, z4, z5, z6, z7⟩ := st_cells (HOD.out _ hB6); clear hown6 hB6 l6 l6' l6n r6)
    | (go_at_call 115; refine (CT.out _ HB6.out).mono ?_; rintro e w7 ⟨v7, rfl, hown7, hB7⟩; obtain ⟨a7, c7, rfl, l7, l7', l7n, r7⟩ := own_row hown7; have HO7 := hidI hown7; have HB7 := hidI hB7; have k7 := HB6.out.trans (hB7.mono HB6.out.size); have q7 := HOD.out _ k7; have K7 := hidI k7; obtain ⟨u0, u1, u2, u3, u4, u5, u6, u7⟩ := st_cells q7; have f0 := foc_ q7 0; have f1 := foc_ q7 1; have f2 := foc_ q7 2; have Q7 := hidI q7; have r7b := HRD.out _ K7.out; have R7 := hidI r7b; obtain ⟨x0, x1, x2, x3, x4, x5, x6, x7⟩ := st_cells r7b; have e0 := foc_ r7b 0; have e1 := foc_ r7b 1; have e2 := foc_ r7b 2; have e3 := foc_ r7b 3; have e4 := foc_ r7b 4; have e5 := foc_ r7b 5; have e6 := foc_ r7b 6; have e7 := foc_ r7b 7; clear r7b hown7 hB7 l7 l7' l7n r7 q7 k7))
   all_goals
    go_wp2_with fail
    generalize hX : World.setCell (World.setCell (World.setCell w7 _ _) _ _) _ _ = X
    generalize hW4 : World.setCell (World.setCell (World.setCell (World.setCell (World.setCell (World.setCell (World.setCell (World.setCell X _ _) _ _) _ _) _ _) _ _) _ _) _ _) _ _ = W4
    have tX : TurnB w.heap.size w7 X := by rw [← hX]; exact ((sct_ _ _ _ _).trans (sct_ _ _ _ _)).trans (sct_ _ _ _ _)
    have hRX : X.heap[w.heap.size + 1]? = _ := (tX.block _ (lth_ R7.out) (by omega)).trans R7.out
    obtain ⟨b4, t4⟩ := store8 hRX hW4
    obtain ⟨z0, z1, z2, z3, z4, z5, z6, z7⟩ := st_cells b4
    exact bodyPost_ret (v := .agg #[.slice (some ⟨W2.heap.size, 0, none⟩) m1 m1, .slice a6 m2 c6, .slice a7 m3 c7, .int .i64 s.nextSeq, .int .i64 s.nextTag, .int .i64 s.came, .int .i64 s.acked, .int .i64 s.dropped]) (by simp [results, Try.results97, go_sem, z0, z1, z2, z3, z4, z5, z6, z7]) rfl (by
     have T4 : ∀ k, W2.heap.size ≤ k → k < w7.heap.size → W4.heap[k]? = w7.heap[k]? := fun k h1 h2 => (t4.block k (Nat.lt_of_lt_of_le h2 tX.size) (by have := HS2.out; omega)).trans (tX.block k h2 (by have := HS2.out; omega))
     have hsz : w7.heap.size ≤ W4.heap.size := Nat.le_trans tX.size t4.size
     have g6 : W2.heap.size ≤ wr.heap.size := hBs
     have g7 : wr.heap.size ≤ w6.heap.size := HB6.out.size
     have B7 : Below wr.heap.size wr w7 := bud_ K7.out
     have r1 := cp2_ HO.out B7
     have KI : KeepI w.heap.size w7 W4 := ⟨hsz, fun g cur hn hg => by
      by_cases hge : W2.heap.size ≤ g
      ·exact T4 g hge (lth_ hg)
      ·exfalso
       have : g = w.heap.size ∨ g = w.heap.size + 1 := by have := HS2.out; omega
       rcases this with rfl | rfl
       ·rw [Q7.out] at hg; cases hg
       ·rw [R7.out] at hg; cases hg⟩
     have KR : ∀ {T : TypeId} {size n : Nat} {v : Value} {cs : List Value} {base : Nat}, w7.ownsRow base T size v n cs → W2.heap.size ≤ base → W4.ownsRow w.heap.size T size v n cs := fun h hb => own_base (row_keep h (fun k hk => by have := h.lt k hk; exact T4 k (by omega) this.2)) (by omega)
     refine ⟨_, rfl, ⟨_, _, _, _, _, _, _, _, _, rfl, HM1.out, HM2.out, HM3.out, by omega, ⟨vs, KR r1 (Nat.le_refl _), ?_⟩, KR (cp2_ HO6.out HB7.out) g6, KR HO7.out (by omega)⟩, ?_⟩
     ·exact (((HLT0.out.all (by rw [HM1.out]; exact Nat.le_refl _)).lower (by omega)).keepT (KeepI.of_below B7)).keepT KI
     ·exact HBW.out.trans (((hB.trans (B7.mono hBs)).mono s0).trans ((tX.below (by have := B7.size; omega) (Nat.le_refl _)).trans (t4.below (by have := tX.size; have := B7.size; omega) (by omega)))))
def StBox (W : World) (n t : Nat) (s : StateD) : Prop := ∃ b1 b2 b3 m1 d1 m2 d2 m3 d3, W.heap[t]? = some (.cells #[.slice b1 m1 d1, .slice b2 m2 d2, .slice b3 m3 d3, .int .i64 s.nextSeq, .int .i64 s.nextTag, .int .i64 s.came, .int .i64 s.acked, .int .i64 s.dropped] 31 (0, 0)) ∧ OwnSt W n b1 b2 b3 m1 d1 m2 d2 m3 d3 s
def zerS : Value := .agg #[.slice none 0 0, .slice none 0 0, .slice none 0 0, .int .i64 0, .int .i64 0, .int .i64 0, .int .i64 0, .int .i64 0]
theorem OwnSt.turn {W W' : World} {n t : Nat} {b1 b2 b3 : Option Addr} {m1 d1 m2 d2 m3 d3 : Nat} {s : StateD} {cur : Array Value} {T : TypeId} (h : OwnSt W n b1 b2 b3 m1 d1 m2 d2 m3 d3 s) (ht : W.heap[t]? = some (.cells cur T (0, 0))) (hT : T ≠ 51 ∧ T ≠ 53 ∧ T ≠ 56 ∧ T ≠ 49) (k : TurnB t W W') : OwnSt W' n b1 b2 b3 m1 d1 m2 d2 m3 d3 s := by
 obtain ⟨vs, h1, h2⟩ := h.r1
 have KR : ∀ {T' : TypeId} {size m : Nat} {v : Value} {cs : List Value}, W.ownsRow n T' size v m cs → T' ≠ T → W'.ownsRow n T' size v m cs := fun h hne => row_keep h (fun j hj => k.block j (h.lt j hj).2 (fun e => row_other h ht hne (by rw [hj, e])))
 refine ⟨h.l1, h.l2, h.l3, h.x2, ⟨vs, KR h1 (fun e => hT.2.2.2 e.symm), h2.keepT ⟨k.size, fun g cur' _ hg => k.block g (lth_ hg) (fun e => ?_)⟩⟩, KR h.r2 (fun e => hT.2.1 e.symm), KR h.r3 (fun e => hT.2.2.1 e.symm)⟩
 rw [e, ht] at hg
 cases hg; exact hT.1 rfl
def StRes (W : World) (n : Nat) (v : Value) (E : Int) (s : StateD) : Prop := (E = 0 → OwV W n v s) ∧ (E ≠ 0 → v = zerS)
theorem StRes.keep {W W' : World} {n : Nat} {v : Value} {E : Int} {s : StateD} (h : StRes W n v E s) (hB : Below W.heap.size W W') : StRes W' n v E s := ⟨fun e => (h.1 e).keep hB, h.2⟩
theorem StRes.lower {W : World} {n n' : Nat} {v : Value} {E : Int} {s : StateD} (h : StRes W n v E s) (hn : n' ≤ n) : StRes W n' v E s := ⟨fun e => (h.1 e).lower hn, h.2⟩
def Does (f : FuncId) (cap : Array Value) (w : World) (s : StateD) (E N : Int) (S' : StateD) : Prop :=
 ∀ (W : World) (n t : Nat), Below w.heap.size w W → w.heap.size ≤ t → t < n → n ≤ W.heap.size → StBox W n t s →
   Calls Try.prog f (#[.pointer (some ⟨t, 0, none⟩)] ++ cap) W fun e W' => FrameT n t W W' ∧ ((E ≠ 0 ∧ e = panE E) ∨ (E = 0 ∧ e = .returned (.int .i64 N) ∧ StBox W' n t S'))
theorem small_state {p : PlanD} {s : StateD} (h : RightX p s 0) : s.ready.length ≤ 100 ∧ (∀ l ∈ s.ready, l.length ≤ 100) ∧ s.outs.length ≤ 1000 ∧ s.takers.length ≤ 100 := by
 have h1 := h.rp.few.2.1
 have h2 := h.len
 have h3 := h.tk
 refine ⟨by omega, fun l hl => by have := h.line6 hl; omega, ?_, by omega⟩
 have hall : sumH s s.takers.length = s.outs.length := sumH_all h.outs
 have hk : ∀ k, k ≤ s.takers.length → sumH s k ≤ k * 4 := by
  intro k
  induction k with
  | zero => intro _; exact Nat.le_refl _
  | succ k ih =>
    intro hk
    have a := ih (by omega)
    have b := h.hold k (by omega)
    have hm : (s.takers.getD k ⟨0, 0⟩).most ≤ 4 := by
     rw [List.getD_eq_getElem?_getD, List.getElem?_eq_getElem (by omega)]
     have := h.tok _ (List.getElem_mem (show k < s.takers.length by omega))
     unfold takerOk at this
     simp only [Bool.and_eq_true, decide_eq_true_eq] at this
     exact this.2.2
    show sumH s k + heldN s k ≤ (k + 1) * 4
    omega
 have := hk s.takers.length (Nat.le_refl _)
 omega
theorem StateAt.small {W : World} {b1 b2 b3 : Option Addr} {m1 m2 m3 : Nat} {s : StateD} {p : PlanD} (h : StateAt W b1 b2 b3 m1 m2 m3 s) (hr : RightX p s 0) : m1 ≤ 100 ∧ (∀ l ∈ s.ready, l.length ≤ 100) ∧ m2 ≤ 1000 ∧ m3 ≤ 100 := by
 have := small_state hr
 rw [h.l1, h.l2, h.l3] at this
 exact this
theorem told1_any (p : PlanD) (a1 a2 a3 : Option Addr) (n1 c1 n2 c2 n3 c3 : Nat) (s : StateD) (b1 b2 b3 : Option Addr) (m1 d1 m2 d2 m3 d3 : Nat) (f : FuncId) (hf : Goes f) (cap : Array Value) (w0 : World) (E N : Int) (S' : StateD) (hE0 : stE p s ≠ 0 → E = stE p s) (hdo : stE p s = 0 → Does f cap w0 s E N S')
 (B : Nat) (hB0 : w0.heap.size ≤ B) (w : World) (h0 : Below w0.heap.size w0 w) (hw : B + 6 < w.heap.size) (hp : PlanAt w a1 a2 a3 n1 n2 n3 p) (hs : StateAt w b1 b2 b3 m1 m2 m3 s) (hn2 : b2 = none → d2 = 0) (hn3 : b3 = none → d3 = 0)
 (x0 : w.heap[B]? = some (.cells #[.slice a1 n1 c1, .slice a2 n2 c2, .slice a3 n3 c3] 26 (0, 0))) (x1 : w.heap[B + 1]? = some (.cells #[.slice b1 m1 d1, .slice b2 m2 d2, .slice b3 m3 d3, .int .i64 s.nextSeq, .int .i64 s.nextTag, .int .i64 s.came, .int .i64 s.acked, .int .i64 s.dropped] 31 (0, 0))) (x2 : w.heap[B + 2]? = some (.cells #[.func (.func f) #[] cap] 91 (0, 0))) (x4 : w.heap[B + 4]? = some (.cells #[.slice none 0 0, .slice none 0 0, .slice none 0 0, .int .i64 0, .int .i64 0, .int .i64 0, .int .i64 0, .int .i64 0] 31 (0, 0))) (x5 : w.heap[B + 5]? = some (.cells #[.int .i64 0] 3 (0, 0))) :
 Calls Try.prog 96 #[.pointer (some ⟨B, 0, none⟩), .pointer (some ⟨B + 1, 0, none⟩), .pointer (some ⟨B + 4, 0, none⟩), .pointer (some ⟨B + 2, 0, none⟩), .pointer (some ⟨B + 5, 0, none⟩)] w fun e w' =>
  e = askE E ∧ w.heap.size ≤ w'.heap.size ∧ (∀ k, k < w.heap.size → k ≠ B + 4 → k ≠ B + 5 → w'.heap[k]? = w.heap[k]?) ∧ w'.os = w.os ∧ w'.tape = w.tape ∧ w'.output = w.output ∧ (E = 0 → (∃ n, w.heap.size ≤ n ∧ StBox w' n (B + 4) S') ∧ w'.heap[B + 5]? = some (.cells #[.int .i64 N] 3 (0, 0))) := by
 obtain ⟨E0, hE0'⟩ : ∃ E0, E0 = stE p s := ⟨_, rfl⟩
 have HE0 := hidI hE0'
 have HEE := hidI hE0
 have HDO := hidI hdo
 have HP := hidI hp
 have HS := hidI hs
 have HN2 := hidI hn2
 have HN3 := hidI hn3
 have H0 := hidI h0
 have X0 := hidI x0
 have X1 := hidI x1
 have X2 := hidI x2
 have X4 := hidI x4
 have X5 := hidI x5
 have hf' : ∀ (args : Array Value) (w : World), Sem.run Try.prog (callFunc f args) w = .ok (.enter f args) w := hf
 obtain ⟨p0, p1, p2⟩ := pl_cells x0
 obtain ⟨y0, y1, y2, y3, y4, y5, y6, y7⟩ := st_cells x1
 clear hE0' hE0 hdo hp hs hn2 hn3 h0 x0 x1 x2 x4 x5 hf
 go_enter Try.func96, Try.ntmps96
 go_wp2_with fail
 refine (scheck_any p _ _ _ _ _ _ _ _ _ s _ _ _ _ _ _ _ _ _ _ HP.out HS.out).mono ?_
 rintro e w1 ⟨rfl, k1⟩
 rw [← HE0.out]
 have s1 := k1.size
 have k1' := k1.alloc s1 (.cells #[.int .i64 E0] 32)
 have s1' := k1'.size
 clear p0 p1 p2 y0 y1 y2 y3 y4 y5 y6 y7
 by_cases hz : E0 = 0
 ·subst hz
  go_wp2_with (go_at_call 44; refine (ok_no _ _ (one_new _ _ _) (by simp)).mono ?_; rintro e w2 ⟨rfl, hB2⟩; have k2 := k1'.trans (hB2.mono s1'); have K2 := hidI k2; obtain ⟨y0, y1, y2, y3, y4, y5, y6, y7⟩ := st_cells (pkp_ X1.out k2); clear hB2)
  have hR := right_of HE0.out.symm
  obtain ⟨q1, q2, q3, q4⟩ := HS.out.small hR
  refine (copiedS_any s _ _ _ _ _ _ _ _ _ w2 (HS.out.keep K2.out) HN2.out HN3.out q1 q2 q3 q4).mono ?_
  rintro e w3 ⟨v3, rfl, hv3, k3'⟩
  have k3 := K2.out.trans (k3'.mono K2.out.size)
  obtain ⟨g1, g2, g3, l1, r1, l2, r2, l3, r3, rfl, ho⟩ := hv3
  have HO := hidI ho
  have K3 := hidI k3
  have K3' := hidI k3'
  have q4b := pkp_ X4.out k3
  have Q4 := hidI q4b
  obtain ⟨z0, z1, z2, z3, z4, z5, z6, z7⟩ := st_cells q4b
  have f0 := foc_ q4b 0
  have f1 := foc_ q4b 1
  have f2 := foc_ q4b 2
  have f3 := foc_ q4b 3
  have f4 := foc_ q4b 4
  have f5 := foc_ q4b 5
  have f6 := foc_ q4b 6
  have f7 := foc_ q4b 7
  have c2 := coc_ (pkp_ X2.out k3) 0
  simp at c2
  clear y0 y1 y2 y3 y4 y5 y6 y7 q4b k3 k3' ho k2
  go_wp2_with fail
  generalize hW4 : World.setCell (World.setCell (World.setCell (World.setCell (World.setCell (World.setCell (World.setCell (World.setCell w3 _ _) _ _) _ _) _ _) _ _) _ _) _ _) _ _ = W4
  obtain ⟨b4, t4⟩ := store8 Q4.out hW4
  have kW4 : FrameT w.heap.size (B + 4) w W4 := (FrameT.of_below K3.out (Nat.le_refl _)).trans ⟨t4.os, t4.tape, t4.output, t4.size, fun k h1 h2 => t4.block k (by have := K3.out.size; omega) h2⟩
  have hdo := HDO.out HE0.out.symm W4 w2.heap.size (B + 4) (H0.out.trans (kW4.below H0.out.size (by omega))) (by omega) (by have := K2.out.size; omega) (by have := K3'.out.size; have := t4.size; omega) ⟨_, _, _, _, _, _, _, _, _, b4, HO.out.turn Q4.out (by decide) t4⟩
  refine hdo.mono ?_
  rintro e w5 ⟨hF, hc⟩
  have hF' : FrameT w.heap.size (B + 4) w w5 := kW4.trans ⟨hF.os, hF.tape, hF.output, hF.size, fun k h1 h2 => hF.block k (by have := K2.out.size; omega) h2⟩
  have HF := hidI hF'
  clear z0 z1 z2 z3 z4 z5 z6 z7 f0 f1 f2 f3 f4 f5 f6 f7 c2
  rcases hc with ⟨hne, rfl⟩ | ⟨rfl, rfl, hbx⟩
  ·unfold panE
   exact ⟨rfl, by rw [askE_pan hne]; rfl, HF.out.size, fun k h1 h2 _ => HF.out.block k h1 h2, HF.out.os, HF.out.tape, HF.out.output, fun h => absurd h hne⟩
  ·have q5 : w5.heap[B + 5]? = _ := (HF.out.block (B + 5) (by omega) (by omega)).trans X5.out
   have Q5 := hidI q5
   have HBX := hidI hbx
   have c0 := coc_ q5 0
   simp at c0
   have f0 := foc_ q5 0
   clear q5 hbx hF hF' hdo
   go_wp2_with fail
   go_end0
   have hT5 := sct_ w5 (B + 5) 0 (.int .i64 N)
   refine ⟨by rw [askE_ok]; rfl, Nat.le_trans HF.out.size hT5.size, fun k h1 h2 h3 => (hT5.block k (by have := HF.out.size; omega) h3).trans (HF.out.block k h1 h2), HF.out.os, HF.out.tape, HF.out.output, ⟨w2.heap.size, K2.out.size, ?_⟩, ?_⟩
   ·obtain ⟨e1, e2, e3, i1, j1, i2, j2, i3, j3, hh, ho⟩ := HBX.out
    exact ⟨e1, e2, e3, i1, j1, i2, j2, i3, j3, (hT5.block _ (lth_ hh) (by omega)).trans hh, ho.turn Q5.out (by decide) hT5⟩
   ·exact scb_ Q5.out (j := 0) (.int .i64 N)
 ·have HZ := hidI hz
  have hE : E = E0 := by rw [HEE.out (by rw [← HE0.out]; exact hz), HE0.out]
  go_wp2_with (go_at_call 44; refine (ok_yes E0 _ _ (one_new _ _ _) (by simp) HZ.out).mono ?_; rintro e w2 ⟨rfl, hB2⟩)
  have k2 := k1'.trans (hB2.mono s1')
  subst hE
  exact ⟨rfl, by rw [askE_pan HZ.out]; rfl, k2.size, fun k h1 _ _ => k2.block k h1, k2.os, k2.tape, k2.output, fun h => absurd h HZ.out⟩
theorem allocs_heap : ∀ (os : List Obj) (w : World), (os.foldl World.alloc w).heap.size = w.heap.size + os.length ∧ (∀ i o, os[i]? = some o → (os.foldl World.alloc w).heap[w.heap.size + i]? = some o) ∧ Below w.heap.size w (os.foldl World.alloc w)
 | [], w => ⟨by simp, fun i o h => by simp at h, Below.refl _ _⟩
 | x :: r, w => by
   obtain ⟨h1, h2, h3⟩ := allocs_heap r (w.alloc x)
   rw [List.foldl_cons]
   have hb : Below w.heap.size w (w.alloc x) := (Below.refl _ _).alloc (Nat.le_refl _) _
   refine ⟨by rw [h1, World.size_alloc, List.length_cons]; omega, fun i o ho => ?_, hb.trans (h3.mono (by simp))⟩
   cases i with
   | zero =>
     simp at ho
     subst ho
     rw [Nat.add_zero, h3.block _ (by simp)]
     exact World.alloc_heap_new w _
   | succ i =>
     have := h2 i o (by simpa using ho)
     rw [World.size_alloc] at this
     rw [show w.heap.size + (i + 1) = w.heap.size + 1 + i by omega]
     exact this
theorem told_any (p : PlanD) (a1 a2 a3 : Option Addr) (n1 c1 n2 c2 n3 c3 : Nat) (s : StateD) (b1 b2 b3 : Option Addr) (m1 d1 m2 d2 m3 d3 : Nat) (f : FuncId) (hf : Goes f) (cap : Array Value) (E N : Int) (S' : StateD) (w : World) (hp : PlanAt w a1 a2 a3 n1 n2 n3 p) (hs : StateAt w b1 b2 b3 m1 m2 m3 s) (hn2 : b2 = none → d2 = 0) (hn3 : b3 = none → d3 = 0) (hE0 : stE p s ≠ 0 → E = stE p s) (hdo : stE p s = 0 → Does f cap w s E N S') :
 Calls Try.prog 55 #[.agg #[.slice a1 n1 c1, .slice a2 n2 c2, .slice a3 n3 c3], .agg #[.slice b1 m1 d1, .slice b2 m2 d2, .slice b3 m3 d3, .int .i64 s.nextSeq, .int .i64 s.nextTag, .int .i64 s.came, .int .i64 s.acked, .int .i64 s.dropped], .func (.func f) #[] cap] w fun e w' => ∃ v, e = .returned (.tuple #[v, .int .i64 (if E = 0 then N else 0), .int .i64 E]) ∧ StRes w' w.heap.size v E S' ∧ Below w.heap.size w w' := by
 obtain ⟨hz6, hg6, hB6⟩ := allocs_heap [.cells #[.slice a1 n1 c1, .slice a2 n2 c2, .slice a3 n3 c3] 26, .cells #[.slice b1 m1 d1, .slice b2 m2 d2, .slice b3 m3 d3, .int .i64 s.nextSeq, .int .i64 s.nextTag, .int .i64 s.came, .int .i64 s.acked, .int .i64 s.dropped] 31, .cells #[.func (.func f) #[] cap] 91, .cells #[.slice none 0 0, .slice none 0 0, .slice none 0 0, .int .i64 0, .int .i64 0, .int .i64 0, .int .i64 0, .int .i64 0] 31, .cells #[.slice none 0 0, .slice none 0 0, .slice none 0 0, .int .i64 0, .int .i64 0, .int .i64 0, .int .i64 0, .int .i64 0] 31, .cells #[.int .i64 0] 3] w
 obtain ⟨W6, hW6⟩ : ∃ W6, W6 = List.foldl World.alloc w [.cells #[.slice a1 n1 c1, .slice a2 n2 c2, .slice a3 n3 c3] 26, .cells #[.slice b1 m1 d1, .slice b2 m2 d2, .slice b3 m3 d3, .int .i64 s.nextSeq, .int .i64 s.nextTag, .int .i64 s.came, .int .i64 s.acked, .int .i64 s.dropped] 31, .cells #[.func (.func f) #[] cap] 91, .cells #[.slice none 0 0, .slice none 0 0, .slice none 0 0, .int .i64 0, .int .i64 0, .int .i64 0, .int .i64 0, .int .i64 0] 31, .cells #[.slice none 0 0, .slice none 0 0, .slice none 0 0, .int .i64 0, .int .i64 0, .int .i64 0, .int .i64 0, .int .i64 0] 31, .cells #[.int .i64 0] 3] := ⟨_, rfl⟩
 rw [← hW6] at hz6 hg6 hB6
 have x0 := hg6 0 _ rfl
 have x1 := hg6 1 _ rfl
 have x2 := hg6 2 _ rfl
 have x3 := hg6 3 _ rfl
 have x4 := hg6 4 _ rfl
 have x5 := hg6 5 _ rfl
 have hz6' : W6.heap.size = w.heap.size + 6 := by rw [hz6]; rfl
 have l7 : Below W6.heap.size W6 (W6.alloc (.cells #[.int .i64 0] 32)) := (Below.refl _ _).alloc (Nat.le_refl _) _
 have x6 := World.alloc_heap_new W6 (.cells #[.int .i64 0] 32)
 have T1 := told1_any p a1 a2 a3 n1 c1 n2 c2 n3 c3 s b1 b2 b3 m1 d1 m2 d2 m3 d3 f hf cap w E N S' hE0 hdo w.heap.size (Nat.le_refl _) (W6.alloc (.cells #[.int .i64 0] 32)) (hB6.trans (l7.mono hB6.size)) (by rw [World.size_alloc]; omega) ((hp.keep hB6).keep l7) ((hs.keep hB6).keep l7) hn2 hn3 (pkp_ x0 l7) (pkp_ x1 l7) (pkp_ x2 l7) (pkp_ x4 l7) (pkp_ x5 l7)
 have TR := tried_any 96 (fun _ _ => rfl) #[.pointer (some ⟨w.heap.size, 0, none⟩), .pointer (some ⟨w.heap.size + 1, 0, none⟩), .pointer (some ⟨w.heap.size + 4, 0, none⟩), .pointer (some ⟨w.heap.size + 2, 0, none⟩), .pointer (some ⟨w.heap.size + 5, 0, none⟩)]
  (fun D w1 => D = E ∧ W6.heap.size + 1 ≤ w1.heap.size ∧ (∀ k, k < W6.heap.size + 1 → k ≠ w.heap.size + 4 → k ≠ w.heap.size + 5 → w1.heap[k]? = (W6.alloc (.cells #[.int .i64 0] 32)).heap[k]?) ∧ w1.os = w.os ∧ w1.tape = w.tape ∧ w1.output = w.output ∧ (E = 0 → (∃ n, W6.heap.size + 1 ≤ n ∧ StBox w1 n (w.heap.size + 4) S') ∧ w1.heap[w.heap.size + 5]? = some (.cells #[.int .i64 N] 3 (0, 0)))) W6
  (T1.mono (by
   rintro e w' ⟨rfl, g1, g2, g3, g4, g5, g6⟩
   rw [World.size_alloc] at g1 g2 g6
   exact ⟨E, rfl, ⟨rfl, g1, g2, g3.trans hB6.os, g4.trans hB6.tape, g5.trans hB6.output, g6⟩, (g2 _ (Nat.lt_succ_self _) (by omega) (by omega)).trans x6⟩))
 have HW6 : Hid (W6 = ((((((w.alloc (.cells #[.slice a1 n1 c1, .slice a2 n2 c2, .slice a3 n3 c3] 26)).alloc (.cells #[.slice b1 m1 d1, .slice b2 m2 d2, .slice b3 m3 d3, .int .i64 s.nextSeq, .int .i64 s.nextTag, .int .i64 s.came, .int .i64 s.acked, .int .i64 s.dropped] 31)).alloc (.cells #[.func (.func f) #[] cap] 91)).alloc (.cells #[.slice none 0 0, .slice none 0 0, .slice none 0 0, .int .i64 0, .int .i64 0, .int .i64 0, .int .i64 0, .int .i64 0] 31)).alloc (.cells #[.slice none 0 0, .slice none 0 0, .slice none 0 0, .int .i64 0, .int .i64 0, .int .i64 0, .int .i64 0, .int .i64 0] 31)).alloc (.cells #[.int .i64 0] 3))) := hW6
 have HTR := hidI TR
 have HB6 := hidI hB6
 have X3 := hidI x3
 have HZ6 := hidI hz6'
 have hmf : ∀ (fn : Fn) (first cap : Array Value) (w : World), (Instr.makeFunc fn first cap).run Try.prog w = .ok (.func fn first cap) w := fun _ _ _ _ => rfl
 clear T1 TR hW6 hz6 hz6' hg6 hB6 x0 x1 x2 x3 x4 x5 x6 l7 hE0 hdo hf hp hs hn2 hn3
 go_enter Try.func55, Try.ntmps55
 go_wp2_with fail
 rw [← HW6.out]
 refine HTR.out.mono ?_
 rintro e w7 ⟨D, w1, rfl, ⟨rfl, g1, g2, g3, g4, g5, g6⟩, hb, rfl⟩
 have r1 : w1.heap[w.heap.size + 3]? = _ := (g2 _ (by have := HZ6.out; omega) (by omega) (by omega)).trans (((Below.refl W6.heap.size W6).alloc (Nat.le_refl _) (.cells #[.int .i64 0] 32)).block _ (by have := HZ6.out; omega) |>.trans X3.out)
 have t7 := sct_ w1 W6.heap.size 0 (.int .i64 D)
 have r7 := (t7.block _ (lth_ r1) (by have := HZ6.out; omega)).trans r1
 generalize hw7 : w1.setCell ⟨W6.heap.size, 0, none⟩ (.int .i64 D) = w7 at t7 r7
 have hB7 : Below w.heap.size w w7 := by
  refine ⟨t7.os.trans g3, t7.tape.trans g4, t7.output.trans g5, ?_, fun k hk => ?_⟩
  ·have := t7.size; have := HZ6.out; omega
  ·rw [t7.block k (by have := HZ6.out; omega) (by have := HZ6.out; omega), g2 k (by have := HZ6.out; omega) (by omega) (by omega), Below.heap_alloc _ _ _ (by have := HZ6.out; omega), HB6.out.block k hk]
 have HB7 := hidI hB7
 have R7 := hidI r7
 obtain ⟨x0, x1, x2, x3, x4, x5, x6, x7⟩ := st_cells r7
 have e0 := foc_ r7 0
 have e1 := foc_ r7 1
 have e2 := foc_ r7 2
 have e3 := foc_ r7 3
 have e4 := foc_ r7 4
 have e5 := foc_ r7 5
 have e6 := foc_ r7 6
 have e7 := foc_ r7 7
 by_cases hD : D = 0
 ·subst hD
  obtain ⟨⟨n, hn, g1', g2', g3', l1, r1', l2, r2, l3, r3, hbx, ho⟩, hnb⟩ := g6 rfl
  have hbx7 := (t7.block _ (lth_ hbx) (by have := HZ6.out; omega)).trans hbx
  have hnb7 := (t7.block _ (lth_ hnb) (by have := HZ6.out; omega)).trans hnb
  have ho7 := ho.turn hb (by decide) t7
  have HO7 := hidI ho7
  obtain ⟨y0, y1, y2, y3, y4, y5, y6, y7⟩ := st_cells hbx7
  have cn := coc_ hnb7 0
  simp at cn
  have HN := hidI hn
  clear g1 g2 g3 g4 g5 g6 hb r1 t7 r7 hw7 hB7 hbx hnb ho hbx7 hnb7 ho7 hn
  go_wp2_with fail
  go_region
  generalize hW4 : World.setCell (World.setCell (World.setCell (World.setCell (World.setCell (World.setCell (World.setCell (World.setCell _ _ _) _ _) _ _) _ _) _ _) _ _) _ _) _ _ = W4
  obtain ⟨b4, t4⟩ := store8 R7.out hW4
  obtain ⟨z0, z1, z2, z3, z4, z5, z6, z7⟩ := st_cells b4
  go_wp2_with fail
  exact bodyPost_ret (v := .tuple #[.agg #[.slice g1' l1 r1', .slice g2' l2 r2, .slice g3' l3 r3, .int .i64 S'.nextSeq, .int .i64 S'.nextTag, .int .i64 S'.came, .int .i64 S'.acked, .int .i64 S'.dropped], .int .i64 N, .int .i64 0]) (by simp [results, Try.results55, go_sem, z0, z1, z2, z3, z4, z5, z6, z7]) rfl ⟨_, by first | rfl | rw [if_pos rfl], ⟨fun _ => ⟨_, _, _, _, _, _, _, _, _, rfl, ((HO7.out.turn R7.out (by decide) t4).lower (by have := HN.out; have := HZ6.out; omega)).keep (Below.refl _ _).drew⟩, fun h => absurd rfl h⟩, HB7.out.trans (t4.below (by have := HB7.out.size; omega) (by omega)).drew⟩
 ·have hD' : (D != 0) = true := bne_iff_ne.2 hD
  have HDN := hidI hD
  clear g1 g2 g3 g4 g5 g6 hb r1 t7 r7 hw7 hB7 hD
  go_wp2_with fail
  generalize hW4 : World.setCell (World.setCell (World.setCell (World.setCell (World.setCell (World.setCell (World.setCell (World.setCell w7 _ _) _ _) _ _) _ _) _ _) _ _) _ _) _ _ = W4
  obtain ⟨b4, t4⟩ := store8 R7.out hW4
  obtain ⟨z0, z1, z2, z3, z4, z5, z6, z7⟩ := st_cells b4
  exact bodyPost_ret (v := .tuple #[zerS, .int .i64 0, .int .i64 D]) (by simp [results, Try.results55, go_sem, z0, z1, z2, z3, z4, z5, z6, z7, zerS]) rfl ⟨zerS, by first | rfl | rw [if_neg HDN.out], ⟨fun h => absurd h HDN.out, fun _ => rfl⟩, HB7.out.trans (t4.below (by have := HB7.out.size; omega) (by omega))⟩
structure OutFine (ts : List TakerD) (nt : Int) (o : OutD) : Prop where
 tag : o.tag < nt
 rng : 0 ≤ o.taker ∧ o.taker < ts.length
 tk : ∃ t, ts[o.taker.toNat]? = some t ∧ t.queue ≠ -1 ∧ t.queue = o.queue
 item : itemOk o.item = true
theorem outOk_iff {ts : List TakerD} {nt l : Int} {o : OutD} : outOk ts nt l o = true ↔ l < o.tag ∧ OutFine ts nt o := by
 unfold outOk
 simp only [Bool.and_eq_true, decide_eq_true_eq]
 constructor
 ·rintro ⟨⟨⟨⟨h1, h2⟩, h3⟩, h4⟩, h5⟩
  refine ⟨h1, h2, isNum_iff.1 h3, ?_, h5⟩
  cases ht : ts[o.taker.toNat]? with
  | none => rw [ht] at h4; cases h4
  | some t => rw [ht] at h4; simp only [Bool.and_eq_true, decide_eq_true_eq] at h4; exact ⟨t, rfl, h4.1, h4.2⟩
 ·rintro ⟨h1, h2⟩
  refine ⟨⟨⟨⟨h1, h2.tag⟩, isNum_iff.2 h2.rng⟩, ?_⟩, h2.item⟩
  obtain ⟨t, ht, h3, h4⟩ := h2.tk
  rw [ht]; simp only [Bool.and_eq_true, decide_eq_true_eq]; exact ⟨h3, h4⟩
theorem outsFrom_iff {ts : List TakerD} {nt : Int} : ∀ {xs : List OutD} {l : Int}, outsFrom ts nt l xs = true ↔ (∀ o ∈ xs, l < o.tag ∧ OutFine ts nt o) ∧ xs.Pairwise (fun a b => a.tag < b.tag)
 | [], l => by simp [outsFrom]
 | x :: r, l => by
   unfold outsFrom
   rw [Bool.and_eq_true, outOk_iff, outsFrom_iff]
   constructor
   ·rintro ⟨h1, h2, h3⟩
    refine ⟨fun o ho => ?_, List.pairwise_cons.2 ⟨fun b hb => (h2 b hb).1, h3⟩⟩
    rcases List.mem_cons.1 ho with rfl | ho
    ·exact h1
    ·have := h2 o ho; exact ⟨by have := h1.1; omega, this.2⟩
   ·rintro ⟨h1, h2⟩
    obtain ⟨h3, h4⟩ := List.pairwise_cons.1 h2
    exact ⟨h1 x List.mem_cons_self, fun o ho => ⟨h3 o ho, (h1 o (List.mem_cons_of_mem _ ho)).2⟩, h4⟩
theorem RightX.fine {p : PlanD} {s : StateD} {n : Int} (h : RightX p s n) {o : OutD} (ho : o ∈ s.outs) : 0 ≤ o.tag ∧ OutFine s.takers s.nextTag o := by
 have := (outsFrom_iff.1 h.outs).1 o ho; exact ⟨by omega, this.2⟩
theorem RightX.rise {p : PlanD} {s : StateD} {n : Int} (h : RightX p s n) : s.outs.Pairwise (fun a b => a.tag < b.tag) := (outsFrom_iff.1 h.outs).2
theorem takerOk_iff {nq : Nat} {t : TakerD} : takerOk nq t = true ↔ (t.queue = -1 ∨ 0 ≤ t.queue ∧ t.queue < nq) ∧ 1 ≤ t.most ∧ t.most ≤ 4 := by
 unfold takerOk isNum; simp
theorem heldN_app (s : StateD) (o : OutD) (t : Int) : heldN { s with outs := s.outs ++ [o] } t = heldN s t + if o.taker = t then 1 else 0 := by
 unfold heldN; simp only; rw [List.filter_append]; by_cases h : o.taker = t <;> simp [h]
def goneIdx (ts : List TakerD) : Nat := ts.findIdx (fun t => decide (t.queue = -1))
def joinX (nq : Nat) (s : StateD) (q most : Int) : Int := if isNum q nq = false then 5 else if inR most 1 4 = false then 3 else if goneIdx s.takers = s.takers.length ∧ 4 ≤ s.takers.length then 2 else 0
def joinE (p : PlanD) (s : StateD) (q most : Int) : Int := if stE p s ≠ 0 then stE p s else joinX p.queues.length s q most
def joinT (ts : List TakerD) (q most : Int) : List TakerD := if goneIdx ts < ts.length then ts.set (goneIdx ts) ⟨q, most⟩ else ts ++ [⟨q, most⟩]
def joinS (s : StateD) (q most : Int) : StateD := { s with takers := joinT s.takers q most }
theorem goneIdx_le (ts : List TakerD) : goneIdx ts ≤ ts.length := List.findIdx_le_length
def tAt (s : StateD) (k : Nat) : TakerD := s.takers.getD k ⟨0, 0⟩
def freeT (s : StateD) (q : Int) (k : Nat) : Bool := decide ((tAt s k).queue = q) && decide ((heldN s k : Int) < (tAt s k).most)
def lbTo (s : StateD) (q : Int) : Nat → Int × Int
 | 0 => (-1, 4)
 | k + 1 => if freeT s q k = true ∧ (heldN s k : Int) < (lbTo s q k).2 then ((k : Int), (heldN s k : Int)) else lbTo s q k
def nextK (s : StateD) (q : Int) : Int := (lbTo s q s.takers.length).1
def nextE (p : PlanD) (s : StateD) (q : Int) : Int :=
 if stE p s ≠ 0 then stE p s else if isNum q p.queues.length = false then 5 else if lineAt s q.toNat = [] then 8 else if nextK s q = -1 then 9 else 0
structure Least (s : StateD) (q : Int) (n k : Nat) : Prop where
 lt : k < n
 free : freeT s q k = true
 few : heldN s k < 4
 least : ∀ j, j < n → freeT s q j = true → heldN s k ≤ heldN s j
 first : ∀ j, j < k → freeT s q j = true → heldN s k < heldN s j
theorem lb_is (s : StateD) (q : Int) : ∀ n, (lbTo s q n = (-1, 4) ∧ ∀ j, j < n → freeT s q j = true → 4 ≤ heldN s j) ∨ ∃ k : Nat, lbTo s q n = ((k : Int), (heldN s k : Int)) ∧ Least s q n k
 | 0 => .inl ⟨rfl, fun j hj => by omega⟩
 | n + 1 => by
   rcases lb_is s q n with ⟨h1, h2⟩ | ⟨k, h1, h2⟩
   ·unfold lbTo
    rw [h1]
    split
    ·rename_i hc
     have hc2 : (heldN s n : Int) < 4 := hc.2
     exact .inr ⟨n, rfl, by omega, hc.1, by omega, fun j hj hf => by
      by_cases e : j = n
      ·subst e; omega
      ·have := h2 j (by omega) hf; omega, fun j hj hf => by have := h2 j hj hf; omega⟩
    ·rename_i hc
     exact .inl ⟨rfl, fun j hj hf => by
      by_cases e : j = n
      ·subst e
       apply Classical.byContradiction
       intro hlt
       exact hc ⟨hf, by show (heldN s j : Int) < 4; omega⟩
      ·exact h2 j (by omega) hf⟩
   ·unfold lbTo
    rw [h1]
    split
    ·rename_i hc
     have hc2 : (heldN s n : Int) < (heldN s k : Int) := hc.2
     have := h2.few
     exact .inr ⟨n, rfl, by omega, hc.1, by omega, fun j hj hf => by
      by_cases e : j = n
      ·subst e; omega
      ·have := h2.least j (by omega) hf; omega, fun j hj hf => by have := h2.least j hj hf; omega⟩
    ·rename_i hc
     exact .inr ⟨k, rfl, by have := h2.lt; omega, h2.free, h2.few, fun j hj hf => by
      by_cases e : j = n
      ·subst e
       apply Classical.byContradiction
       intro hlt
       exact hc ⟨hf, by show (heldN s j : Int) < (heldN s k : Int); omega⟩
      ·exact h2.least j (by omega) hf, h2.first⟩
theorem RightX.few {p : PlanD} {s : StateD} {n : Int} (h : RightX p s n) {q : Int} {j : Nat} (hj : j < s.takers.length) (hf : freeT s q j = true) : heldN s j < 4 := by
 unfold freeT tAt at hf
 simp only [Bool.and_eq_true, decide_eq_true_eq] at hf
 rw [List.getD_eq_getElem?_getD, List.getElem?_eq_getElem hj] at hf
 have := (takerOk_iff.1 (h.tok _ (List.getElem_mem hj))).2
 have h2 := hf.2
 simp only [Option.getD_some] at h2
 omega
theorem next_is {p : PlanD} {s : StateD} {n : Int} (h : RightX p s n) (q : Int) : (nextK s q = -1 ∧ ∀ j, j < s.takers.length → freeT s q j = false) ∨ ∃ k : Nat, nextK s q = k ∧ Least s q s.takers.length k := by
 rcases lb_is s q s.takers.length with ⟨h1, h2⟩ | ⟨k, h1, h2⟩
 ·refine .inl ⟨by unfold nextK; rw [h1], fun j hj => ?_⟩
  rw [Bool.eq_false_iff]
  intro hf
  have := h.few hj hf
  have := h2 j hj hf
  omega
 ·exact .inr ⟨k, by unfold nextK; rw [h1], h2⟩
def delE (p : PlanD) (s : StateD) (q : Int) : Int := if nextE p s q ≠ 0 then nextE p s q else if s.nextTag = 1048576 then 2 else 0
def iDef : ItemD := ⟨0, ⟨#[]⟩, ⟨#[]⟩, false, 0⟩
def delO (s : StateD) (q : Int) : OutD := ⟨s.nextTag, nextK s q, q, (lineAt s q.toNat).headD iDef⟩
def delS (s : StateD) (q : Int) : StateD := { s with ready := s.ready.set q.toNat (lineAt s q.toNat).tail, outs := s.outs ++ [delO s q], nextTag := s.nextTag + 1 }
structure Delivers (p : PlanD) (s : StateD) (q : Int) (k : Nat) (x : ItemD) (r : List ItemD) : Prop where
 right : RightX p s 0
 q0 : 0 ≤ q
 ql : q.toNat < s.ready.length
 line : lineAt s q.toNat = x :: r
 key : nextK s q = k
 least : Least s q s.takers.length k
 tag : s.nextTag < 1048576
theorem next_zero {p : PlanD} {s : StateD} {q : Int} (h : nextE p s q = 0) : RightX p s 0 ∧ 0 ≤ q ∧ q < p.queues.length ∧ (∃ x r, lineAt s q.toNat = x :: r) ∧ ∃ k : Nat, nextK s q = k ∧ Least s q s.takers.length k := by
 unfold nextE at h
 by_cases h1 : stE p s = 0
 ·rw [if_neg (by simp [h1])] at h
  by_cases h2 : isNum q p.queues.length = false
  ·rw [if_pos h2] at h; cases h
  ·rw [if_neg h2] at h
   by_cases h3 : lineAt s q.toNat = []
   ·rw [if_pos h3] at h; cases h
   ·rw [if_neg h3] at h
    by_cases h4 : nextK s q = -1
    ·rw [if_pos h4] at h; cases h
    ·have hr := right_of h1
     have hq := isNum_iff.1 (by simpa using h2)
     refine ⟨hr, hq.1, hq.2, ?_, ?_⟩
     ·cases hl : lineAt s q.toNat with
      | nil => exact absurd hl h3
      | cons x r => exact ⟨x, r, rfl⟩
     ·rcases next_is hr q with ⟨e, _⟩ | hk
      ·exact absurd e h4
      ·exact hk
 ·rw [if_pos h1] at h; exact absurd h h1
theorem del_zero {p : PlanD} {s : StateD} {q : Int} (h : delE p s q = 0) : ∃ k x r, Delivers p s q k x r := by
 unfold delE at h
 by_cases h1 : nextE p s q = 0
 ·rw [if_neg (by simp [h1])] at h
  by_cases h2 : s.nextTag = 1048576
  ·rw [if_pos h2] at h; cases h
  ·obtain ⟨hr, q0, q1, ⟨x, r, hl⟩, k, hk, hL⟩ := next_zero h1
   have := hr.nt
   exact ⟨k, x, r, hr, q0, by rw [hr.len]; omega, hl, hk, hL, by omega⟩
 ·rw [if_pos h1] at h; exact absurd h h1
theorem Delivers.out {p : PlanD} {s : StateD} {q : Int} {k : Nat} {x : ItemD} {r : List ItemD} (h : Delivers p s q k x r) : delO s q = ⟨s.nextTag, (k : Int), q, x⟩ := by
 unfold delO; rw [h.key, h.line]; rfl
theorem seqs_del {p : PlanD} {s : StateD} {q : Int} {k : Nat} {x : ItemD} {r : List ItemD} (h : Delivers p s q k x r) : (seqsOf (delS s q)).Perm (seqsOf s) := by
 obtain ⟨A, B, h1, h2⟩ := flat_set (fun l => l.map ItemD.seq) h.ql r
 have e : s.ready[q.toNat]'h.ql = x :: r := by rw [← lineAt_get h.ql]; exact h.line
 have e1 : seqsOf s = A ++ (x.seq :: (r.map ItemD.seq ++ (B ++ s.outs.map fun o => o.item.seq))) := by
  unfold seqsOf; rw [h1, e]; simp only [List.map_cons, List.append_assoc, List.cons_append]
 have e2 : seqsOf (delS s q) = A ++ (r.map ItemD.seq ++ (B ++ s.outs.map fun o => o.item.seq)) ++ [x.seq] := by
  have : seqsOf (delS s q) = ((s.ready.set q.toNat (lineAt s q.toNat).tail).flatMap fun l => l.map ItemD.seq) ++ (s.outs ++ [delO s q]).map fun o => o.item.seq := rfl
  rw [this, h.line, List.tail_cons, h2, h.out, List.map_append]; simp only [List.map_cons, List.map_nil, List.append_assoc]
 rw [e1, e2]
 refine List.perm_append_comm.trans ?_
 rw [List.singleton_append]
 exact List.perm_middle.symm
theorem Delivers.done {p : PlanD} {s : StateD} {q : Int} {k : Nat} {x : ItemD} {r : List ItemD} (h : Delivers p s q k x r) : RightX p (delS s q) 0 := by
 have hR := h.right
 have hp := seqs_del h
 have hlx := hR.line _ (lineAt_mem h.ql)
 rw [h.line] at hlx
 obtain ⟨l1, l2⟩ := lineOk_iff.1 hlx
 have hfree := h.least.free
 unfold freeT at hfree
 simp only [Bool.and_eq_true, decide_eq_true_eq] at hfree
 have htk : s.takers[k]? = some (tAt s k) := by unfold tAt; rw [List.getD_eq_getElem?_getD, List.getElem?_eq_getElem h.least.lt]; rfl
 have hkl := h.least.lt
 refine ⟨hR.pl, hR.tk, by simpa [delS] using hR.len, ?_, hR.tok, ?_, hR.ns, ?_, hR.ak, hR.dr, hp.nodup_iff.2 hR.nodup, fun z hz => hR.lt z (hp.mem_iff.1 hz), ?_, ?_, ?_, hR.cs⟩
 ·intro l hl
  rcases List.mem_or_eq_of_mem_set hl with h' | h'
  ·exact hR.line l h'
  ·rw [h', h.line, List.tail_cons]
   exact lineOk_iff.2 ⟨fun z hz => l1 z (List.mem_cons_of_mem _ hz), (List.pairwise_cons.1 l2).2⟩
 ·show outsFrom s.takers (s.nextTag + 1) (-1) (s.outs ++ [delO s q]) = true
  rw [h.out]
  refine outsFrom_iff.2 ⟨fun o ho => ?_, ?_⟩
  ·rcases List.mem_append.1 ho with ho | ho
   ·obtain ⟨g1, g2⟩ := hR.fine ho
    exact ⟨by omega, by have := g2.tag; omega, g2.rng, g2.tk, g2.item⟩
   ·rw [List.mem_singleton.1 ho]
    refine ⟨by have := hR.nt; simp only; omega, by simp only; omega, by simp only; omega, ⟨tAt s k, by simp only [Int.toNat_natCast]; exact htk, by rw [hfree.1]; have := h.q0; omega, hfree.1⟩, l1 x List.mem_cons_self⟩
  ·rw [List.pairwise_append]
   exact ⟨hR.rise, by simp, fun a ha b hb => by rw [List.mem_singleton.1 hb]; exact (hR.fine ha).2.tag⟩
 ·show 0 ≤ s.nextTag + 1 ∧ s.nextTag + 1 ≤ 1048576; have := hR.nt; have := h.tag; omega
 ·intro j hj
  have hj' : j < s.ready.length := by simpa [delS] using hj
  have : lineAt (delS s q) j = if j = q.toNat then (lineAt s q.toNat).tail else lineAt s j := lineAt_set (s := s) h.ql (lineAt s q.toNat).tail 0
  rw [this]
  split
  ·rename_i e; subst e; have := hR.room q.toNat hj'; rw [List.length_tail]; omega
  ·exact hR.room j hj'
 ·intro j hj
  show (heldN { s with outs := s.outs ++ [delO s q] } j : Int) ≤ (s.takers.getD j ⟨0, 0⟩).most
  rw [heldN_app, h.out]
  by_cases e : k = j
  ·subst e
   have := hfree.2
   unfold tAt at this
   simp only [if_true]; omega
  ·rw [if_neg (by simp only; omega)]; exact hR.hold j hj
 ·show s.came = _
  have := hR.sum
  rw [hp.length_eq]; exact this
def TakerD.val (x : TakerD) : Value := .agg #[.int .i64 x.queue, .int .i64 x.most]
def OutD.val (o : OutD) : Value := .agg #[.int .i64 o.tag, .int .i64 o.taker, .int .i64 o.queue, .int .i64 o.item.seq, .string o.item.key, .string o.item.body, .bool o.item.again, .int .i64 o.item.deaths]
def idxF {α : Type} (P : α → Bool) (xs : List α) : Int := if xs.findIdx P < xs.length then (xs.findIdx P : Int) else -1
theorem idxF_hit {α : Type} {P : α → Bool} {xs : List α} {k : Nat} (hk : k < xs.length) (ha : ∀ x ∈ xs.take k, P x = false) (hx : P xs[k] = true) : idxF P xs = k := by
 have e : xs.findIdx P = k := by
  rw [List.findIdx_eq hk]
  exact ⟨hx, fun j hj => ha _ (by rw [List.mem_take_iff_getElem]; exact ⟨j, by omega, rfl⟩)⟩
 unfold idxF; rw [e, if_pos hk]
theorem idxF_none {α : Type} {P : α → Bool} {xs : List α} (ha : ∀ x ∈ xs, P x = false) : idxF P xs = -1 := by
 have e : xs.findIdx P = xs.length := List.findIdx_eq_length.2 ha
 unfold idxF; rw [e, if_neg (Nat.lt_irrefl _)]
theorem indexTaker_any (f : FuncId) (hf : Goes f) (cap : Array Value) (P : TakerD → Bool) (xs : List TakerD) (a : Option Addr) (n c : Nat) (w : World) (hn : xs.length = n) (hm : n ≤ 100000000) (hp : TakersAt w a xs)
 (hcl : ∀ (x : TakerD) (W : World), Below w.heap.size w W → Calls Try.prog f (#[x.val] ++ cap) W fun e w' => e = .returned (.bool (P x)) ∧ Below W.heap.size W w') :
 Calls Try.prog 58 #[.slice a n c, .func (.func f) #[] cap] w fun e w' => e = .returned (.int .i64 (idxF P xs)) ∧ Below w.heap.size w w' := by
 have HN := hidI hn
 have HP := hidI hp
 have HCL := hidI hcl
 have hf' : ∀ (args : Array Value) (w : World), Sem.run Try.prog (callFunc f args) w = .ok (.enter f args) w := hf
 clear hn hp hcl hf
 go_enter Try.func58, Try.ntmps58
 go_wp2
 go_loopw [8] (fun i wr => ∃ (k : Nat), k ≤ n ∧ i = .int .i64 k ∧ (∀ x ∈ xs.take k, P x = false) ∧ Below w.heap.size w wr) (fun i _ => n - (intOf i).toNat)
 case atStart => exact ⟨0, Nat.zero_le _, rfl, by simp, Below.refl _ _⟩
 case round =>
  obtain ⟨k, hk, rfl, ha, hBl⟩ := hrel
  have HA := hidI ha
  have hBs := hBl.size
  clear ha
  by_cases hlt : k < n
  ·have hkl : k < xs.length := by rw [HN.out]; exact hlt
   obtain ⟨g, o, rfl, hg, hc⟩ := (HP.out.keep hBl).get hkl
   have HX : Hid (P xs[k] = true → idxF P xs = k) := fun h => idxF_hit hkl HA.out h
   have HT : Hid (P xs[k] = false → ∀ x ∈ xs.take (k + 1), P x = false) := fun h x hx => by
    rw [List.take_succ_eq_append_getElem hkl, List.mem_append, List.mem_singleton] at hx
    rcases hx with hx | rfl
    ·exact HA.out x hx
    ·exact h
   have HCX := hidI (HCL.out xs[k] wr hBl)
   obtain ⟨x, hxx⟩ : ∃ x, x = xs[k] := ⟨_, rfl⟩
   rw [← hxx] at hc HX HT HCX
   obtain ⟨y, hy⟩ : ∃ y, y = P x := ⟨_, rfl⟩
   rw [← hy] at HX HT HCX
   clear hxx hy HA
   obtain ⟨c0, c1⟩ := hc
   have j1 : (0 : Int) ≤ (k : Int) := by omega
   have j2 : (k : Int) < n := by omega
   cases y with
   | true =>
     go_wp2_with fail
     refine HCX.out.mono ?_
     rintro e w2 ⟨rfl, hB2⟩
     go_wp2_with fail
     go_ret
     exact ⟨ret_int (HX.out (by first | rfl | trivial)).symm, hBl.trans (hB2.mono hBs)⟩
   | false =>
     go_wp2_with fail
     refine HCX.out.mono ?_
     rintro e w2 ⟨rfl, hB2⟩
     go_wp2_with fail
     go_roundw
     case rel => exact ⟨k + 1, by omega, by go_num, HT.out (by first | rfl | trivial), hBl.trans (hB2.mono hBs)⟩
     case measure => simp [intOf]; omega
  ·have HF : Hid (idxF P xs = -1) := idxF_none (fun x hx => HA.out x (by rw [List.take_of_length_le (by rw [HN.out]; omega)]; exact hx))
   go_wp2
   go_ret
   exact ⟨ret_int HF.out.symm, hBl⟩
theorem askQueue_any (p : PlanD) (a1 a2 a3 : Option Addr) (n1 c1 n2 c2 n3 c3 : Nat) (q : Int) (w : World) (hp : PlanAt w a1 a2 a3 n1 n2 n3 p) :
 Calls Try.prog 57 #[.agg #[.slice a1 n1 c1, .slice a2 n2 c2, .slice a3 n3 c3], .int .i64 q] w fun e w' => e = askE (if isNum q n2 = false then 5 else 0) ∧ Below w.heap.size w w' := by
 obtain ⟨E, hE⟩ : ∃ E : Int, E = if isNum q n2 = false then 5 else 0 := ⟨_, rfl⟩
 rw [← hE]
 obtain ⟨W1, hW1, hBw, hs1, hbx⟩ := plan_boxed w (.slice a1 n1 c1) (.slice a2 n2 c2) (.slice a3 n3 c3) 26
 have HW1 := hidI hW1
 have HE := hidI hE
 have HS1 := hidI hs1
 have s0 := hBw.size
 obtain ⟨x0, x1, x2⟩ := hbx W1 (Below.refl _ _)
 clear hW1 hbx hE hs1
 go_enter Try.func57, Try.ntmps57
 go_wp2_with fail
 rw [← HW1.out]
 by_cases h : 0 ≤ q ∧ q < n2
 ·have HE0 : Hid (E = 0) := by show E = 0; rw [HE.out, if_neg (by rw [isNum_iff.2 h]; decide)]
  refine (never_no 5 [decide (q < 0), decide ((n2 : Int) ≤ q)] _ _ (by simp) (bng_ W1 _ HS1.out.symm) (by simp; omega)).mono ?_
  rintro e w2 ⟨rfl, rfl⟩
  go_wp2_with fail
  go_end0
  exact ⟨by rw [HE0.out]; rfl, hBw.trans ((Below.refl _ _).alloc s0 _)⟩
 ·have HE0 : Hid (E = 5) := by show E = 5; rw [HE.out, if_pos (isNum_no.2 h)]
  refine (never_yes 5 [decide (q < 0), decide ((n2 : Int) ≤ q)] _ _ (by simp) (bng_ W1 _ HS1.out.symm) (by simp; omega)).mono ?_
  rintro e w2 ⟨rfl, rfl⟩
  exact ⟨rfl, by rw [HE0.out]; rfl, hBw.trans ((Below.refl _ _).alloc s0 _)⟩
structure TypeT (T : TypeId) (W W' : World) : Prop where
 size : W.heap.size ≤ W'.heap.size
 block : ∀ (k : Nat) (cur : Array Value) (T' : TypeId), W.heap[k]? = some (Obj.cells cur T' (0, 0)) → T' ≠ T → W'.heap[k]? = W.heap[k]?
theorem TypeT.of_below {T : TypeId} {W W' : World} (h : Below W.heap.size W W') : TypeT T W W' := ⟨h.size, fun k cur T' hk _ => h.block k (lth_ hk)⟩
theorem TypeT.trans {T : TypeId} {A B C : World} (h : TypeT T A B) (k : TypeT T B C) : TypeT T A C := ⟨Nat.le_trans h.size k.size, fun i cur T' hi hT => (k.block i cur T' ((h.block i cur T' hi hT).trans hi) hT).trans (h.block i cur T' hi hT)⟩
theorem TypeT.setCell {T : TypeId} {W : World} {B i : Nat} {cur : Array Value} (hB : W.heap[B]? = some (.cells cur T (0, 0))) (u : Value) : TypeT T W (W.setCell ⟨B, i, none⟩ u) :=
 ⟨by simp [World.setCell], fun k cur' T' hk hT => heap_setCell_other _ _ _ _ (fun e => by
  have e' : k = B := e
  rw [e', hB] at hk
  cases hk; exact hT rfl)⟩
theorem TypeT.grown {T : TypeId} {W W' : World} {base size n : Nat} {v : Value} {cs : List Value} (h : W.ownsRow base T size v n cs) (hg : W.grownBy W' v.ownBlock) : TypeT T W W' :=
 ⟨hg.size, fun k cur' T' hk hT => hg.block k (lth_ hk) (fun e => row_other h hk (fun e => hT e.symm) e.symm)⟩
theorem TypeT.row {T T' : TypeId} {W W' : World} {base size n : Nat} {v : Value} {cs : List Value} (k : TypeT T W W') (h : W.ownsRow base T' size v n cs) (hT : T' ≠ T) : W'.ownsRow base T' size v n cs := by
 refine ⟨h.1, ?_⟩
 rcases h.2 with h | ⟨g, cap, cur, h1, h2, h3, h4⟩
 ·exact .inl h
 ·exact .inr ⟨g, cap, cur, h1, h2, (k.block g cur T' h3 hT).trans h3, h4⟩
theorem TypeT.keepI {T : TypeId} {n : Nat} {W W' : World} (k : TypeT T W W') (hT : 51 ≠ T) : KeepI n W W' := ⟨k.size, fun g cur _ hg => k.block g cur _ hg hT⟩
theorem OwnSt.typeT {T : TypeId} {W W' : World} {n : Nat} {b1 b2 b3 : Option Addr} {m1 d1 m2 d2 m3 d3 : Nat} {s : StateD} (h : OwnSt W n b1 b2 b3 m1 d1 m2 d2 m3 d3 s) (k : TypeT T W W') (hT : 51 ≠ T ∧ 53 ≠ T ∧ 56 ≠ T ∧ 49 ≠ T) : OwnSt W' n b1 b2 b3 m1 d1 m2 d2 m3 d3 s := by
 obtain ⟨vs, h1, h2⟩ := h.r1
 exact ⟨h.l1, h.l2, h.l3, h.x2, ⟨vs, k.row h1 hT.2.2.2, h2.keepT (k.keepI hT.1)⟩, k.row h.r2 hT.2.1, k.row h.r3 hT.2.2.1⟩
theorem takerCells_len (xs : List TakerD) : (tkC_ xs).length = xs.length * 2 := flat_length (f := TakerD.cells) (fun _ => rfl) xs
theorem outCells_len (xs : List OutD) : (outCells xs).length = xs.length * 8 := flat_length (f := OutD.cells) (fun _ => rfl) xs
theorem takerCells_append (xs ys : List TakerD) : tkC_ (xs ++ ys) = tkC_ xs ++ tkC_ ys := by unfold tkC_; rw [List.flatMap_append]
theorem outCells_append (xs ys : List OutD) : outCells (xs ++ ys) = outCells xs ++ outCells ys := by unfold outCells; rw [List.flatMap_append]
theorem OwnSt.takers {W W' : World} {n : Nat} {b1 b2 b3 b3' : Option Addr} {m1 d1 m2 d2 m3 d3 m3' d3' : Nat} {s : StateD} {ts : List TakerD} (h : OwnSt W n b1 b2 b3 m1 d1 m2 d2 m3 d3 s) (k : TypeT 56 W W') (r : W'.ownsRow n 56 2 (.slice b3' m3' d3') m3' (tkC_ ts)) : OwnSt W' n b1 b2 b3' m1 d1 m2 d2 m3' d3' { s with takers := ts } := by
 obtain ⟨vs, h1, h2⟩ := h.r1
 refine ⟨h.l1, h.l2, ?_, h.x2, ⟨vs, k.row h1 (by decide), h2.keepT (k.keepI (by decide))⟩, k.row h.r2 (by decide), r⟩
 have := r.1
 rw [takerCells_len] at this
 show ts.length = m3'
 omega
theorem OwnSt.outs {W W' : World} {n : Nat} {b1 b2 b3 b2' : Option Addr} {m1 d1 m2 d2 m3 d3 m2' d2' : Nat} {s : StateD} {os : List OutD} (h : OwnSt W n b1 b2 b3 m1 d1 m2 d2 m3 d3 s) (k : TypeT 53 W W') (hx : m2' ≤ 100000000) (r : W'.ownsRow n 53 8 (.slice b2' m2' d2') m2' (outCells os)) : OwnSt W' n b1 b2' b3 m1 d1 m2' d2' m3 d3 { s with outs := os } := by
 obtain ⟨vs, h1, h2⟩ := h.r1
 refine ⟨h.l1, ?_, h.l3, hx, ⟨vs, k.row h1 (by decide), h2.keepT (k.keepI (by decide))⟩, r, k.row h.r3 (by decide)⟩
 have := r.1
 rw [outCells_len] at this
 show os.length = m2'
 omega
theorem OwnSt.line {W W' : World} {n g : Nat} {b2 b3 : Option Addr} {m1 d1 m2 d2 m3 d3 : Nat} {s : StateD} (h : OwnSt W n (some ⟨g, 0, none⟩) b2 b3 m1 d1 m2 d2 m3 d3 s) {q : Nat} (hq : q < s.ready.length) {xs : List ItemD} {v : Value} {b : Option Addr} {c : Nat} (hv : LineV W n xs v b c) (hW : W' = W.setCell ⟨g, q, none⟩ v) : OwnSt W' n (some ⟨g, 0, none⟩) b2 b3 m1 d1 m2 d2 m3 d3 { s with ready := s.ready.set q xs } := by
 obtain ⟨vs, h1, h2⟩ := h.r1
 obtain ⟨_, cur, hg⟩ := own_block h1
 have k : TypeT 49 W W' := by rw [hW]; exact TypeT.setCell hg v
 have hs := h1.stored q v
 have ki : KeepI n W W' := k.keepI (by decide)
 refine ⟨by show (s.ready.set q xs).length = m1; rw [List.length_set]; exact h.l1, h.l2, h.l3, h.x2, ⟨vs.set q v, by rw [hW]; exact hs.1, ?_⟩, k.row h.r2 (by decide), k.row h.r3 (by decide)⟩
 refine ⟨by show (vs.set q v).length = (s.ready.set q xs).length; rw [List.length_set, List.length_set]; exact h2.len, fun i hi => ?_⟩
 have hi' : i < s.ready.length := by simpa using hi
 by_cases e : i = q
 ·subst e
  refine ⟨v, b, c, by rw [List.getElem?_set, if_pos rfl, if_pos (by rw [h2.len]; exact hi')], ?_⟩
  have : (s.ready.set i xs)[i]'hi = xs := List.getElem_set_self _
  rw [this]
  exact hv.keepT ki
 ·obtain ⟨u, b', c', e1, e2⟩ := h2.get i hi'
  refine ⟨u, b', c', by rw [List.getElem?_set, if_neg (fun e' => e e'.symm)]; exact e1, ?_⟩
  have : (s.ready.set q xs)[i]'hi = s.ready[i] := List.getElem_set_ne (fun e' => e e'.symm) _
  rw [this]
  exact e2.keepT ki
theorem takerCells_set {xs : List TakerD} {k : Nat} (hk : k < xs.length) (x : TakerD) : ((tkC_ xs).set (k * 2) (.int .i64 x.queue)).set (k * 2 + 1) (.int .i64 x.most) = tkC_ (xs.set k x) := by
 apply List.ext_getElem?
 intro j
 rw [List.getElem?_set, List.getElem?_set]
 rcases Nat.lt_or_ge j (xs.length * 2) with h | h
 ·obtain ⟨h1, h2, h3⟩ := flat_div (k := 2) (by omega) h
  have e1 := flat_at (f := TakerD.cells) (k := 2) (fun _ => rfl) xs _ h1 _ h2
  have e2 := flat_at (f := TakerD.cells) (k := 2) (fun _ => rfl) (xs.set k x) (j / 2) (by rw [List.length_set]; exact h1) _ h2
  rw [h3] at e1 e2
  have e3 : (tkC_ (xs.set k x))[j]? = _ := e2
  have e4 : (tkC_ xs)[j]? = _ := e1
  have hl : j < (tkC_ xs).length := by rw [takerCells_len]; exact h
  have hl2 : j < ((tkC_ xs).set (k * 2) (.int .i64 x.queue)).length := by rw [List.length_set]; exact hl
  rw [e3, e4]
  by_cases c1 : k * 2 + 1 = j
  ·have a1 : j / 2 = k := by omega
   have a2 : j % 2 = 1 := by omega
   rw [if_pos c1, if_pos (by rw [c1]; exact hl2)]
   simp [a1, a2, TakerD.cells]
  ·rw [if_neg c1]
   by_cases c2 : k * 2 = j
   ·have a1 : j / 2 = k := by omega
    have a2 : j % 2 = 0 := by omega
    rw [if_pos c2, if_pos (by rw [c2]; exact hl)]
    simp [a1, a2, TakerD.cells]
   ·rw [if_neg c2]
    have a1 : j / 2 ≠ k := by omega
    rw [List.getElem_set_ne (fun e => a1 e.symm)]
 ·have hl : (tkC_ xs).length ≤ j := by rw [takerCells_len]; exact h
  rw [if_neg (by omega), if_neg (by omega), List.getElem?_eq_none hl, List.getElem?_eq_none (by rw [takerCells_len, List.length_set]; exact h)]
theorem OwnSt.taker {W W' : World} {n g : Nat} {b1 b2 : Option Addr} {m1 d1 m2 d2 m3 d3 : Nat} {s : StateD} (h : OwnSt W n b1 b2 (some ⟨g, 0, none⟩) m1 d1 m2 d2 m3 d3 s) {k : Nat} (hk : k < s.takers.length) (x : TakerD) (hW : W' = (W.setCell ⟨g, k * 2, none⟩ (.int .i64 x.queue)).setCell ⟨g, k * 2 + 1, none⟩ (.int .i64 x.most)) : OwnSt W' n b1 b2 (some ⟨g, 0, none⟩) m1 d1 m2 d2 m3 d3 { s with takers := s.takers.set k x } ∧ TypeT 56 W W' ∧ n ≤ g := by
 obtain ⟨hn, cur, hg⟩ := own_block h.r3
 have s1 := h.r3.stored (k * 2) (.int .i64 x.queue)
 obtain ⟨_, cur1, hg1⟩ := own_block s1.1
 have s2 := s1.1.stored (k * 2 + 1) (.int .i64 x.most)
 have kt : TypeT 56 W W' := by rw [hW]; exact (TypeT.setCell hg _).trans (TypeT.setCell hg1 _)
 refine ⟨h.takers kt ?_, kt, hn⟩
 rw [hW, ← takerCells_set hk]
 exact s2.1
theorem StBox.keep {W W' : World} {n t : Nat} {s : StateD} (h : StBox W n t s) (hB : Below W.heap.size W W') : StBox W' n t s := by
 obtain ⟨b1, b2, b3, m1, d1, m2, d2, m3, d3, h1, h2⟩ := h
 exact ⟨b1, b2, b3, m1, d1, m2, d2, m3, d3, pkp_ h1 hB, h2.keep hB⟩
theorem StBox.drew {W : World} {n t : Nat} {s : StateD} (h : StBox W n t s) : StBox W.drew n t s := h.keep (Below.refl _ _).drew
theorem FrameT.drew {n t : Nat} {A B : World} (h : FrameT n t A B) : FrameT n t A B.drew := ⟨h.os, h.tape, h.output, h.size, h.block⟩
theorem FrameT.typeSet {n t : Nat} {A B : World} (h : FrameT n t A B) {g i : Nat} (hg : n ≤ g) (u : Value) : FrameT n t A (B.setCell ⟨g, i, none⟩ u) := h.setCell (p := ⟨g, i, none⟩) (.inl hg) u
theorem StRes.turn {W W' : World} {n t : Nat} {v : Value} {E : Int} {s : StateD} {cur : Array Value} (h : StRes W n v E s) (ht : W.heap[t]? = some (.cells cur 31 (0, 0))) (k : TurnB t W W') : StRes W' n v E s := by
 refine ⟨fun e => ?_, h.2⟩
 obtain ⟨b1, b2, b3, m1, d1, m2, d2, m3, d3, h1, h2⟩ := h.1 e
 exact ⟨b1, b2, b3, m1, d1, m2, d2, m3, d3, h1, h2.turn ht (by decide) k⟩
theorem StRes.shape {W : World} {n : Nat} {v : Value} {E : Int} {s : StateD} (h : StRes W n v E s) : ∃ (x1 x2 x3 : Option Addr) (k1 e1 k2 e2 k3 e3 : Nat) (i1 i2 i3 i4 i5 : Int), v = .agg #[.slice x1 k1 e1, .slice x2 k2 e2, .slice x3 k3 e3, .int .i64 i1, .int .i64 i2, .int .i64 i3, .int .i64 i4, .int .i64 i5] := by
 by_cases hE : E = 0
 ·obtain ⟨_, _, _, _, _, _, _, _, _, rfl, _⟩ := h.1 hE; exact ⟨_, _, _, _, _, _, _, _, _, _, _, _, _, _, rfl⟩
 ·rw [h.2 hE]; exact ⟨_, _, _, _, _, _, _, _, _, _, _, _, _, _, rfl⟩
theorem OwnSt.same {W : World} {n : Nat} {b1 b2 b3 : Option Addr} {m1 d1 m2 d2 m3 d3 : Nat} {s s' : StateD} (h : OwnSt W n b1 b2 b3 m1 d1 m2 d2 m3 d3 s) (h1 : s'.ready = s.ready) (h2 : s'.outs = s.outs) (h3 : s'.takers = s.takers) : OwnSt W n b1 b2 b3 m1 d1 m2 d2 m3 d3 s' := by
 refine ⟨by rw [h1]; exact h.l1, by rw [h2]; exact h.l2, by rw [h3]; exact h.l3, h.x2, by rw [h1]; exact h.r1, by rw [h2]; exact h.r2, by rw [h3]; exact h.r3⟩
theorem join11_any (x : TakerD) (w : World) : Calls Try.prog 59 (#[x.val] ++ #[]) w fun e w' => e = .returned (.bool (decide (x.queue = -1))) ∧ Below w.heap.size w w' := by
 have h : (#[x.val] ++ #[] : Array Value) = #[.agg #[.int .i64 x.queue, .int .i64 x.most]] := rfl
 rw [h]
 clear h
 obtain ⟨q, m⟩ := x
 dsimp only
 go_enter Try.func59, Try.ntmps59
 go_wp2_with fail
 go_ret
 exact ⟨ret_bool (by by_cases h : q = -1 <;> simp [h]), (Below.refl _ _).alloc (Nat.le_refl _) _⟩
theorem gone_idx (ts : List TakerD) : idxF (fun t : TakerD => decide (t.queue = -1)) ts = if goneIdx ts < ts.length then (goneIdx ts : Int) else -1 := rfl
theorem join1_does (p : PlanD) (a1 a2 a3 : Option Addr) (n1 c1 n2 c2 n3 c3 : Nat) (s : StateD) (q most : Int) (Bp Bq Bm : Nat) (w : World) (hp : PlanAt w a1 a2 a3 n1 n2 n3 p) (x0 : w.heap[Bp]? = some (.cells #[.slice a1 n1 c1, .slice a2 n2 c2, .slice a3 n3 c3] 26 (0, 0))) (x1 : w.heap[Bq]? = some (.cells #[.int .i64 q] 3 (0, 0))) (x2 : w.heap[Bm]? = some (.cells #[.int .i64 most] 3 (0, 0))) (hR : RightX p s 0) :
 Does 56 #[.pointer (some ⟨Bp, 0, none⟩), .pointer (some ⟨Bq, 0, none⟩), .pointer (some ⟨Bm, 0, none⟩)] w s (joinX n2 s q most) (goneIdx s.takers) (joinS s q most) := by
 intro W n t hBW hwt htn hnW hbx
 obtain ⟨b1, b2, b3, m1, d1, m2, d2, m3, d3, hb, ho⟩ := hbx
 obtain ⟨E, hE⟩ : ∃ E, E = joinX n2 s q most := ⟨_, rfl⟩
 rw [← hE]
 have HE := hidI hE
 have HO := hidI ho
 have HB := hidI hb
 have HP := hidI (hp.keep hBW)
 have HR := hidI hR
 have X0 := hidI (pkp_ x0 hBW)
 have X1 := hidI (pkp_ x1 hBW)
 have X2 := hidI (pkp_ x2 hBW)
 have hlp := lth_ x0
 have hlq := lth_ x1
 have hlm := lth_ x2
 have hm3 : m3 ≤ 4 := by rw [← ho.l3]; exact hR.tk
 have HM3 : Hid (s.takers.length = m3) := ho.l3
 have HTK := hidI (takers_row.2 (own_at ho.r3))
 have hsz := hBW.size
 have hap : (#[Value.pointer (some ⟨t, 0, none⟩)] ++ #[Value.pointer (some ⟨Bp, 0, none⟩), Value.pointer (some ⟨Bq, 0, none⟩), Value.pointer (some ⟨Bm, 0, none⟩)] : Array Value) = #[.pointer (some ⟨t, 0, none⟩), .pointer (some ⟨Bp, 0, none⟩), .pointer (some ⟨Bq, 0, none⟩), .pointer (some ⟨Bm, 0, none⟩)] := rfl
 rw [hap]
 obtain ⟨p0, p1, p2⟩ := pl_cells X0.out
 have cq := coc_ X1.out 0
 have cm := coc_ X2.out 0
 simp at cq cm
 clear hE ho hb hp hR x0 x1 x2 hap hBW
 go_enter Try.func56, Try.ntmps56
 go_wp2_with fail
 refine (askQueue_any p _ _ _ _ _ _ _ _ _ q _ HP.out).mono ?_
 rintro e w1 ⟨rfl, k1⟩
 have s1 := k1.size
 by_cases h1 : isNum q n2 = false
 ·rw [if_pos h1, askE_pan (by decide)]
  unfold panE
  have HE5 : E = 5 := by rw [HE.out]; unfold joinX; rw [if_pos h1]
  exact ⟨rfl, FrameT.of_below k1 hnW, .inl ⟨by rw [HE5]; decide, by rw [HE5]; rfl⟩⟩
 ·rw [if_neg h1, askE_ok]
  unfold okE
  have HEX : Hid (E = if inR most 1 4 = false then 3 else if goneIdx s.takers = s.takers.length ∧ 4 ≤ s.takers.length then 2 else 0) := by show E = _; rw [HE.out]; unfold joinX; rw [if_neg h1]
  have cm1 := (k1.cell (p := ⟨Bm, 0, none⟩) (by show Bm < W.heap.size; omega)).trans cm
  clear h1 p0 p1 p2 cq cm HE
  by_cases h2 : inR most 1 4 = false
  ·have h2' : most < 1 ∨ 4 < most := by unfold inR at h2; simp at h2; omega
   go_wp2_with fail
   refine (never_yes 3 [decide (most < 1), decide ((4 : Int) < most)] _ _ (by simp) (bng_ w1 _ rfl) (by simp; omega)).mono ?_
   rintro e w2 ⟨rfl, rfl⟩
   have HE3 : E = 3 := by rw [HEX.out, if_pos h2]
   exact ⟨rfl, FrameT.of_below (k1.alloc s1 _) hnW, .inl ⟨by rw [HE3]; decide, by rw [HE3]; rfl⟩⟩
  ·have h2' : ¬ (most < 1 ∨ 4 < most) := by unfold inR at h2; simp at h2; omega
   go_wp2_with fail
   refine (never_no 3 [decide (most < 1), decide ((4 : Int) < most)] _ _ (by simp) (bng_ w1 _ rfl) (by simp; omega)).mono ?_
   rintro e w2 ⟨rfl, hw2⟩
   have HEY : Hid (E = if goneIdx s.takers = s.takers.length ∧ 4 ≤ s.takers.length then 2 else 0) := by show E = _; rw [HEX.out, if_neg h2]
   have k2 : Below W.heap.size W w2 := by rw [hw2]; exact k1.alloc s1 _
   have s2 := k2.size
   have K2 := hidI k2
   obtain ⟨y0, y1, y2, y3, y4, y5, y6, y7⟩ := st_cells (pkp_ HB.out k2)
   have f2 := foc_ (pkp_ HB.out k2) 2
   clear h2 h2' hw2 HEX cm1 k1 s1
   go_wp2_with fail
   refine (indexTaker_any 59 (fun _ _ => rfl) #[] (fun x => decide (x.queue = -1)) s.takers b3 m3 d3 w2 HM3.out (by omega) (HTK.out.keep K2.out) (fun x W' _ => join11_any x W')).mono ?_
   rintro e w3 ⟨rfl, k3'⟩
   have k3 := K2.out.trans (k3'.mono s2)
   have K3 := hidI k3
   have s3 := k3.size
   rw [gone_idx]
   clear k3' y0 y1 y2 y3 y4 y5 y6 y7 f2 k2
   obtain ⟨y0, y1, y2, y3, y4, y5, y6, y7⟩ := st_cells (pkp_ HB.out k3)
   have f2 := foc_ (pkp_ HB.out k3) 2
   by_cases hg : goneIdx s.takers < s.takers.length
   ·rw [if_pos hg]
    have HE0 : Hid (E = 0) := by show E = 0; rw [HEY.out, if_neg (by omega)]
    have HG := hidI hg
    have hr3 := cp2_ HO.out.r3 k3
    obtain ⟨g, rfl⟩ : ∃ g, b3 = some ⟨g, 0, none⟩ := by
     rcases hr3.2 with ⟨e, e0⟩ | ⟨g, cap, cur, e, _⟩
     ·exfalso; rw [HM3.out] at hg; omega
     ·cases e; exact ⟨g, rfl⟩
    obtain ⟨k, hk⟩ : ∃ k, k = goneIdx s.takers := ⟨_, rfl⟩
    rw [← hk] at hg ⊢
    have HK := hidI hk
    have hkm : k < m3 := by rw [← HM3.out]; exact hg
    have cc0 := hr3.cellAt (k * 2) (by omega)
    have cc1 := hr3.cellAt (k * 2 + 1) (by omega)
    have e0 := flat_at (f := TakerD.cells) (k := 2) (fun _ => rfl) s.takers k hg 0 (by omega)
    have e1 := flat_at (f := TakerD.cells) (k := 2) (fun _ => rfl) s.takers k hg 1 (by omega)
    rw [show (tkC_ s.takers)[k * 2]? = some (.int .i64 s.takers[k].queue) from e0] at cc0
    rw [show (tkC_ s.takers)[k * 2 + 1]? = some (.int .i64 s.takers[k].most) from e1] at cc1
    have ff0 := hr3.frozenAt (k * 2)
    have ff1 := hr3.frozenAt (k * 2 + 1)
    have cq3 := coc_ (pkp_ X1.out k3) 0
    have cm3 := coc_ (pkp_ X2.out k3) 0
    simp at cq3 cm3
    have j0 : ¬ (k : Int) < 0 := by omega
    have j1 : (0 : Int) ≤ (k : Int) := by omega
    have j2 : (k : Int) < m3 := by omega
    have HR3 := hidI hr3
    have HKL := hidI hg
    clear e0 e1 hr3 hk k3
    go_wp2_with fail
    go_region
    go_wp2_with fail
    go_ret
    have ho3 := HO.out.keep K3.out
    obtain ⟨h1, h2, h3⟩ := ho3.taker HKL.out ⟨q, most⟩ rfl
    have hbt := (h2.block t _ _ (pkp_ HB.out K3.out) (by decide)).trans (pkp_ HB.out K3.out)
    refine ⟨(((FrameT.of_below K3.out hnW).typeSet h3 _).typeSet h3 _).drew, .inr ⟨HE0.out, by first | rfl | exact ret_int (by rw [HK.out]), ?_⟩⟩
    refine StBox.drew ⟨_, _, _, _, _, _, _, _, _, hbt, ?_⟩
    have e : joinS s q most = { s with takers := s.takers.set k ⟨q, most⟩ } := by unfold joinS joinT; rw [if_pos (by rw [← HK.out]; exact HKL.out), ← HK.out]
    rw [e]
    exact h1
   ·rw [if_neg hg]
    have hge : goneIdx s.takers = s.takers.length := by have := goneIdx_le s.takers; omega
    have HGE := hidI hge
    have HNG := hidI hg
    by_cases h4 : 4 ≤ m3
    ·have HE2 : E = 2 := by rw [HEY.out, if_pos ⟨hge, by rw [HM3.out]; exact h4⟩]
     clear hg hge
     go_wp2_with fail
     refine (never_yes 2 [decide ((4 : Int) ≤ (m3 : Int))] _ _ (by simp) (bng_ w3 _ rfl) (by simp; omega)).mono ?_
     rintro e w4 ⟨rfl, rfl⟩
     exact ⟨rfl, FrameT.of_below (K3.out.alloc s3 _) hnW, .inl ⟨by rw [HE2]; decide, by rw [HE2]; rfl⟩⟩
    ·have HE0 : Hid (E = 0) := by show E = 0; rw [HEY.out, if_neg (by rw [HM3.out]; omega)]
     clear hg hge
     go_wp2_with fail
     refine (never_no 2 [decide ((4 : Int) ≤ (m3 : Int))] _ _ (by simp) (bng_ w3 _ rfl) (by simp; omega)).mono ?_
     rintro e w4 ⟨rfl, hw4⟩
     have k4 : Below W.heap.size W w4 := by rw [hw4]; exact K3.out.alloc s3 _
     have s4 := k4.size
     have K4 := hidI k4
     clear hw4 y0 y1 y2 y3 y4 y5 y6 y7 f2 k3
     obtain ⟨y0, y1, y2, y3, y4, y5, y6, y7⟩ := st_cells (pkp_ HB.out k4)
     have f2 := foc_ (pkp_ HB.out k4) 2
     have l5 : Below w4.heap.size w4 (w4.alloc (.cells #[.int .i64 0, .int .i64 0] 56)) := (Below.refl _ _).alloc (Nat.le_refl _) _
     have HO5 := hidI ((HO.out.keep k4).keep l5)
     have HL5 := hidI l5
     have HRW : Hid (RowAt (w4.alloc (.cells #[.int .i64 0, .int .i64 0] 56)) (some ⟨w4.heap.size, 0, none⟩) (tkC_ [⟨0, 0⟩])) := .inr ⟨_, 0, rfl, by simp, fun j u hj => by
      rw [coc_ (World.alloc_heap_new w4 _), Nat.zero_add]
      have : (tkC_ [⟨0, 0⟩])[j]? = (#[Value.int .i64 0, Value.int .i64 0] : Array Value)[j]? := by simp [tkC_, TakerD.cells]
      rw [← this]; exact hj⟩
     clear l5
     go_wp2_with (at_builtin; refine append_row elemTaker (by kernel_rfl) _ _ rfl n _ m3 (tkC_ s.takers) rfl HO5.out.r3 (some ⟨w4.heap.size, 0, none⟩) 1 1 (tkC_ [⟨0, 0⟩]) rfl rfl (fun h => by cases h) HRW.out (takerCells_one _) (by unfold maxLen; omega) (by omega) (by simp; omega) ?_; intro v6 w6 hown6 hgrow6 hblk6; obtain ⟨a6, c6, rfl, l6, l6', l6n, r6⟩ := own_row hown6; have kt6 := TypeT.grown HO5.out.r3 hgrow6; have hb6 := (kt6.block t _ _ (pkp_ (pkp_ HB.out K4.out) HL5.out) (by decide)).trans (pkp_ (pkp_ HB.out K4.out) HL5.out); clear y0 y1 y2 y3 y4 y5 y6 y7 f2; obtain ⟨y0, y1, y2, y3, y4, y5, y6, y7⟩ := st_cells hb6; have f2 := foc_ hb6 2; have HB6 := hidI hb6; have HO6 := hidI hown6; have KT6 := hidI kt6; have HG6 := hidI hgrow6; clear hb6 l6 l6' l6n r6 kt6 hgrow6 hblk6)
     generalize hW7 : w6.setCell ⟨t, 2, none⟩ (.slice a6 (m3 + 1) c6) = W7
     have b7 : W7.heap[t]? = some (.cells #[.slice b1 m1 d1, .slice b2 m2 d2, .slice a6 (m3 + 1) c6, .int .i64 s.nextSeq, .int .i64 s.nextTag, .int .i64 s.came, .int .i64 s.acked, .int .i64 s.dropped] 31 (0, 0)) := by rw [← hW7]; exact scb_ HB6.out (j := 2) _
     have kt7 : TypeT 31 w6 W7 := by rw [← hW7]; exact TypeT.setCell HB6.out _
     have hf6 : FrameT n t W w6 := ((FrameT.of_below K4.out hnW).trans (FrameT.of_below HL5.out (by have := K4.out.size; omega))).grown HG6.out (by simp; have := K4.out.size; omega) (fun j hj => (HO5.out.r3.lt j hj).1)
     have hf7 : FrameT n t W W7 := by rw [← hW7]; exact hf6.setCell (.inr rfl) _
     have ho6 : OwnSt w6 n b1 b2 a6 m1 d1 m2 d2 (m3 + 1) c6 { s with takers := s.takers ++ [⟨0, 0⟩] } := HO5.out.takers KT6.out (by rw [takerCells_append]; exact HO6.out)
     have ho7 := ho6.typeT kt7 (by decide)
     have q7 : W7.heap[Bq]? = _ := (hf7.block Bq (by omega) (by omega)).trans X1.out
     have mm7 : W7.heap[Bm]? = _ := (hf7.block Bm (by omega) (by omega)).trans X2.out
     have hr7 := ho7.r3
     obtain ⟨g, rfl⟩ : ∃ g, a6 = some ⟨g, 0, none⟩ := by
      rcases hr7.2 with ⟨e, e0⟩ | ⟨g, cap, cur, e, _⟩
      ·omega
      ·cases e; exact ⟨g, rfl⟩
     have hkl : m3 < (s.takers ++ [(⟨0, 0⟩ : TakerD)]).length := by rw [List.length_append, HM3.out]; simp
     have cc0 := hr7.cellAt (m3 * 2) (by omega)
     have cc1 := hr7.cellAt (m3 * 2 + 1) (by omega)
     have e0 := flat_at (f := TakerD.cells) (k := 2) (fun _ => rfl) (s.takers ++ [(⟨0, 0⟩ : TakerD)]) m3 hkl 0 (by omega)
     have e1 := flat_at (f := TakerD.cells) (k := 2) (fun _ => rfl) (s.takers ++ [(⟨0, 0⟩ : TakerD)]) m3 hkl 1 (by omega)
     rw [show (tkC_ (s.takers ++ [(⟨0, 0⟩ : TakerD)]))[m3 * 2]? = some (.int .i64 (s.takers ++ [(⟨0, 0⟩ : TakerD)])[m3].queue) from e0] at cc0
     rw [show (tkC_ (s.takers ++ [(⟨0, 0⟩ : TakerD)]))[m3 * 2 + 1]? = some (.int .i64 (s.takers ++ [(⟨0, 0⟩ : TakerD)])[m3].most) from e1] at cc1
     have ff0 := hr7.frozenAt (m3 * 2)
     have ff1 := hr7.frozenAt (m3 * 2 + 1)
     have cq3 := coc_ q7 0
     have cm3 := coc_ mm7 0
     simp at cq3 cm3
     clear y0 y1 y2 y3 y4 y5 y6 y7 f2
     obtain ⟨y0, y1, y2, y3, y4, y5, y6, y7⟩ := st_cells b7
     have j1 : (0 : Int) ≤ (m3 : Int) := by omega
     have j2 : (m3 : Int) < ((m3 + 1 : Nat) : Int) := by omega
     have j3 : (m3 : Int) < (m3 : Int) + 1 := by omega
     obtain ⟨u0, hu0⟩ : ∃ u0, u0 = (s.takers ++ [(⟨0, 0⟩ : TakerD)])[m3].queue := ⟨_, rfl⟩
     obtain ⟨u1, hu1⟩ : ∃ u1, u1 = (s.takers ++ [(⟨0, 0⟩ : TakerD)])[m3].most := ⟨_, rfl⟩
     rw [← hu0] at cc0
     rw [← hu1] at cc1
     have HF7 := hidI hf7
     have B7 := hidI b7
     have HO7 := hidI ho7
     have HKL := hidI hkl
     clear hu0 hu1 e0 e1 hr7 hf6 hf7 b7 ho6 ho7 q7 mm7 kt7 hW7 k4
     go_region
     go_wp2_with fail
     go_ret
     obtain ⟨h1, h2, h3⟩ := HO7.out.taker HKL.out ⟨q, most⟩ rfl
     have hbt := (h2.block t _ _ B7.out (by decide)).trans B7.out
     refine ⟨((HF7.out.typeSet h3 _).typeSet h3 _).drew, .inr ⟨HE0.out, by first | rfl | exact ret_int (by rw [HGE.out, HM3.out]), ?_⟩⟩
     refine StBox.drew ⟨_, _, _, _, _, _, _, _, _, hbt, ?_⟩
     have e : joinS s q most = { s with takers := (s.takers ++ [(⟨0, 0⟩ : TakerD)]).set m3 ⟨q, most⟩ } := by
      unfold joinS joinT
      rw [if_neg HNG.out]
      have : (s.takers ++ [(⟨0, 0⟩ : TakerD)]).set m3 ⟨q, most⟩ = s.takers ++ [⟨q, most⟩] := by
       rw [List.set_append_right _ _ (by rw [HM3.out]; exact Nat.le_refl _), HM3.out]; simp
      rw [this]
     rw [e]
     exact h1
def numOf (E : Int) (N : Int) : Int := if E = 0 then N else 0
theorem join_any (p : PlanD) (a1 a2 a3 : Option Addr) (n1 c1 n2 c2 n3 c3 : Nat) (s : StateD) (b1 b2 b3 : Option Addr) (m1 d1 m2 d2 m3 d3 : Nat) (q most : Int) (w : World) (hp : PlanAt w a1 a2 a3 n1 n2 n3 p) (hs : StateAt w b1 b2 b3 m1 m2 m3 s) (hn2 : b2 = none → d2 = 0) (hn3 : b3 = none → d3 = 0) :
 Calls Try.prog 20 #[.agg #[.slice a1 n1 c1, .slice a2 n2 c2, .slice a3 n3 c3], .agg #[.slice b1 m1 d1, .slice b2 m2 d2, .slice b3 m3 d3, .int .i64 s.nextSeq, .int .i64 s.nextTag, .int .i64 s.came, .int .i64 s.acked, .int .i64 s.dropped], .int .i64 q, .int .i64 most] w fun e w' => ∃ v, e = .returned (.tuple #[v, .int .i64 (numOf (joinE p s q most) (goneIdx s.takers)), .int .i64 (joinE p s q most)]) ∧ StRes w' w.heap.size v (joinE p s q most) (joinS s q most) ∧ Below w.heap.size w w' := by
 obtain ⟨hz5, hg5, hB5⟩ := allocs_heap [.cells #[.slice a1 n1 c1, .slice a2 n2 c2, .slice a3 n3 c3] 26, .cells #[.slice b1 m1 d1, .slice b2 m2 d2, .slice b3 m3 d3, .int .i64 s.nextSeq, .int .i64 s.nextTag, .int .i64 s.came, .int .i64 s.acked, .int .i64 s.dropped] 31, .cells #[.int .i64 q] 3, .cells #[.int .i64 most] 3, .cells #[.slice none 0 0, .slice none 0 0, .slice none 0 0, .int .i64 0, .int .i64 0, .int .i64 0, .int .i64 0, .int .i64 0] 31] w
 obtain ⟨W5, hW5⟩ : ∃ W5, W5 = List.foldl World.alloc w [.cells #[.slice a1 n1 c1, .slice a2 n2 c2, .slice a3 n3 c3] 26, .cells #[.slice b1 m1 d1, .slice b2 m2 d2, .slice b3 m3 d3, .int .i64 s.nextSeq, .int .i64 s.nextTag, .int .i64 s.came, .int .i64 s.acked, .int .i64 s.dropped] 31, .cells #[.int .i64 q] 3, .cells #[.int .i64 most] 3, .cells #[.slice none 0 0, .slice none 0 0, .slice none 0 0, .int .i64 0, .int .i64 0, .int .i64 0, .int .i64 0, .int .i64 0] 31] := ⟨_, rfl⟩
 rw [← hW5] at hz5 hg5 hB5
 have HW5 : Hid (W5 = (((((w.alloc (.cells #[.slice a1 n1 c1, .slice a2 n2 c2, .slice a3 n3 c3] 26)).alloc (.cells #[.slice b1 m1 d1, .slice b2 m2 d2, .slice b3 m3 d3, .int .i64 s.nextSeq, .int .i64 s.nextTag, .int .i64 s.came, .int .i64 s.acked, .int .i64 s.dropped] 31)).alloc (.cells #[.int .i64 q] 3)).alloc (.cells #[.int .i64 most] 3)).alloc (.cells #[.slice none 0 0, .slice none 0 0, .slice none 0 0, .int .i64 0, .int .i64 0, .int .i64 0, .int .i64 0, .int .i64 0] 31))) := hW5
 have hz5' : W5.heap.size = w.heap.size + 5 := by rw [hz5]; rfl
 have x0 := hg5 0 _ rfl
 have x1 := hg5 1 _ rfl
 have x2 := hg5 2 _ rfl
 have x3 := hg5 3 _ rfl
 have x4 := hg5 4 _ rfl
 obtain ⟨E, hE⟩ : ∃ E, E = joinE p s q most := ⟨_, rfl⟩
 rw [← hE]
 obtain ⟨N, hN⟩ : ∃ N, N = numOf E (goneIdx s.takers) := ⟨_, rfl⟩
 rw [← hN]
 have hl2 := hp.l2
 have T := told_any p a1 a2 a3 n1 c1 n2 c2 n3 c3 s b1 b2 b3 m1 d1 m2 d2 m3 d3 56 (fun _ _ => rfl) #[.pointer (some ⟨w.heap.size, 0, none⟩), .pointer (some ⟨w.heap.size + 2, 0, none⟩), .pointer (some ⟨w.heap.size + 3, 0, none⟩)] E (goneIdx s.takers) (joinS s q most) W5 (hp.keep hB5) (hs.keep hB5) hn2 hn3
  (fun h => by rw [hE]; unfold joinE; rw [if_pos h])
  (fun h => by
   have e : E = joinX n2 s q most := by rw [hE, ← hl2]; unfold joinE; rw [if_neg (by simp [h])]
   rw [e]
   exact join1_does p a1 a2 a3 n1 c1 n2 c2 n3 c3 s q most _ _ _ W5 (hp.keep hB5) x0 x2 x3 (right_of h))
 rw [show (if E = 0 then ((goneIdx s.takers : Nat) : Int) else 0) = N from hN.symm] at T
 have HT := hidI T
 have X4 := hidI x4
 have HZ5 := hidI hz5'
 have HB5 := hidI hB5
 have hmf : ∀ (fn : Fn) (first cap : Array Value) (w : World), (Instr.makeFunc fn first cap).run Try.prog w = .ok (.func fn first cap) w := fun _ _ _ _ => rfl
 clear T hW5 hz5 hz5' hg5 hB5 x0 x1 x2 x3 x4 hE hN hp hs hn2 hn3 hl2
 go_enter Try.func20, Try.ntmps20
 go_wp2_with fail
 rw [← HW5.out]
 refine HT.out.mono ?_
 rintro e w6 ⟨v, rfl, hres, hB6⟩
 have x6 := pkp_ X4.out hB6
 obtain ⟨y0, y1, y2, y3, y4, y5, y6, y7⟩ := st_cells x6
 have f0 := foc_ x6 0
 have f1 := foc_ x6 1
 have f2 := foc_ x6 2
 have f3 := foc_ x6 3
 have f4 := foc_ x6 4
 have f5 := foc_ x6 5
 have f6 := foc_ x6 6
 have f7 := foc_ x6 7
 obtain ⟨x1, x2, x3, k1, e1, k2, e2, k3, e3, i1, i2, i3, i4, i5, rfl⟩ := hres.shape
 have X6 := hidI x6
 have HRES := hidI hres
 have HB6 := hidI hB6
 clear x6 hres hB6
 go_wp2_with fail
 generalize hW4 : World.setCell (World.setCell (World.setCell (World.setCell (World.setCell (World.setCell (World.setCell (World.setCell w6 _ _) _ _) _ _) _ _) _ _) _ _) _ _) _ _ = W4
 obtain ⟨b4, t4⟩ := store8 X6.out hW4
 obtain ⟨z0, z1, z2, z3, z4, z5, z6, z7⟩ := st_cells b4
 exact bodyPost_ret (v := .tuple #[.agg #[.slice x1 k1 e1, .slice x2 k2 e2, .slice x3 k3 e3, .int .i64 i1, .int .i64 i2, .int .i64 i3, .int .i64 i4, .int .i64 i5], .int .i64 N, .int .i64 E]) (by simp [results, Try.results20, go_sem, z0, z1, z2, z3, z4, z5, z6, z7]) rfl ⟨_, rfl, (HRES.out.turn X6.out t4).lower (by have := HZ5.out; omega), HB5.out.trans ((HB6.out.mono HB5.out.size).trans (t4.below (by have := HB6.out.size; have := HZ5.out; omega) (by omega)))⟩
end Go.Proofs.Ytpoichgodamnkaa
