import Derived.Test.YtpoichgodamnkaaThx
import Derived.Maps.OwnIn
import Derived.Deep.RegionHeld3
import Derived.Test.YtpoichgodamnkaaTbx
namespace Go.Proofs.Ytpoichgodamnkaa
open Go.RowKit Go.Maps
set_option linter.unusedVariables false
set_option maxRecDepth 100000
set_option maxHeartbeats 1000000
theorem Try.infoNum : (Try.prog.info? 3).map (fun i => (i.zero, i.size, i.bytes)) = some (some (.int .i64 0), 1, 8) := by kernel_rfl
def NumsAt (W : World) (a : Option Addr) (zs : List Int) : Prop := zs = [] ∨ ∃ g, a = some ⟨g, 0, none⟩ ∧ g < W.heap.size ∧ ∀ i (h : i < zs.length), W.cell? ⟨g, i, none⟩ = some (.int .i64 zs[i])
theorem NumsAt.keep {W W' : World} {a : Option Addr} {zs : List Int} (h : NumsAt W a zs) (hB : Below W.heap.size W W') : NumsAt W' a zs := by
 rcases h with h | ⟨g, ha, hg, h⟩
 ·exact .inl h
 ·exact .inr ⟨g, ha, Nat.lt_of_lt_of_le hg hB.size, fun i hi => (hB.cell (p := ⟨g, i, none⟩) hg).trans (h i hi)⟩
theorem nums_own {W : World} {base : Nat} {u : Value} {zs : List Int} {n : Nat} (h : W.ownsRow base 3 1 u n (zs.map (Value.int .i64))) : ∃ a c, u = .slice a zs.length c ∧ NumsAt W a zs := by
 have hn : n = zs.length := by have := h.1; simp at this; omega
 subst hn
 rcases h.2 with ⟨rfl, h0⟩ | ⟨g, cap, cur, rfl, hb, hg, h1, h2, _⟩
 ·have e := List.length_eq_zero_iff.1 h0
  exact ⟨none, 0, by rw [h0], .inl e⟩
 ·refine ⟨_, cap, rfl, .inr ⟨g, rfl, lth_ hg, fun i hi => ?_⟩⟩
  have := h.cellAt i (by omega)
  rw [this, List.getElem?_map, List.getElem?_eq_getElem hi]; rfl
theorem nums_grown {W W' : World} {a : Option Addr} {zs : List Int} {row : Option Nat} (h : NumsAt W a zs) (hg : W.grownBy W' row) (hr : ∀ g, a = some ⟨g, 0, none⟩ → ¬ some g = row) : NumsAt W' a zs := by
 rcases h with h | ⟨g, ha, hlt, h⟩
 ·exact .inl h
 ·have hb := hg.block g hlt (hr g ha)
  refine .inr ⟨g, ha, Nat.lt_of_lt_of_le hlt hg.size, fun i hi => ?_⟩
  rw [← h i hi]; unfold World.cell?; simp only [hb]
theorem cell_one (w : World) (v : Value) (t : TypeId) : ∀ j u, ([v] : List Value)[j]? = some u → (w.alloc (.cells #[v] t)).cell? ((⟨w.heap.size, 0, none⟩ : Addr).add j) = some u := by
 intro j u hj
 match j, hj with
 | 0, hj =>
   simp at hj; subst hj
   have : (⟨w.heap.size, 0, none⟩ : Addr).add 0 = ⟨w.heap.size, 0, none⟩ := by unfold Addr.add; split <;> simp_all
   rw [this]; exact one_new w _ t
 | j + 1, hj => simp at hj
theorem cell_one2 (w : World) (A : Obj) (v : Value) (t : TypeId) : ∀ j u, ([v] : List Value)[j]? = some u → ((w.alloc A).alloc (.cells #[v] t)).cell? ((⟨w.heap.size + 1, 0, none⟩ : Addr).add j) = some u := by
 have := cell_one (w.alloc A) v t
 rw [World.size_alloc] at this; exact this
theorem seqs_any (s : StateD) (b1 b2 b3 : Option Addr) (m1 d1 m2 d2 m3 d3 : Nat) (w : World) (hs : StateAt w b1 b2 b3 m1 m2 m3 s) (hb : (seqsOf s).length ≤ 100000000) :
 Calls Try.prog 93 #[.agg #[.slice b1 m1 d1, .slice b2 m2 d2, .slice b3 m3 d3, .int .i64 s.nextSeq, .int .i64 s.nextTag, .int .i64 s.came, .int .i64 s.acked, .int .i64 s.dropped]] w fun e w' => ∃ a c, e = .returned (.slice a (seqsOf s).length c) ∧ NumsAt w' a (seqsOf s) ∧ (∀ g, a = some ⟨g, 0, none⟩ → w.heap.size ≤ g) ∧ Below w.heap.size w w' := by
 obtain ⟨i3, hi3, hy0, hy1, hy2⟩ := info_parts Try.infoNum
 obtain ⟨W1, hW1, hBw, hs1, hbx⟩ := s_boxed w #[.slice b1 m1 d1, .slice b2 m2 d2, .slice b3 m3 d3, .int .i64 s.nextSeq, .int .i64 s.nextTag, .int .i64 s.came, .int .i64 s.acked, .int .i64 s.dropped]
 have HW1 := hidI hW1
 have BX := hidI hbx
 have HS := hidI (hs.keep hBw)
 have HM1 : Hid (s.ready.length = m1) := hs.l1
 have HM2 : Hid (s.outs.length = m2) := hs.l2
 have hx1 := hs.x1
 have hx2 := hs.x2
 have HBD := hidI hb
 unfold maxLen at hx1
 have s0 := hBw.size
 have hs1' : w.heap.size < W1.heap.size := by omega
 obtain ⟨y0, y1, y2, y3, y4, y5, y6, y7⟩ := st_cells (hbx W1 (Below.refl _ _))
 obtain ⟨Q, hQ⟩ : ∃ Q, Q = seqsOf s := ⟨_, rfl⟩
 obtain ⟨O, hO⟩ : ∃ O, O = s.outs.map (fun o => o.item.seq) := ⟨_, rfl⟩
 have HQO : Hid (Q = s.ready.flatMap (fun l => l.map ItemD.seq) ++ O) := by show Q = _; rw [hQ, hO]; rfl
 rw [← hQ] at HBD ⊢
 have HO := hidI hO
 clear hW1 hbx hs1 hs hb hQ hO
 go_enter Try.func93, Try.ntmps93
 go_wp2_with fail
 rw [← HW1.out]
 go_loopw [3, 5, 7, 13, 19] (fun u _ _ i _ wr => ∃ (k : Nat) (L : List Int), k ≤ m1 ∧ i = .int .i64 k ∧ wr.ownsRow W1.heap.size 3 1 u L.length (L.map (Value.int .i64)) ∧ L ++ ((s.ready.drop k).flatMap (fun l => l.map ItemD.seq) ++ O) = Q ∧ Below W1.heap.size W1 wr) (fun _ _ _ i _ _ => m1 - (intOf i).toNat)
 case atStart => exact ⟨0, [], Nat.zero_le _, rfl, World.ownsRow_nil _ _ _ _, by rw [HQO.out]; rfl, Below.refl _ _⟩
 case round =>
  obtain ⟨k, L, hk, rfl, hrow, hL, hB⟩ := hrel
  have HL := hidI hL
  have hBs := hB.size
  clear hL y0 y1 y2 y3 y4 y5 y6 y7
  obtain ⟨y0, y1, y2, y3, y4, y5, y6, y7⟩ := st_cells (BX.out wr hB)
  by_cases hlt : k < m1
  ·have HLT := hidI hlt
   have hkl : k < s.ready.length := by rw [HM1.out]; exact hlt
   obtain ⟨g, o, b, c, ha, hg, hl⟩ := HS.out.q1.get hkl
   have hdr : s.ready.drop k = s.ready[k] :: s.ready.drop (k + 1) := List.drop_eq_getElem_cons hkl
   subst ha
   have e1 := (hl.keep hg hB).cell
   have HLI := hidI hl
   obtain ⟨xs, hxs⟩ : ∃ xs, xs = s.ready[k] := ⟨_, rfl⟩
   rw [← hxs] at HLI e1 hdr
   obtain ⟨R, hR⟩ : ∃ R, R = (s.ready.drop (k + 1)).flatMap (fun l => l.map ItemD.seq) ++ O := ⟨_, rfl⟩
   have HL2 : Hid (L ++ (xs.map ItemD.seq ++ R) = Q) := by
    show L ++ (xs.map ItemD.seq ++ R) = Q
    rw [← HL.out, hdr, hR, List.flatMap_cons, List.append_assoc]
   have HR := hidI hR
   obtain ⟨n, hn⟩ : ∃ n, n = xs.length := ⟨_, rfl⟩
   rw [← hn] at e1
   have HN := hidI hn
   have hnm : n ≤ 9223372036854775807 := by have h1 := HLI.out.le; have h2 := HLI.out.cm; unfold maxLen at h2; omega
   have j1 : (0 : Int) ≤ (k : Int) := by omega
   have j2 : (k : Int) < m1 := by omega
   clear hl hxs hn hdr hR
   go_wp2_with fail
   go_loopw [3, 7, 19] (fun u _ i wr => ∃ (j : Nat) (L : List Int), j ≤ n ∧ i = .int .i64 j ∧ wr.ownsRow W1.heap.size 3 1 u L.length (L.map (Value.int .i64)) ∧ L ++ ((xs.drop j).map ItemD.seq ++ R) = Q ∧ Below W1.heap.size W1 wr) (fun _ _ i _ => n - (intOf i).toNat)
   case atStart => exact ⟨0, L, Nat.zero_le _, rfl, hrow, HL2.out, hB⟩
   case round =>
    clear HL2 HL hrow
    obtain ⟨j, L, hj, rfl, hrow, hL, hBj⟩ := hrel
    have HL := hidI hL
    have s7 := hBj.size
    clear hL
    by_cases hjl : j < n
    ·have HJL := hidI hjl
     have hjx : j < xs.length := by rw [← HN.out]; exact hjl
     have hdr : xs.drop j = xs[j] :: xs.drop (j + 1) := List.drop_eq_getElem_cons hjx
     rcases HLI.out.it.keep hBj with h | ⟨gx, ox, hax, hgx, hxx⟩
     ·rw [h] at hjx; simp at hjx
     obtain ⟨f0, f1, f2, f3, f4⟩ := hxx j hjx
     subst hax
     obtain ⟨x, hx⟩ : ∃ x, x = xs[j] := ⟨_, rfl⟩
     rw [← hx] at f0 f1 f2 f3 f4 hdr
     obtain ⟨sq, ky, bo, ag, de⟩ := x
     dsimp only at f0 f1 f2 f3 f4
     have HL3 : Hid ((L ++ [sq]) ++ ((xs.drop (j + 1)).map ItemD.seq ++ R) = Q) := by
      show (L ++ [sq]) ++ ((xs.drop (j + 1)).map ItemD.seq ++ R) = Q
      rw [← HL.out, hdr]; simp
     have hLn : L.length + 1 ≤ 100000000 := by
      have := HBD.out; rw [← HL3.out] at this; simp at this; omega
     obtain ⟨m, hm⟩ : ∃ m, m = L.length := ⟨_, rfl⟩
     rw [← hm] at hrow hLn
     have HM := hidI hm
     have i1 : (0 : Int) ≤ (j : Int) := by omega
     have i2 : (j : Int) < n := by omega
     clear hx hdr hxx hm
     go_wp2_with (at_builtin; refine wpList_append_own _ rfl _ _ 125 rfl W1.heap.size 3 i3 (.int .i64 0) 1 8 Try.underlying125 hi3 hy0 hy1 hy2 rfl (by decide) _ _ _ rfl ((hrow.alloc _).alloc _) ⟨wr.heap.size + 1, 0, none⟩ 1 1 [.int .i64 sq] rfl rfl (cell_one2 _ _ _ _) (by simp [Value.oneCell']) (by unfold maxLen; omega) (by omega) (by simp; omega) ?_; intro v' w9 hown' hgrow _; have hB9 : Below W1.heap.size W1 w9 := ((hBj.alloc s7 _).alloc (by simp; omega) _).grown hgrow (by simp; omega) (own_ge hrow))
     go_roundw
     case rel => exact ⟨j + 1, L ++ [sq], HJL.out, by have := HJL.out; go_num, by rw [List.length_append, List.map_append, ← HM.out]; exact hown', HL3.out, hB9⟩
     case measure => have := HJL.out; simp [intOf]; omega
    ·have hje : j = n := by omega
     subst hje
     have HL3 : Hid (L ++ ((s.ready.drop (k + 1)).flatMap (fun l => l.map ItemD.seq) ++ O) = Q) := by
      show L ++ _ = Q
      have := HL.out
      rw [List.drop_eq_nil_of_le (by rw [← HN.out]; exact Nat.le_refl _), HR.out] at this
      exact this
     clear hjl hj
     go_wp2_with fail
     go_roundw
     case rel => exact ⟨k + 1, L, HLT.out, by have := HLT.out; go_num, hrow, HL3.out, hBj⟩
     case measure => have := HLT.out; simp [intOf]; omega
  ·have hke : k = m1 := by omega
   subst hke
   have HL3 : Hid (L ++ O = Q) := by
    show L ++ O = Q
    have := HL.out
    rw [List.drop_eq_nil_of_le (by rw [HM1.out]; exact Nat.le_refl _)] at this
    exact this
   clear hlt hk HL
   go_wp2_with fail
   go_loopw [3, 9, 33] (fun u _ i wr => ∃ (j : Nat) (L : List Int), j ≤ m2 ∧ i = .int .i64 j ∧ wr.ownsRow W1.heap.size 3 1 u L.length (L.map (Value.int .i64)) ∧ L ++ (s.outs.drop j).map (fun o => o.item.seq) = Q ∧ Below W1.heap.size W1 wr) (fun _ _ i _ => m2 - (intOf i).toNat)
   case atStart => exact ⟨0, L, Nat.zero_le _, rfl, hrow, by rw [← HL3.out, HO.out]; rfl, hB⟩
   case round =>
    clear HL3 hrow y0 y1 y2 y3 y4 y5 y6 y7
    obtain ⟨j, L, hj, rfl, hrow, hL, hBj⟩ := hrel
    have HL := hidI hL
    have s7 := hBj.size
    clear hL
    by_cases hjl : j < m2
    ·have HJL := hidI hjl
     have hjx : j < s.outs.length := by rw [HM2.out]; exact hjl
     have hdr : s.outs.drop j = s.outs[j] :: s.outs.drop (j + 1) := List.drop_eq_getElem_cons hjx
     obtain ⟨gx, ox, hax, hgx, e1, e2, e3, e4⟩ := (HS.out.q2.keep hBj).get hjx
     subst hax
     obtain ⟨x, hx⟩ : ∃ x, x = s.outs[j] := ⟨_, rfl⟩
     rw [← hx] at e1 e2 e3 e4 hdr
     obtain ⟨tg, tk, qu, it⟩ := x
     obtain ⟨sq, ky, bo, ag, de⟩ := it
     obtain ⟨f0, f1, f2, f3, f4⟩ := e4
     dsimp only at e1 e2 e3 f0 f1 f2 f3 f4
     have HL3 : Hid ((L ++ [sq]) ++ (s.outs.drop (j + 1)).map (fun o => o.item.seq) = Q) := by
      show (L ++ [sq]) ++ _ = Q
      rw [← HL.out, hdr]; simp
     have hLn : L.length + 1 ≤ 100000000 := by
      have := HBD.out; rw [← HL3.out] at this; simp at this; omega
     obtain ⟨m, hm⟩ : ∃ m, m = L.length := ⟨_, rfl⟩
     rw [← hm] at hrow hLn
     have HM := hidI hm
     have i1 : (0 : Int) ≤ (j : Int) := by omega
     have i2 : (j : Int) < m2 := by omega
     clear hx hdr hm
     go_wp2_with (at_builtin; refine wpList_append_own _ rfl _ _ 125 rfl W1.heap.size 3 i3 (.int .i64 0) 1 8 Try.underlying125 hi3 hy0 hy1 hy2 rfl (by decide) _ _ _ rfl ((hrow.alloc _).alloc _) ⟨wr.heap.size + 1, 0, none⟩ 1 1 [.int .i64 sq] rfl rfl (cell_one2 _ _ _ _) (by simp [Value.oneCell']) (by unfold maxLen; omega) (by omega) (by simp; omega) ?_; intro v' w9 hown' hgrow _; have hB9 : Below W1.heap.size W1 w9 := ((hBj.alloc s7 _).alloc (by simp; omega) _).grown hgrow (by simp; omega) (own_ge hrow))
     go_roundw
     case rel => exact ⟨j + 1, L ++ [sq], HJL.out, by have := HJL.out; go_num, by rw [List.length_append, List.map_append, ← HM.out]; exact hown', HL3.out, hB9⟩
     case measure => have := HJL.out; simp [intOf]; omega
    ·have hje : j = m2 := by omega
     subst hje
     have HL3 : L = Q := by
      have := HL.out
      rw [List.drop_eq_nil_of_le (by rw [HM2.out]; exact Nat.le_refl _)] at this
      simpa using this
     subst HL3
     obtain ⟨a, c, rfl, hI⟩ := nums_own hrow
     have HI := hidI hI
     have HGE : Hid (∀ g, a = some ⟨g, 0, none⟩ → w.heap.size ≤ g) := fun g e => by subst e; exact Nat.le_trans s0 (own_ge hrow g rfl)
     clear hrow hI hjl hj HL
     go_wp2_with fail
     go_ret
     exact ⟨a, c, rfl, HI.out, HGE.out, hBw.trans (hBj.mono s0)⟩
theorem held_step (xs : List OutD) (t : Int) {k : Nat} (h : k < xs.length) : ((xs.take (k + 1)).filter (fun o => decide (o.taker = t))).length = ((xs.take k).filter (fun o => decide (o.taker = t))).length + (if xs[k].taker = t then 1 else 0) := by
 rw [List.take_succ_eq_append_getElem h, List.filter_append, List.length_append]
 by_cases e : xs[k].taker = t <;> simp [e]
theorem held_any (s : StateD) (b1 b2 b3 : Option Addr) (m1 d1 m2 d2 m3 d3 : Nat) (t : Int) (w : World) (hs : StateAt w b1 b2 b3 m1 m2 m3 s) :
 Calls Try.prog 54 #[.agg #[.slice b1 m1 d1, .slice b2 m2 d2, .slice b3 m3 d3, .int .i64 s.nextSeq, .int .i64 s.nextTag, .int .i64 s.came, .int .i64 s.acked, .int .i64 s.dropped], .int .i64 t] w fun e w' => e = .returned (.int .i64 (heldN s t)) ∧ Below w.heap.size w w' := by
 obtain ⟨W1, hW1, hBw, hs1, hbx⟩ := s_boxed w #[.slice b1 m1 d1, .slice b2 m2 d2, .slice b3 m3 d3, .int .i64 s.nextSeq, .int .i64 s.nextTag, .int .i64 s.came, .int .i64 s.acked, .int .i64 s.dropped]
 have HW1 := hidI hW1
 have BX := hidI hbx
 have HS := hidI (hs.keep hBw)
 have HM2 : Hid (s.outs.length = m2) := hs.l2
 have hx2 := hs.x2
 have s0 := hBw.size
 obtain ⟨y0, y1, y2, y3, y4, y5, y6, y7⟩ := st_cells (hbx W1 (Below.refl _ _))
 clear hW1 hbx hs1 hs
 go_enter Try.func54, Try.ntmps54
 go_wp2_with fail
 rw [← HW1.out]
 go_loopw [5, 7, 11] (fun u _ i wr => ∃ (k n : Nat), k ≤ m2 ∧ i = .int .i64 k ∧ u = .int .i64 n ∧ n ≤ k ∧ n = ((s.outs.take k).filter (fun o => decide (o.taker = t))).length ∧ Below W1.heap.size W1 wr) (fun _ _ i _ => m2 - (intOf i).toNat)
 case atStart => exact ⟨0, 0, Nat.zero_le _, rfl, rfl, Nat.le_refl _, rfl, Below.refl _ _⟩
 case round =>
  obtain ⟨k, n, hk, rfl, rfl, hnk, hn, hB⟩ := hrel
  have HN := hidI hn
  have hBs := hB.size
  clear hn y0 y1 y2 y3 y4 y5 y6 y7
  by_cases hlt : k < m2
  ·have HLT := hidI hlt
   have hkl : k < s.outs.length := by rw [HM2.out]; exact hlt
   obtain ⟨g, o, ha, hg, e1, e2, e3, e4⟩ := (HS.out.q2.keep hB).get hkl
   subst ha
   have HST := hidI (held_step s.outs t hkl)
   obtain ⟨x, hx⟩ : ∃ x, x = s.outs[k] := ⟨_, rfl⟩
   rw [← hx] at e1 e2 e3 e4 HST
   obtain ⟨tg, tk, qu, it⟩ := x
   obtain ⟨sq, ky, bo, ag, de⟩ := it
   obtain ⟨f0, f1, f2, f3, f4⟩ := e4
   dsimp only at e1 e2 e3 f0 f1 f2 f3 f4 HST
   rw [← HN.out] at HST
   have j1 : (0 : Int) ≤ (k : Int) := by omega
   have j2 : (k : Int) < m2 := by omega
   clear hx
   by_cases htk : tk = t
   ·have hb : (tk == t) = true := by simpa using htk
    rw [if_pos htk] at HST
    clear htk
    go_wp2_with fail
    go_roundw
    case rel => exact ⟨k + 1, n + 1, HLT.out, by have := HLT.out; go_num, by have := HLT.out; go_num, by omega, HST.out.symm, hB.alloc hBs _⟩
    case measure => have := HLT.out; simp [intOf]; omega
   ·have hb : (tk == t) = false := by simpa using htk
    rw [if_neg htk] at HST
    clear htk
    go_wp2_with fail
    go_roundw
    case rel => exact ⟨k + 1, n, HLT.out, by have := HLT.out; go_num, rfl, by omega, HST.out.symm, hB.alloc hBs _⟩
    case measure => have := HLT.out; simp [intOf]; omega
  ·have hke : k = m2 := by omega
   subst hke
   clear hlt hk
   go_wp2_with fail
   go_ret
   refine ⟨?_, hBw.trans (hB.mono s0)⟩
   have : n = heldN s t := by
    have := HN.out
    rw [List.take_of_length_le (by rw [HM2.out]; exact Nat.le_refl _)] at this
    exact this
   show Ending.returned (Value.int .i64 (n : Nat)) = _
   rw [this]
theorem keyed3 : Keyed Try.prog 3 := int_keyed Try.underlying3
theorem zeroS (w : World) : (zeroValue 128).run Try.prog w = .ok (.agg #[]) w := by kernel_rfl
def setI (zs : List Int) (k : Nat) : DataW Unit := setOf (.agg []) ((zs.take k).map (fun z => Lit.int .i64 z))
theorem setI_zero (zs : List Int) : setI zs 0 = .map [] := by simp [setI, setOf]
theorem setI_succ (zs : List Int) {k : Nat} (h : k < zs.length) : setI zs (k + 1) = (setI zs k).put (.int .i64 zs[k]) (.agg []) := by
 unfold setI; rw [List.take_succ_eq_append_getElem h, List.map_append, List.map_cons, List.map_nil, setOf_snoc]
theorem has_setI (zs : List Int) (k : Nat) (z : Int) : Maps.has (setI zs k) (.int .i64 z) = decide (z ∈ zs.take k) := by
 unfold setI
 rw [has_setOf _ _ _ (by intro y hy; obtain ⟨_, _, rfl⟩ := List.mem_map.1 hy; trivial), Bool.eq_iff_iff, List.any_eq_true, decide_eq_true_eq]
 constructor
 ·rintro ⟨y, hy, h⟩
  obtain ⟨x, hx, rfl⟩ := List.mem_map.1 hy
  simp [Lit.sameKey] at h
  rw [← h]; exact hx
 ·intro h
  exact ⟨_, List.mem_map.2 ⟨z, h, rfl⟩, by simp [Lit.sameKey]⟩
theorem wf_int {z : Int} (h : 0 ≤ z ∧ z < 1048576) : (Lit.int .i64 z).wf = true := by simp [Lit.wf, IntKind.min, IntKind.max, IntKind.bits, IntKind.signed]; omega
def SeqsTo (zs : List Int) (n : Int) (k : Nat) : Prop := (zs.take k).Nodup ∧ ∀ z ∈ zs.take k, z < n
theorem SeqsTo.succ {zs : List Int} {n : Int} {k : Nat} (h : SeqsTo zs n k) (hk : k < zs.length) (h1 : zs[k] ∉ zs.take k) (h2 : zs[k] < n) : SeqsTo zs n (k + 1) := by
 unfold SeqsTo
 rw [List.take_succ_eq_append_getElem hk]
 refine ⟨List.nodup_append.2 ⟨h.1, by simp, fun a ha b hb e => ?_⟩, fun z hz => ?_⟩
 ·simp at hb; subst hb; subst e; exact h1 ha
 ·rcases List.mem_append.1 hz with hz | hz
  ·exact h.2 z hz
  ·simp at hz; subst hz; exact h2
theorem seqsOk_yes {s : StateD} (h : SeqsTo (seqsOf s) s.nextSeq (seqsOf s).length) : seqsOk s = true := by
 unfold SeqsTo at h
 rw [List.take_length] at h
 unfold seqsOk
 rw [decide_eq_true h.1, Bool.true_and, List.all_eq_true]
 exact fun z hz => decide_eq_true (h.2 z hz)
theorem seqsOk_no {s : StateD} {k : Nat} (hk : k < (seqsOf s).length) (h : (seqsOf s)[k] ∈ (seqsOf s).take k ∨ s.nextSeq ≤ (seqsOf s)[k]) : seqsOk s = false := by
 unfold seqsOk
 rcases h with h | h
 ·have : ¬ (seqsOf s).Nodup := fun hn => by
   rw [← List.take_append_drop k (seqsOf s), List.nodup_append] at hn
   refine hn.2.2 _ h _ ?_ rfl
   rw [List.drop_eq_getElem_cons hk]; exact List.mem_cons_self
  rw [decide_eq_false this]; rfl
 ·rw [Bool.and_eq_false_iff]
  refine .inr (List.all_eq_false.2 ⟨_, List.getElem_mem hk, ?_⟩)
  simp; exact h
theorem askSeqs_any (s : StateD) (b1 b2 b3 : Option Addr) (m1 d1 m2 d2 m3 d3 : Nat) (w : World) (hs : StateAt w b1 b2 b3 m1 m2 m3 s) (hb : (seqsOf s).length ≤ 100000000) (hq : ∀ z ∈ seqsOf s, 0 ≤ z ∧ z < 1048576) :
 Calls Try.prog 50 #[.agg #[.slice b1 m1 d1, .slice b2 m2 d2, .slice b3 m3 d3, .int .i64 s.nextSeq, .int .i64 s.nextTag, .int .i64 s.came, .int .i64 s.acked, .int .i64 s.dropped]] w fun e w' => e = askE (if seqsOk s = true then 0 else 1) ∧ Below w.heap.size w w' := by
 obtain ⟨D, hD⟩ : ∃ D : Int, D = if seqsOk s = true then 0 else 1 := ⟨_, rfl⟩
 rw [← hD]
 have HD := hidI hD
 clear hD
 have hmm := @run_makeMap Try.prog
 obtain ⟨W1, hW1, hBw, hs1, hbx⟩ := s_boxed w #[.slice b1 m1 d1, .slice b2 m2 d2, .slice b3 m3 d3, .int .i64 s.nextSeq, .int .i64 s.nextTag, .int .i64 s.came, .int .i64 s.acked, .int .i64 s.dropped]
 have HW1 := hidI hW1
 have s0 := hBw.size
 obtain ⟨W2, hW2⟩ : ∃ W2, W2 = W1.alloc (.map #[] 0) := ⟨_, rfl⟩
 have hB2 : Below W1.heap.size W1 W2 := by rw [hW2]; exact (Below.refl _ _).alloc (Nat.le_refl _) _
 have HW2 := hidI hW2
 have HS := hidI ((hs.keep hBw).keep hB2)
 have HQ := hidI hq
 have HBD := hidI hb
 have BX := hidI hbx
 have HS1 : Hid (w.heap.size + 1 = W1.heap.size) := hs1.symm
 obtain ⟨y0, y1, y2, y3, y4, y5, y6, y7⟩ := st_cells (hbx W2 hB2)
 have k02 := hBw.trans (hB2.mono s0)
 have s02 := k02.size
 have hown0 : W2.ownsMap Try.prog 3 unitElem W1.heap.size 0 (.map [] : DataW Unit) := by rw [hW2]; exact World.ownsMap_made _ _ _ _
 have HO0 := hidI hown0
 clear hW1 hbx hs1 hs hb hq hW2 hown0
 go_enter Try.func50, Try.ntmps50
 go_wp2_with fail
 rw [← HW1.out, ← HW2.out, HS1.out]
 refine (seqs_any s _ _ _ _ _ _ _ _ _ _ HS.out HBD.out).mono ?_
 rintro e w3 ⟨a, c, rfl, hI, hge, hB3⟩
 obtain ⟨Z, hZ⟩ : ∃ Z, Z = seqsOf s := ⟨_, rfl⟩
 have HZ := hidI hZ
 rw [← hZ] at hI HBD HQ ⊢
 obtain ⟨n, hn⟩ : ∃ n, n = Z.length := ⟨_, rfl⟩
 rw [← hn] at HBD ⊢
 have HN := hidI hn
 have hn8 := HBD.out
 have HI := hidI hI
 have hwm : W1.heap.size < W2.heap.size := by rw [HW2.out]; simp
 have hmap : w3.ownsMap Try.prog 3 unitElem W1.heap.size 0 (.map [] : DataW Unit) := by
  obtain ⟨es, cl, h1, h2⟩ := HO0.out
  exact ⟨es, cl, (hB3.block _ hwm).trans h1, h2⟩
 have k3 : Below W1.heap.size W1 w3 := hB2.trans (hB3.mono hB2.size)
 have HM3 := hidI hmap
 have HGN : Hid (∀ g, a = some ⟨g, 0, none⟩ → ¬ some g = some W1.heap.size) := fun g e h => by have := hge g e; cases h; omega
 have hs3 := hB3.size
 clear hI hZ hn hmap hB3 hge y0 y1 y2 y3 y4 y5 y6 y7
 go_wp2_with fail
 go_loopw [4, 5, 6, 11] (fun _ _ _ i wr => ∃ k : Nat, k ≤ n ∧ i = .int .i64 k ∧ wr.ownsMap Try.prog 3 unitElem W1.heap.size k (setI Z k) ∧ SeqsTo Z s.nextSeq k ∧ Below W1.heap.size W1 wr ∧ NumsAt wr a Z ∧ w3.heap.size ≤ wr.heap.size) (fun _ _ _ i _ => n - (intOf i).toNat)
 case atStart => exact ⟨0, Nat.zero_le _, rfl, by rw [setI_zero]; exact HM3.out, ⟨by simp, by simp⟩, k3, HI.out, Nat.le_refl _⟩
 case round =>
  obtain ⟨k, hk, rfl, hown, hst, hB, hnums, hws⟩ := hrel
  have HST := hidI hst
  have hBs := hB.size
  have HNU := hidI hnums
  clear hst hnums
  by_cases hlt : k < n
  ·have HLT := hidI hlt
   have hkl : k < Z.length := by rw [← HN.out]; exact hlt
   rcases HNU.out with h | ⟨g, hag, hg, hx⟩
   ·rw [h] at hkl; simp at hkl
   subst hag
   have c1 := hx k hkl
   have HSU := hidI (setI_succ Z hkl)
   have HSN := hidI (fun h1 h2 => HST.out.succ hkl h1 h2)
   have HNO := hidI (fun (h : Z[k] ∈ Z.take k ∨ s.nextSeq ≤ Z[k]) => seqsOk_no (s := s) (k := k) (by rw [← HZ.out]; exact hkl) (by simp only [← HZ.out]; exact h))
   have hzr := HQ.out _ (List.getElem_mem hkl)
   obtain ⟨z, hz⟩ : ∃ z, z = Z[k] := ⟨_, rfl⟩
   rw [← hz] at c1 HSU HSN HNO hzr
   have hkey : keyOf Try.prog 3 (.int .i64 z) = some (.int .i64 z) := keyOf_int_mk Try.underlying3 (wf_int hzr)
   have HHAS := hidI (has_setI Z k z)
   obtain ⟨Dk, hDk⟩ : ∃ Dk, Dk = setI Z k := ⟨_, rfl⟩
   rw [← hDk] at hown HSU HHAS
   obtain ⟨y0, y1, y2, y3, y4, y5, y6, y7⟩ := st_cells (BX.out wr hB)
   have j1 : (0 : Int) ≤ (k : Int) := by omega
   have j2 : (k : Int) < n := by omega
   have sk : w.heap.size < wr.heap.size := by have := HS1.out; omega
   have hmb : W1.heap.size < wr.heap.size := by omega
   obtain ⟨there, hth⟩ : ∃ there, there = decide (z ∈ Z.take k) := ⟨_, rfl⟩
   have hh : Maps.has Dk (.int .i64 z) = there := by rw [HHAS.out, hth]
   have HTH := hidI hth
   clear hx hz hDk hth
   go_wp2_with (at_lookup; refine wpList_lookup_own_unit _ rfl _ _ 126 rfl 3 128 keyed3 Try.underlying126 (zeroS _) W1.heap.size k Dk rfl hown _ _ rfl hkey ?_)
   by_cases hbad : there = true ∨ s.nextSeq ≤ z
   ·have HN1 : Hid (seqsOk s = false) := HNO.out (hbad.imp (fun h => of_decide_eq_true (by rw [← HTH.out]; exact h)) id)
    refine (never_yes 1 [there, decide (s.nextSeq ≤ z)] _ _ (by simp) (bng_ _ _ (World.size_alloc _ _).symm) (by rcases hbad with h | h; exact h ▸ List.mem_cons_self; rw [decide_eq_true h]; simp)).mono ?_
    rintro e w4 ⟨rfl, hw4⟩
    exact ⟨rfl, by rw [HD.out, HN1.out]; rfl, by rw [hw4]; exact hBw.trans (((hB.alloc hBs _).alloc (by simp; omega) _).mono s0)⟩
   ·have hth : there = false := by cases there with | false => rfl | true => exact absurd (.inl rfl) hbad
    have HS2 : Hid (SeqsTo Z s.nextSeq (k + 1)) := HSN.out (of_decide_eq_false (by rw [← HTH.out]; exact hth)) (by omega)
    subst hth
    refine (never_no 1 [false, decide (s.nextSeq ≤ z)] _ _ (by simp) (bng_ _ _ (World.size_alloc _ _).symm) (by simp; omega)).mono ?_
    rintro e w4 ⟨rfl, hw4⟩
    have hown4 : w4.ownsMap Try.prog 3 unitElem W1.heap.size k Dk := by rw [hw4]; exact (hown.alloc _).alloc _
    have l4 : Below wr.heap.size wr w4 := by rw [hw4]; exact ((Below.refl _ _).alloc (Nat.le_refl _) _).alloc (by simp) _
    have k4 : Below W1.heap.size W1 w4 := hB.trans (l4.mono hBs)
    have s4 := l4.size
    have HN4 := hidI (HNU.out.keep l4)
    clear hw4 hbad y0 y1 y2 y3 y4 y5 y6 y7 c1 hown
    go_wp2_with (at_mapUpdate; refine wpList_mapUpdate_own _ rfl _ _ _ 126 rfl 3 128 keyed3 Try.underlying126 (unitElem (H := Unit)) W1.heap.size k _ rfl hown4 (by unfold maxLen; omega) _ _ _ rfl rfl hkey _ [] unitElem_mk ?_; intro w5 hown5 hgrow5)
    have s5 := hgrow5.size
    go_roundw
    case rel => exact ⟨k + 1, HLT.out, by have := HLT.out; go_num, by rw [HSU.out]; exact hown5, HS2.out, k4.grown hgrow5 (by omega) (fun j hj => by cases hj; exact Nat.le_refl _), nums_grown HN4.out hgrow5 HGN.out, by omega⟩
    case measure => have := HLT.out; simp [intOf]; omega
  ·have hke : k = n := by omega
   subst hke
   have HYES : Hid (seqsOk s = true) := by
    have := HST.out
    rw [HN.out, HZ.out] at this
    exact seqsOk_yes this
   clear hlt hk
   go_wp2_with fail
   go_end0
   exact ⟨by rw [HD.out, HYES.out]; rfl, hBw.trans (hB.mono s0)⟩
theorem askSums_any (s : StateD) (b1 b2 b3 : Option Addr) (m1 d1 m2 d2 m3 d3 : Nat) (w : World) (hs : StateAt w b1 b2 b3 m1 m2 m3 s) (hb : (seqsOf s).length ≤ 100000000) (hc : countsOk s = true) :
 Calls Try.prog 52 #[.agg #[.slice b1 m1 d1, .slice b2 m2 d2, .slice b3 m3 d3, .int .i64 s.nextSeq, .int .i64 s.nextTag, .int .i64 s.came, .int .i64 s.acked, .int .i64 s.dropped]] w fun e w' => e = askE (if sumsOk s = true then 0 else 10) ∧ Below w.heap.size w w' := by
 obtain ⟨D, hD⟩ : ∃ D : Int, D = if sumsOk s = true then 0 else 10 := ⟨_, rfl⟩
 rw [← hD]
 have HD := hidI hD
 obtain ⟨W1, hW1, hBw, hs1, hbx⟩ := s_boxed w #[.slice b1 m1 d1, .slice b2 m2 d2, .slice b3 m3 d3, .int .i64 s.nextSeq, .int .i64 s.nextTag, .int .i64 s.came, .int .i64 s.acked, .int .i64 s.dropped]
 have HW1 := hidI hW1
 have BX := hidI hbx
 have HS := hidI (hs.keep hBw)
 have HBD := hidI hb
 have s0 := hBw.size
 obtain ⟨y0, y1, y2, y3, y4, y5, y6, y7⟩ := st_cells (hbx W1 (Below.refl _ _))
 unfold countsOk countOk at hc
 simp only [Bool.and_eq_true, decide_eq_true_eq] at hc
 have HC := hidI hc
 clear hW1 hbx hs1 hs hb hD hc
 go_enter Try.func52, Try.ntmps52
 go_wp2_with fail
 rw [← HW1.out]
 refine (seqs_any s _ _ _ _ _ _ _ _ _ _ HS.out HBD.out).mono ?_
 rintro e w3 ⟨a, c, rfl, -, -, hB3⟩
 obtain ⟨n, hn⟩ : ∃ n, n = (seqsOf s).length := ⟨_, rfl⟩
 rw [← hn] at HBD ⊢
 have hw1 : IntKind.i64.wrap ((n : Int) + s.acked) = (n : Int) + s.acked := by have h1 := HBD.out; have h2 := HC.out; rw [IntKind.wrap_i64]; omega
 have hw2 : IntKind.i64.wrap ((n : Int) + s.acked + s.dropped) = (n : Int) + s.acked + s.dropped := by have h1 := HBD.out; have h2 := HC.out; rw [IntKind.wrap_i64]; omega
 have HSM : Hid (sumsOk s = (decide (s.came = (n : Int) + s.acked + s.dropped) && decide (s.came = s.nextSeq))) := by show sumsOk s = _; unfold sumsOk; rw [hn]
 have s3 := hB3.size
 clear y0 y1 y2 y3 y4 y5 y6 y7 hn
 obtain ⟨y0, y1, y2, y3, y4, y5, y6, y7⟩ := st_cells (BX.out w3 hB3)
 go_wp2_with fail
 by_cases hbad : s.came ≠ (n : Int) + s.acked + s.dropped ∨ s.came ≠ s.nextSeq
 ·refine (never_yes 10 [(s.came != (n : Int) + s.acked + s.dropped), (s.came != s.nextSeq)] _ _ (by simp) (bng_ w3 _ rfl) (by simp; omega)).mono ?_
  rintro e w4 ⟨rfl, hw4⟩
  refine ⟨rfl, ?_, by rw [hw4]; exact hBw.trans ((hB3.alloc s3 _).mono s0)⟩
  rw [HD.out, HSM.out, show (decide (s.came = (n : Int) + s.acked + s.dropped) && decide (s.came = s.nextSeq)) = false by simp; omega]; rfl
 ·refine (never_no 10 [(s.came != (n : Int) + s.acked + s.dropped), (s.came != s.nextSeq)] _ _ (by simp) (bng_ w3 _ rfl) (by simp; omega)).mono ?_
  rintro e w4 ⟨rfl, hw4⟩
  have k4 : Below W1.heap.size W1 w4 := by rw [hw4]; exact hB3.alloc s3 _
  clear hw4
  go_wp2_with fail
  go_end0
  refine ⟨?_, hBw.trans (k4.mono s0)⟩
  rw [HD.out, HSM.out, show (decide (s.came = (n : Int) + s.acked + s.dropped) && decide (s.came = s.nextSeq)) = true by simp; omega]; rfl
theorem QueuesAt.get {W : World} {a : Option Addr} {xs : List QueueD} (h : QueuesAt W a xs) {k : Nat} (hk : k < xs.length) : ∃ g o, a = some ⟨g, o, none⟩ ∧ g < W.heap.size ∧ W.cell? ⟨g, o + k * 3, none⟩ = some (.string xs[k].name) ∧ W.cell? ⟨g, o + k * 3 + 1, none⟩ = some (.int .i64 xs[k].limit) ∧ W.cell? ⟨g, o + k * 3 + 2, none⟩ = some (.int .i64 xs[k].dead) := by
 rcases h with h | ⟨g, o, ha, hg, h⟩
 ·rw [h] at hk; simp at hk
 ·exact ⟨g, o, ha, hg, h k hk⟩
def roomLk (p : PlanD) (s : StateD) (q : Nat) : Bool := decide (((s.ready.getD q []).length : Int) ≤ (p.queues.getD q ⟨⟨#[]⟩, 0, 0⟩).limit)
def roomTk (s : StateD) (k : Nat) : Bool := decide ((heldN s k : Int) ≤ (s.takers.getD k ⟨0, 0⟩).most)
theorem range_all_yes {f : Nat → Bool} {n : Nat} (h : ∀ i, i < n → f i = true) : (List.range n).all f = true := by
 rw [List.all_eq_true]; intro i hi; exact h i (List.mem_range.1 hi)
theorem range_all_no {f : Nat → Bool} {n k : Nat} (hk : k < n) (h : f k = false) : (List.range n).all f = false :=
 List.all_eq_false.2 ⟨k, List.mem_range.2 hk, by simp [h]⟩
theorem askRoom_any (p : PlanD) (a1 a2 a3 : Option Addr) (n1 c1 n2 c2 n3 c3 : Nat) (s : StateD) (b1 b2 b3 : Option Addr) (m1 d1 m2 d2 m3 d3 : Nat) (w : World) (hp : PlanAt w a1 a2 a3 n1 n2 n3 p) (hs : StateAt w b1 b2 b3 m1 m2 m3 s) (hm : m1 = n2) :
 Calls Try.prog 51 #[.agg #[.slice a1 n1 c1, .slice a2 n2 c2, .slice a3 n3 c3], .agg #[.slice b1 m1 d1, .slice b2 m2 d2, .slice b3 m3 d3, .int .i64 s.nextSeq, .int .i64 s.nextTag, .int .i64 s.came, .int .i64 s.acked, .int .i64 s.dropped]] w fun e w' => e = askE (if (roomL p s && roomT s) = true then 0 else 3) ∧ Below w.heap.size w w' := by
 obtain ⟨D, hD⟩ : ∃ D : Int, D = if (roomL p s && roomT s) = true then 0 else 3 := ⟨_, rfl⟩
 rw [← hD]
 have HD := hidI hD
 obtain ⟨W2, hW2, hBw, hs2, hbx⟩ := ps_boxed w #[.slice a1 n1 c1, .slice a2 n2 c2, .slice a3 n3 c3] #[.slice b1 m1 d1, .slice b2 m2 d2, .slice b3 m3 d3, .int .i64 s.nextSeq, .int .i64 s.nextTag, .int .i64 s.came, .int .i64 s.acked, .int .i64 s.dropped]
 have HW2 := hidI hW2
 have BX := hidI hbx
 have HS := hidI (hs.keep hBw)
 have HP := hidI (hp.keep hBw)
 have HM1 : Hid (s.ready.length = m1) := hs.l1
 have HM3 : Hid (s.takers.length = m3) := hs.l3
 have HN2 : Hid (p.queues.length = n2) := hp.l2
 have hx1 := hs.x1
 have hx3 := hs.x3
 have HMN := hidI hm
 have s0 := hBw.size
 have hs2' : w.heap.size + 1 < W2.heap.size := by omega
 unfold maxLen at hx1 hx3
 clear hW2 hbx hs hp hs2 hD hm
 obtain ⟨p0, q0⟩ := BX.out W2 (Below.refl _ _)
 obtain ⟨x0, x1, x2⟩ := pl_cells p0
 obtain ⟨y0, y1, y2, y3, y4, y5, y6, y7⟩ := st_cells q0
 clear p0 q0
 go_enter Try.func51, Try.ntmps51
 go_wp2_with fail
 rw [← HW2.out]
 go_loopw [4, 5, 11] (fun _ _ i wr => ∃ k : Nat, k ≤ m1 ∧ i = .int .i64 k ∧ (∀ q, q < k → roomLk p s q = true) ∧ Below W2.heap.size W2 wr) (fun _ _ i _ => m1 - (intOf i).toNat)
 case atStart => exact ⟨0, Nat.zero_le _, rfl, fun q hq => absurd hq (Nat.not_lt_zero _), Below.refl _ _⟩
 case round =>
  obtain ⟨k, hk, rfl, ha, hB⟩ := hrel
  have HA := hidI ha
  have hBs := hB.size
  clear ha x0 x1 x2 y0 y1 y2 y3 y4 y5 y6 y7
  obtain ⟨p0, q0⟩ := BX.out wr hB
  obtain ⟨x0, x1, x2⟩ := pl_cells p0
  obtain ⟨y0, y1, y2, y3, y4, y5, y6, y7⟩ := st_cells q0
  clear p0 q0
  by_cases hlt : k < m1
  ·have HLT := hidI hlt
   have hkl : k < s.ready.length := by rw [HM1.out]; exact hlt
   have hkq : k < p.queues.length := by rw [HN2.out, ← HMN.out]; exact hlt
   obtain ⟨g, o, b, c, ha, hg, hl⟩ := (HS.out.q1.keep hB).get hkl
   obtain ⟨g', o', ha', hg', e1, e2, e3⟩ := (HP.out.p2.keep hB).get hkq
   subst ha ha'
   have c1 := hl.cell
   have HRK : Hid (roomLk p s k = decide ((s.ready[k].length : Int) ≤ p.queues[k].limit)) := by
    show roomLk p s k = _
    unfold roomLk
    rw [List.getD_eq_getElem?_getD, List.getD_eq_getElem?_getD, List.getElem?_eq_getElem hkl, List.getElem?_eq_getElem hkq]; rfl
   obtain ⟨n, hn⟩ : ∃ n, n = s.ready[k].length := ⟨_, rfl⟩
   obtain ⟨lim, hlim⟩ : ∃ lim, lim = p.queues[k].limit := ⟨_, rfl⟩
   rw [← hn] at c1 HRK
   rw [← hlim] at e2 HRK
   have j1 : (0 : Int) ≤ (k : Int) := by omega
   have j2 : (k : Int) < m1 := by omega
   have j3 : (k : Int) < n2 := by have := HMN.out; omega
   clear hl hn hlim e1 e3 hkl hkq
   go_wp2_with fail
   by_cases hbad : lim < (n : Int)
   ·have HNO : Hid ((roomL p s && roomT s) = false) := by
     show (roomL p s && roomT s) = false
     rw [show roomL p s = false from range_all_no (f := roomLk p s) (by rw [HM1.out]; exact hlt) (by rw [HRK.out]; exact decide_eq_false (by omega))]; rfl
    refine (never_yes 3 [decide (lim < (n : Int))] _ _ (by simp) (bng_ wr _ rfl) (by simp; omega)).mono ?_
    rintro e w5 ⟨rfl, hw5⟩
    exact ⟨rfl, by rw [HD.out, HNO.out]; rfl, by rw [hw5]; exact hBw.trans ((hB.alloc hBs _).mono s0)⟩
   ·refine (never_no 3 [decide (lim < (n : Int))] _ _ (by simp) (bng_ wr _ rfl) (by simp; omega)).mono ?_
    rintro e w5 ⟨rfl, hw5⟩
    have k5 : Below W2.heap.size W2 w5 := by rw [hw5]; exact hB.alloc hBs _
    have HYK : Hid (roomLk p s k = true) := by show roomLk p s k = true; rw [HRK.out]; exact decide_eq_true (by omega)
    clear hw5
    go_wp2_with fail
    go_roundw
    case rel => exact ⟨k + 1, HLT.out, by have := HLT.out; go_num, fun q hq => by
     by_cases e : q = k
     ·rw [e]; exact HYK.out
     ·exact HA.out q (by omega), k5⟩
    case measure => have := HLT.out; simp [intOf]; omega
  ·have hke : k = m1 := by omega
   subst hke
   have HRL : Hid (roomL p s = true) := by
    show (List.range s.ready.length).all (roomLk p s) = true
    exact range_all_yes (fun i hi => HA.out i (by rw [HM1.out] at hi; exact hi))
   clear hlt hk HA
   go_wp2_with fail
   go_loopw [6, 7, 31] (fun _ _ i wr => ∃ k : Nat, k ≤ m3 ∧ i = .int .i64 k ∧ (∀ q, q < k → roomTk s q = true) ∧ Below W2.heap.size W2 wr) (fun _ _ i _ => m3 - (intOf i).toNat)
   case atStart => exact ⟨0, Nat.zero_le _, rfl, fun q hq => absurd hq (Nat.not_lt_zero _), hB⟩
   case round =>
    clear x0 x1 x2 y0 y1 y2 y3 y4 y5 y6 y7 hB hBs
    obtain ⟨j, hj, rfl, ha, hB⟩ := hrel
    have HA := hidI ha
    have hBs := hB.size
    clear ha
    by_cases hlt : j < m3
    ·have HLT := hidI hlt
     have hkl : j < s.takers.length := by rw [HM3.out]; exact hlt
     obtain ⟨g, o, ha, hg, e1, e2⟩ := (HS.out.q3.keep hB).get hkl
     subst ha
     have HRK : Hid (roomTk s j = decide ((heldN s j : Int) ≤ s.takers[j].most)) := by
      show roomTk s j = _
      unfold roomTk
      rw [List.getD_eq_getElem?_getD, List.getElem?_eq_getElem hkl]; rfl
     obtain ⟨t, ht⟩ : ∃ t, t = s.takers[j] := ⟨_, rfl⟩
     rw [← ht] at e1 e2 HRK
     obtain ⟨tq, tm⟩ := t
     dsimp only at e1 e2 HRK
     obtain ⟨p0, q0⟩ := BX.out wr hB
     obtain ⟨y0, y1, y2, y3, y4, y5, y6, y7⟩ := st_cells q0
     have j1 : (0 : Int) ≤ (j : Int) := by omega
     have j2 : (j : Int) < m3 := by omega
     have sk : w.heap.size + 1 < wr.heap.size := by omega
     obtain ⟨W3, hW3⟩ : ∃ W3, W3 = wr.alloc (.cells #[.int .i64 tq, .int .i64 tm] 56) := ⟨_, rfl⟩
     have HW3 := hidI hW3
     have k3 : Below W2.heap.size W2 W3 := by rw [hW3]; exact hB.alloc hBs _
     have b3' : W3.heap[wr.heap.size]? = some (.cells #[.int .i64 tq, .int .i64 tm] 56 (0, 0)) := by rw [hW3]; exact World.alloc_heap_new wr _
     have HB3 := hidI b3'
     have s3 := k3.size
     clear ht p0 q0 hW3 b3'
     go_wp2_with fail
     rw [← HW3.out]
     have SS : Hid (∀ W, Below W3.heap.size W3 W → W.cell? ⟨w.heap.size + 1, 0, none⟩ = some (.slice b1 k d1) ∧ W.cell? ⟨w.heap.size + 1, 1, none⟩ = some (.slice b2 m2 d2) ∧ W.cell? ⟨w.heap.size + 1, 2, none⟩ = some (.slice (some ⟨g, o, none⟩) m3 d3) ∧ W.cell? ⟨w.heap.size + 1, 3, none⟩ = some (.int .i64 s.nextSeq) ∧ W.cell? ⟨w.heap.size + 1, 4, none⟩ = some (.int .i64 s.nextTag) ∧ W.cell? ⟨w.heap.size + 1, 5, none⟩ = some (.int .i64 s.came) ∧ W.cell? ⟨w.heap.size + 1, 6, none⟩ = some (.int .i64 s.acked) ∧ W.cell? ⟨w.heap.size + 1, 7, none⟩ = some (.int .i64 s.dropped) ∧ W.cell? ⟨wr.heap.size, 1, none⟩ = some (.int .i64 tm)) := fun W hW => by
      have x := st_cells (BX.out W (k3.trans (hW.mono s3))).2
      exact ⟨x.1, x.2.1, x.2.2.1, x.2.2.2.1, x.2.2.2.2.1, x.2.2.2.2.2.1, x.2.2.2.2.2.2.1, x.2.2.2.2.2.2.2, coc_ (pkp_ HB3.out hW) 1⟩
     refine wp_region_held_drew (S := fun W => W.cell? ⟨w.heap.size + 1, 0, none⟩ = some (.slice b1 k d1) ∧ W.cell? ⟨w.heap.size + 1, 1, none⟩ = some (.slice b2 m2 d2) ∧ W.cell? ⟨w.heap.size + 1, 2, none⟩ = some (.slice (some ⟨g, o, none⟩) m3 d3) ∧ W.cell? ⟨w.heap.size + 1, 3, none⟩ = some (.int .i64 s.nextSeq) ∧ W.cell? ⟨w.heap.size + 1, 4, none⟩ = some (.int .i64 s.nextTag) ∧ W.cell? ⟨w.heap.size + 1, 5, none⟩ = some (.int .i64 s.came) ∧ W.cell? ⟨w.heap.size + 1, 6, none⟩ = some (.int .i64 s.acked) ∧ W.cell? ⟨w.heap.size + 1, 7, none⟩ = some (.int .i64 s.dropped) ∧ W.cell? ⟨wr.heap.size, 1, none⟩ = some (.int .i64 tm)) (by kernel_rfl) (SS.out _ (Below.refl _ _).drew) (fun hHeld => ?_)
     obtain ⟨W4, hW4⟩ : ∃ W4, W4 = W3.drew := ⟨_, rfl⟩
     have KK : Hid (∀ W, Below W4.heap.size W4 W → Below W3.heap.size W3 W) := fun W hW => by rw [hW4] at hW; exact ⟨hW.os, hW.tape, hW.output, hW.size, hW.block⟩
     rw [← hW4] at hHeld ⊢
     clear hW4 y0 y1 y2 y3 y4 y5 y6 y7 e1 e2
     refine tk 0 ?_
     refine tk 1 ?_
     refine tk 3 ?_
     refine tk 4 ?_
     refine rdy 2 (fun K hK => ?_)
     go_simp
     refine (held_any s _ _ _ _ _ _ _ _ _ (j : Int) _ (HS.out.keep (k3.trans ((KK.out _ (Below.refl _ _)).mono s3)))).mono ?_
     rintro e w5 ⟨rfl, hB5⟩
     obtain ⟨hn, hhn⟩ : ∃ hn, hn = heldN s j := ⟨_, rfl⟩
     rw [← hhn] at HRK ⊢
     refine hK.out _ _ (SS.out _ (KK.out _ hB5)) (fun hH5 => ?_)
     clear hK K hhn
     try refine nrm ?_
     refine tk 5 ?_
     refine rdy 6 (fun K hK => ?_)
     go_simp
     have HIS := hidI (bools_new w5 [decide (tm < (hn : Int))])
     obtain ⟨w6, hw6⟩ : ∃ w6, w6 = w5.alloc (.cells #[.bool (decide (tm < (hn : Int)))] 4) := ⟨_, rfl⟩
     have l6 : Below W3.heap.size W3 w6 := by rw [hw6]; exact (KK.out _ hB5).alloc (KK.out _ hB5).size _
     have HI6 : Hid (IsBools w6 w5.heap.size 0 [decide (tm < (hn : Int))]) := by show IsBools w6 _ _ _; rw [hw6]; exact HIS.out
     rw [← hw6]
     refine hK.out _ _ (SS.out _ l6) (fun hH6 => ?_)
     clear hK K hw6
     try refine nrm ?_
     have k6 : Below W2.heap.size W2 w6 := k3.trans (l6.mono s3)
     refine rdy 7 (fun K hK => ?_)
     go_simp
     by_cases hbad : tm < (hn : Int)
     ·have HNO : Hid ((roomL p s && roomT s) = false) := by
       show (roomL p s && roomT s) = false
       rw [show roomT s = false from range_all_no (f := roomTk s) (by rw [HM3.out]; exact hlt) (by rw [HRK.out]; exact decide_eq_false (by omega))]; simp
      refine (never_yes 3 [decide (tm < (hn : Int))] _ _ (by simp) HI6.out (by simp; omega)).mono ?_
      rintro e w7 ⟨rfl, hw7⟩
      have k7 : Below W2.heap.size W2 w7 := by rw [hw7]; exact k6
      exact ⟨rfl, by rw [HD.out, HNO.out]; rfl, hBw.trans (k7.mono s0)⟩
     ·have HYK : Hid (roomTk s j = true) := by show roomTk s j = true; rw [HRK.out]; exact decide_eq_true (by omega)
      refine (never_no 3 [decide (tm < (hn : Int))] _ _ (by simp) HI6.out (by simp; omega)).mono ?_
      rintro e w7 ⟨rfl, hw7⟩
      have k7 : Below W2.heap.size W2 w7 := by rw [hw7]; exact k6
      refine hK.out _ _ (SS.out _ (by rw [hw7]; exact l6)) (fun hH7 => ?_)
      clear hK K hw7
      refine wpAnyH_done (by kernel_rfl) ?_ _
      go_wp2_with fail
      go_roundw
      case rel => exact ⟨j + 1, HLT.out, by have := HLT.out; go_num, fun q hq => by
       by_cases e : q = j
       ·rw [e]; exact HYK.out
       ·exact HA.out q (by omega), k7⟩
      case measure => have := HLT.out; simp [intOf]; omega
    ·have hke : j = m3 := by omega
     subst hke
     have HRT : Hid (roomT s = true) := by
      show (List.range s.takers.length).all (roomTk s) = true
      exact range_all_yes (fun i hi => HA.out i (by rw [HM3.out] at hi; exact hi))
     clear hlt hj
     go_wp2_with fail
     go_end0
     exact ⟨by rw [HD.out, HRL.out, HRT.out]; rfl, hBw.trans (hB.mono s0)⟩
theorem itemOk_rng {x : ItemD} (h : itemOk x = true) : 0 ≤ x.seq ∧ x.seq < 1048576 := by
 unfold itemOk itemNums at h; simp at h; omega
theorem lineFrom_len : ∀ {xs : List ItemD} {l : Int}, lineFrom l xs = true → l < 1048576 → (xs.length : Int) + l + 1 ≤ 1048576 ∧ ∀ x ∈ xs, itemOk x = true
 | [], l, _, hl => ⟨by simp; omega, by simp⟩
 | x :: r, l, h, hl => by
   unfold lineFrom at h
   simp only [Bool.and_eq_true, decide_eq_true_eq] at h
   have hq := itemOk_rng h.1.1
   obtain ⟨i1, i2⟩ := lineFrom_len h.2 hq.2
   refine ⟨by simp; omega, fun y hy => ?_⟩
   rcases List.mem_cons.1 hy with rfl | hy
   ·exact h.1.1
   ·exact i2 y hy
theorem outsFrom_len {ts : List TakerD} {nt : Int} : ∀ {xs : List OutD} {l : Int}, outsFrom ts nt l xs = true → l < nt → (xs.length : Int) + l + 1 ≤ nt ∧ ∀ x ∈ xs, itemOk x.item = true
 | [], l, _, hl => ⟨by simp; omega, by simp⟩
 | x :: r, l, h, hl => by
   unfold outsFrom outOk at h
   simp only [Bool.and_eq_true, decide_eq_true_eq] at h
   obtain ⟨i1, i2⟩ := outsFrom_len h.2 h.1.1.1.1.2
   refine ⟨by simp; have := h.1.1.1.1.1; omega, fun y hy => ?_⟩
   rcases List.mem_cons.1 hy with rfl | hy
   ·exact h.1.2
   ·exact i2 y hy
theorem flat_len : ∀ {xss : List (List ItemD)}, (∀ l ∈ xss, lineOk l = true) → (xss.flatMap (fun l => l.map ItemD.seq)).length ≤ xss.length * 1048576 ∧ ∀ z ∈ xss.flatMap (fun l => l.map ItemD.seq), 0 ≤ z ∧ z < 1048576
 | [], _ => by simp
 | l :: r, h => by
   obtain ⟨i1, i2⟩ := flat_len (xss := r) (fun x hx => h x (List.mem_cons_of_mem _ hx))
   obtain ⟨j1, j2⟩ := lineFrom_len (l := -1) (h l List.mem_cons_self) (by omega)
   rw [List.flatMap_cons]
   refine ⟨by rw [List.length_append, List.length_map, List.length_cons]; omega, fun z hz => ?_⟩
   rcases List.mem_append.1 hz with hz | hz
   ·obtain ⟨x, hx, rfl⟩ := List.mem_map.1 hz; exact itemOk_rng (j2 x hx)
   ·exact i2 z hz
theorem seqs_bound {p : PlanD} {s : StateD} (hr : RightP p) (h1 : linesOk p.queues.length s.ready = true) (h2 : outsFrom s.takers s.nextTag (-1) s.outs = true) (h3 : countsOk s = true) : (seqsOf s).length ≤ 100000000 ∧ (∀ z ∈ seqsOf s, 0 ≤ z ∧ z < 1048576) ∧ (s.outs.length : Int) ≤ 1048576 := by
 unfold linesOk at h1
 simp only [Bool.and_eq_true, decide_eq_true_eq, List.all_eq_true] at h1
 obtain ⟨i1, i2⟩ := flat_len h1.2
 unfold countsOk countOk at h3
 simp only [Bool.and_eq_true, decide_eq_true_eq] at h3
 obtain ⟨j1, j2⟩ := outsFrom_len h2 (by omega)
 have h4 := hr.few.2.1
 refine ⟨?_, fun z hz => ?_, by omega⟩
 ·unfold seqsOf; rw [List.length_append, List.length_map]; rw [h1.1] at i1; omega
 ·unfold seqsOf at hz
  rcases List.mem_append.1 hz with hz | hz
  ·exact i2 z hz
  ·obtain ⟨x, hx, rfl⟩ := List.mem_map.1 hz; exact itemOk_rng (j2 x hx)
theorem stE_plan {p : PlanD} {s : StateD} (h : chkP p ≠ 0) : stE p s = chkP p := if_pos h
theorem check1_any (p : PlanD) (a1 a2 a3 : Option Addr) (n1 c1 n2 c2 n3 c3 : Nat) (s : StateD) (b1 b2 b3 : Option Addr) (m1 d1 m2 d2 m3 d3 : Nat) (B1 B2 : Nat) (w : World) (hp : PlanAt w a1 a2 a3 n1 n2 n3 p) (hs : StateAt w b1 b2 b3 m1 m2 m3 s) (h1 : w.heap[B1]? = some (.cells #[.slice a1 n1 c1, .slice a2 n2 c2, .slice a3 n3 c3] 26 (0, 0))) (h2 : w.heap[B2]? = some (.cells #[.slice b1 m1 d1, .slice b2 m2 d2, .slice b3 m3 d3, .int .i64 s.nextSeq, .int .i64 s.nextTag, .int .i64 s.came, .int .i64 s.acked, .int .i64 s.dropped] 31 (0, 0))) :
 Calls Try.prog 43 #[.pointer (some ⟨B1, 0, none⟩), .pointer (some ⟨B2, 0, none⟩)] w fun e w' => e = askE (stE p s) ∧ Below w.heap.size w w' := by
 obtain ⟨D, hD⟩ : ∃ D : Int, D = stE p s := ⟨_, rfl⟩
 rw [← hD]
 have HD := hidI hD
 have HP := hidI hp
 have HS := hidI hs
 have BX : Hid (∀ W, Below w.heap.size w W → W.heap[B1]? = some (.cells #[.slice a1 n1 c1, .slice a2 n2 c2, .slice a3 n3 c3] 26 (0, 0)) ∧ W.heap[B2]? = some (.cells #[.slice b1 m1 d1, .slice b2 m2 d2, .slice b3 m3 d3, .int .i64 s.nextSeq, .int .i64 s.nextTag, .int .i64 s.came, .int .i64 s.acked, .int .i64 s.dropped] 31 (0, 0))) := fun W hW => ⟨pkp_ h1 hW, pkp_ h2 hW⟩
 have HM3 : Hid (s.takers.length = m3) := hs.l3
 have HN2 : Hid (p.queues.length = n2) := hp.l2
 have HM1 : Hid (s.ready.length = m1) := hs.l1
 clear hD hp hs h1 h2
 obtain ⟨x0, x1, x2⟩ := pl_cells (BX.out w (Below.refl _ _)).1
 go_enter Try.func43, Try.ntmps43
 go_wp2_with fail
 refine (check_any p _ _ _ _ _ _ _ _ _ _ HP.out.l1 HP.out.l2 HP.out.l3 HP.out.sz HP.out.p1 HP.out.p2 HP.out.p3).mono ?_
 rintro e w1 ⟨rfl, k1⟩
 have s1 := k1.size
 obtain ⟨d0, hd0⟩ : ∃ d0, d0 = chkP p := ⟨_, rfl⟩
 rw [← hd0]
 have HD0 := hidI hd0
 have k1' := k1.alloc s1 (.cells #[.int .i64 d0] 32)
 have s1' := k1'.size
 clear hd0 x0 x1 x2
 by_cases hz0 : d0 = 0
 ·subst hz0
  have HR : Hid (RightP p) := chk_right HD0.out.symm
  go_wp2_with (go_at_call 44; refine (ok_no _ _ (one_new _ _ _) (by simp)).mono ?_; rintro e w2 ⟨rfl, hB2⟩; have k2 := k1'.trans (hB2.mono s1'); obtain ⟨y0, y1, y2, y3, y4, y5, y6, y7⟩ := st_cells (BX.out w2 k2).2)
  have s2 := k2.size
  clear hB2
  by_cases hm : 4 < m3
  ·refine (never_yes 2 [decide ((4 : Int) < (m3 : Int))] _ _ (by simp) (bng_ w2 _ rfl) (by simp; omega)).mono ?_
   rintro e w3 ⟨rfl, hw3⟩
   refine ⟨rfl, ?_, by rw [hw3]; exact k2.alloc s2 _⟩
   rw [HD.out]; unfold stE
   rw [if_neg (by rw [← HD0.out]; simp), if_pos (by rw [HM3.out]; exact hm)]; rfl
  ·refine (never_no 2 [decide ((4 : Int) < (m3 : Int))] _ _ (by simp) (bng_ w2 _ rfl) (by simp; omega)).mono ?_
   rintro e w3 ⟨rfl, hw3⟩
   have HST : Hid (stE p s = if formedB p s = false then 1 else if (roomL p s && roomT s) = false then 3 else if sumsOk s = false then 10 else 0) := by
    show stE p s = _
    unfold stE
    rw [if_neg (by rw [← HD0.out]; simp), if_neg (by rw [HM3.out]; exact hm)]
   have HFO : Hid (formedB p s = (linesOk n2 s.ready && s.takers.all (takerOk n2) && outsFrom s.takers s.nextTag (-1) s.outs && countsOk s && seqsOk s)) := by show formedB p s = _; unfold formedB; rw [HN2.out]
   have HF1 : Hid (formedB p s = false → askE D = .panicked [{ v := .iface 32 (.int .i64 1), recovered := false }]) := fun h => by
    show askE D = _
    rw [HD.out, HST.out, if_pos h]; rfl
   have k3 : Below w.heap.size w w3 := by rw [hw3]; exact k2.alloc s2 _
   have s3 := k3.size
   clear hw3 hm y0 y1 y2 y3 y4 y5 y6 y7
   obtain ⟨x0, x1, x2⟩ := pl_cells (BX.out w3 k3).1
   obtain ⟨y0, y1, y2, y3, y4, y5, y6, y7⟩ := st_cells (BX.out w3 k3).2
   go_wp2_with fail
   refine (askLines_any p _ _ _ _ _ _ _ _ _ s _ _ _ _ _ _ _ _ _ _ (HP.out.keep k3) (HS.out.keep k3)).mono ?_
   rintro e w4 ⟨he4, hB4⟩
   have k4 := k3.trans (hB4.mono s3)
   have s4 := k4.size
   clear hB4 x0 x1 x2 y0 y1 y2 y3 y4 y5 y6 y7
   by_cases g1 : linesOk n2 s.ready = true
   ·rw [if_pos g1, askE_ok] at he4
    subst he4
    unfold okE
    have G1 := hidI g1
    clear g1
    obtain ⟨x0, x1, x2⟩ := pl_cells (BX.out w4 k4).1
    obtain ⟨y0, y1, y2, y3, y4, y5, y6, y7⟩ := st_cells (BX.out w4 k4).2
    go_wp2_with fail
    refine (askTakers_any p _ _ _ _ _ _ _ _ _ s _ _ _ _ _ _ _ _ _ _ (HS.out.keep k4)).mono ?_
    rintro e w5 ⟨he5, hB5⟩
    have k5 := k4.trans (hB5.mono s4)
    have s5 := k5.size
    clear hB5 x0 x1 x2 y0 y1 y2 y3 y4 y5 y6 y7
    by_cases g2 : s.takers.all (takerOk n2) = true
    ·rw [if_pos g2, askE_ok] at he5
     subst he5
     unfold okE
     have G2 := hidI g2
     clear g2
     obtain ⟨y0, y1, y2, y3, y4, y5, y6, y7⟩ := st_cells (BX.out w5 k5).2
     go_wp2_with fail
     refine (askOuts_any s _ _ _ _ _ _ _ _ _ _ (HS.out.keep k5)).mono ?_
     rintro e w6 ⟨he6, hB6⟩
     have k6 := k5.trans (hB6.mono s5)
     have s6 := k6.size
     clear hB6 y0 y1 y2 y3 y4 y5 y6 y7
     by_cases g3 : outsFrom s.takers s.nextTag (-1) s.outs = true
     ·rw [if_pos g3, askE_ok] at he6
      subst he6
      unfold okE
      have G3 := hidI g3
      clear g3
      obtain ⟨y0, y1, y2, y3, y4, y5, y6, y7⟩ := st_cells (BX.out w6 k6).2
      go_wp2_with fail
      refine (askCounts_any s _ _ _ _ _ _ _ _ _ _).mono ?_
      rintro e w7 ⟨he7, hB7⟩
      have k7 := k6.trans (hB7.mono s6)
      have s7 := k7.size
      clear hB7 y0 y1 y2 y3 y4 y5 y6 y7
      by_cases g4 : countsOk s = true
      ·rw [if_pos g4, askE_ok] at he7
       subst he7
       unfold okE
       have G4 := hidI g4
       have HBD := hidI (seqs_bound HR.out (by rw [HN2.out]; exact G1.out) G3.out g4)
       clear g4
       obtain ⟨y0, y1, y2, y3, y4, y5, y6, y7⟩ := st_cells (BX.out w7 k7).2
       go_wp2_with fail
       refine (askSeqs_any s _ _ _ _ _ _ _ _ _ _ (HS.out.keep k7) HBD.out.1 HBD.out.2.1).mono ?_
       rintro e w8 ⟨he8, hB8⟩
       have k8 := k7.trans (hB8.mono s7)
       have s8 := k8.size
       clear hB8 y0 y1 y2 y3 y4 y5 y6 y7
       by_cases g5 : seqsOk s = true
       ·rw [if_pos g5, askE_ok] at he8
        subst he8
        unfold okE
        have HF2 : Hid (formedB p s = true) := by show formedB p s = true; rw [HFO.out, G1.out, G2.out, G3.out, G4.out, g5]; rfl
        clear g5
        obtain ⟨x0, x1, x2⟩ := pl_cells (BX.out w8 k8).1
        obtain ⟨y0, y1, y2, y3, y4, y5, y6, y7⟩ := st_cells (BX.out w8 k8).2
        have HMN : Hid (m1 = n2) := by
         have := G1.out; unfold linesOk at this; simp only [Bool.and_eq_true, decide_eq_true_eq] at this
         exact HM1.out.symm.trans this.1
        go_wp2_with fail
        refine (askRoom_any p _ _ _ _ _ _ _ _ _ s _ _ _ _ _ _ _ _ _ _ (HP.out.keep k8) (HS.out.keep k8) HMN.out).mono ?_
        rintro e w9 ⟨he9, hB9⟩
        have k9 := k8.trans (hB9.mono s8)
        have s9 := k9.size
        clear hB9 x0 x1 x2 y0 y1 y2 y3 y4 y5 y6 y7
        by_cases g6 : (roomL p s && roomT s) = true
        ·rw [if_pos g6, askE_ok] at he9
         subst he9
         unfold okE
         have G6 := hidI g6
         clear g6
         obtain ⟨y0, y1, y2, y3, y4, y5, y6, y7⟩ := st_cells (BX.out w9 k9).2
         go_wp2_with fail
         refine (askSums_any s _ _ _ _ _ _ _ _ _ _ (HS.out.keep k9) HBD.out.1 G4.out).mono ?_
         rintro e w10 ⟨he10, hB10⟩
         have k10 := k9.trans (hB10.mono s9)
         clear hB10 y0 y1 y2 y3 y4 y5 y6 y7
         by_cases g7 : sumsOk s = true
         ·rw [if_pos g7, askE_ok] at he10
          subst he10
          unfold okE
          have HDZ : Hid (D = 0) := by show D = 0; rw [HD.out, HST.out, HF2.out, G6.out, g7]; rfl
          clear g7
          go_wp2_with fail
          go_end0
          exact ⟨by rw [HDZ.out]; rfl, k10⟩
         ·rw [if_neg g7] at he10
          subst he10
          refine ⟨rfl, ?_, k10⟩
          rw [HD.out, HST.out, HF2.out, G6.out, if_neg (by decide), if_neg (by decide), if_pos (by simpa using g7)]; rfl
        ·rw [if_neg g6] at he9
         subst he9
         refine ⟨rfl, ?_, k9⟩
         rw [HD.out, HST.out, HF2.out, if_neg (by decide), if_pos (by simpa using g6)]; rfl
       ·rw [if_neg g5] at he8
        subst he8
        exact ⟨rfl, (HF1.out (by rw [HFO.out, show seqsOk s = false by simpa using g5]; simp)).symm, k8⟩
      ·rw [if_neg g4] at he7
       subst he7
       exact ⟨rfl, (HF1.out (by rw [HFO.out, show countsOk s = false by simpa using g4]; simp)).symm, k7⟩
     ·rw [if_neg g3] at he6
      subst he6
      exact ⟨rfl, (HF1.out (by rw [HFO.out, show outsFrom s.takers s.nextTag (-1) s.outs = false by simpa using g3]; simp)).symm, k6⟩
    ·rw [if_neg g2] at he5
     subst he5
     exact ⟨rfl, (HF1.out (by rw [HFO.out, show s.takers.all (takerOk n2) = false by simpa using g2]; simp)).symm, k5⟩
   ·rw [if_neg g1] at he4
    subst he4
    exact ⟨rfl, (HF1.out (by rw [HFO.out, show linesOk n2 s.ready = false by simpa using g1]; simp)).symm, k4⟩
 ·have HZ0 := hidI hz0
  go_wp2_with (go_at_call 44; refine (ok_yes d0 _ _ (one_new _ _ _) (by simp) HZ0.out).mono ?_; rintro e w2 ⟨rfl, hB2⟩)
  refine ⟨rfl, ?_, k1'.trans (hB2.mono s1')⟩
  rw [HD.out, stE_plan (by rw [← HD0.out]; exact HZ0.out), ← HD0.out, askE_pan HZ0.out]; rfl
theorem scheck_any (p : PlanD) (a1 a2 a3 : Option Addr) (n1 c1 n2 c2 n3 c3 : Nat) (s : StateD) (b1 b2 b3 : Option Addr) (m1 d1 m2 d2 m3 d3 : Nat) (w : World) (hp : PlanAt w a1 a2 a3 n1 n2 n3 p) (hs : StateAt w b1 b2 b3 m1 m2 m3 s) :
 Calls Try.prog 15 #[.agg #[.slice a1 n1 c1, .slice a2 n2 c2, .slice a3 n3 c3], .agg #[.slice b1 m1 d1, .slice b2 m2 d2, .slice b3 m3 d3, .int .i64 s.nextSeq, .int .i64 s.nextTag, .int .i64 s.came, .int .i64 s.acked, .int .i64 s.dropped]] w fun e w' => e = .returned (.int .i64 (stE p s)) ∧ Below w.heap.size w w' := by
 obtain ⟨D, hD⟩ : ∃ D : Int, D = stE p s := ⟨_, rfl⟩
 rw [← hD]
 have HD := hidI hD
 obtain ⟨W2, hW2, hBw, hs2, hbx⟩ := ps_boxed w #[.slice a1 n1 c1, .slice a2 n2 c2, .slice a3 n3 c3] #[.slice b1 m1 d1, .slice b2 m2 d2, .slice b3 m3 d3, .int .i64 s.nextSeq, .int .i64 s.nextTag, .int .i64 s.came, .int .i64 s.acked, .int .i64 s.dropped]
 have HW2 := hidI hW2
 have s0 := hBw.size
 have hmf : ∀ (fn : Fn) (first cap : Array Value) (w : World), (Instr.makeFunc fn first cap).run Try.prog w = .ok (.func fn first cap) w := fun _ _ _ _ => rfl
 have l3 : Below W2.heap.size W2 (W2.alloc (.cells #[.int .i64 0] 32)) := (Below.refl _ _).alloc (Nat.le_refl _) _
 have HDO := hidI (check1_any p a1 a2 a3 n1 c1 n2 c2 n3 c3 s b1 b2 b3 m1 d1 m2 d2 m3 d3 w.heap.size (w.heap.size + 1) (W2.alloc (.cells #[.int .i64 0] 32)) ((hp.keep hBw).keep l3) ((hs.keep hBw).keep l3) (hbx _ l3).1 (hbx _ l3).2)
 rw [← hD, World.size_alloc] at HDO
 clear hW2 hbx hs2 hp hs hD
 go_enter Try.func15, Try.ntmps15
 go_wp2_with fail
 rw [← HW2.out]
 refine (tried_check w.heap.size (w.heap.size + 1) D W2 HDO.out).mono ?_
 rintro e w3 ⟨rfl, hB3⟩
 go_wp2_with fail
 go_ret
 exact ⟨rfl, hBw.trans (hB3.mono s0)⟩
theorem ret_ii {a b c d : Int} (h1 : a = b) (h2 : c = d) : Ending.returned (.tuple #[.int .i64 a, .int .i64 c]) = .returned (.tuple #[.int .i64 b, .int .i64 d]) := by rw [h1, h2]
def hdE (p : PlanD) (s : StateD) (t : Int) : Int := if stE p s = 0 then (if isNum t s.takers.length = true then 0 else 5) else stE p s
def hdN (p : PlanD) (s : StateD) (t : Int) : Int := if hdE p s t = 0 then (heldN s t : Int) else 0
theorem sheld_any (p : PlanD) (a1 a2 a3 : Option Addr) (n1 c1 n2 c2 n3 c3 : Nat) (s : StateD) (b1 b2 b3 : Option Addr) (m1 d1 m2 d2 m3 d3 : Nat) (t : Int) (w : World) (hp : PlanAt w a1 a2 a3 n1 n2 n3 p) (hs : StateAt w b1 b2 b3 m1 m2 m3 s) :
 Calls Try.prog 18 #[.agg #[.slice a1 n1 c1, .slice a2 n2 c2, .slice a3 n3 c3], .agg #[.slice b1 m1 d1, .slice b2 m2 d2, .slice b3 m3 d3, .int .i64 s.nextSeq, .int .i64 s.nextTag, .int .i64 s.came, .int .i64 s.acked, .int .i64 s.dropped], .int .i64 t] w fun e w' => e = .returned (.tuple #[.int .i64 (hdN p s t), .int .i64 (hdE p s t)]) ∧ Below w.heap.size w w' := by
 obtain ⟨D, hD⟩ : ∃ D : Int, D = hdE p s t := ⟨_, rfl⟩
 obtain ⟨N, hN⟩ : ∃ N : Int, N = hdN p s t := ⟨_, rfl⟩
 rw [← hD, ← hN]
 have HD := hidI hD
 have HN := hidI hN
 have HM3 : Hid (s.takers.length = m3) := hs.l3
 obtain ⟨W2, hW2, hBw, hs2, hbx⟩ := ps_boxed w #[.slice a1 n1 c1, .slice a2 n2 c2, .slice a3 n3 c3] #[.slice b1 m1 d1, .slice b2 m2 d2, .slice b3 m3 d3, .int .i64 s.nextSeq, .int .i64 s.nextTag, .int .i64 s.came, .int .i64 s.acked, .int .i64 s.dropped]
 have HW2 := hidI hW2
 have BX := hidI hbx
 have HS := hidI (hs.keep hBw)
 have HP := hidI (hp.keep hBw)
 have s0 := hBw.size
 obtain ⟨x0, x1, x2⟩ := pl_cells (hbx W2 (Below.refl _ _)).1
 obtain ⟨y0, y1, y2, y3, y4, y5, y6, y7⟩ := st_cells (hbx W2 (Below.refl _ _)).2
 clear hW2 hbx hs2 hp hs hD hN
 go_enter Try.func18, Try.ntmps18
 go_wp2_with fail
 rw [← HW2.out]
 refine (scheck_any p _ _ _ _ _ _ _ _ _ s _ _ _ _ _ _ _ _ _ _ HP.out HS.out).mono ?_
 rintro e w3 ⟨rfl, hB3⟩
 obtain ⟨E, hE⟩ : ∃ E : Int, E = stE p s := ⟨_, rfl⟩
 rw [← hE]
 have HE := hidI hE
 have s3 := hB3.size
 clear hE x0 x1 x2 y0 y1 y2 y3 y4 y5 y6 y7
 obtain ⟨y0, y1, y2, y3, y4, y5, y6, y7⟩ := st_cells (BX.out w3 hB3).2
 by_cases h0 : E = 0
 ·subst h0
  have HDE : Hid (D = if isNum t m3 = true then 0 else 5) := by show D = _; rw [HD.out]; unfold hdE; rw [if_pos HE.out.symm, HM3.out]
  by_cases ht : 0 ≤ t ∧ t < m3
  ·have HD0 : Hid (D = 0) := by show D = 0; rw [HDE.out, if_pos (isNum_iff.2 ht)]
   have HN0 : Hid (N = heldN s t) := by show N = _; rw [HN.out]; unfold hdN; rw [if_pos (by rw [← HD.out]; exact HD0.out)]
   have t1 : ¬ t < 0 := by omega
   have t2 : ¬ (m3 : Int) ≤ t := by omega
   clear ht
   go_wp2_with fail
   refine (held_any s _ _ _ _ _ _ _ _ _ t _ (HS.out.keep hB3)).mono ?_
   rintro e w4 ⟨rfl, hB4⟩
   rw [← HN0.out]
   go_wp2_with fail
   go_ret2
   exact ⟨ret_ii rfl HD0.out.symm, hBw.trans ((hB3.trans (hB4.mono s3)).mono s0)⟩
  ·have HD0 : Hid (D = 5) := by show D = 5; rw [HDE.out, if_neg (fun h => ht (isNum_iff.1 h))]
   have HN0 : Hid (N = 0) := by show N = _; rw [HN.out]; unfold hdN; rw [if_neg (by rw [← HD.out, HD0.out]; decide)]
   have hor : t < 0 ∨ (¬ t < 0 ∧ (m3 : Int) ≤ t) := by omega
   clear ht
   rcases hor with g1 | ⟨g1, g2⟩
   all_goals
    go_wp2_with fail
    go_ret2
    exact ⟨ret_ii HN0.out.symm HD0.out.symm, hBw.trans (hB3.mono s0)⟩
 ·have h0' : (E != 0) = true := bne_iff_ne.2 h0
  have HD0 : Hid (D = E) := by show D = E; rw [HD.out]; unfold hdE; rw [if_neg (by rw [← HE.out]; exact h0), ← HE.out]
  have HN0 : Hid (N = 0) := by show N = _; rw [HN.out]; unfold hdN; rw [if_neg (by rw [← HD.out, HD0.out]; exact h0)]
  clear h0
  go_wp2_with fail
  go_ret2
  exact ⟨ret_ii HN0.out.symm HD0.out.symm, hBw.trans (hB3.mono s0)⟩
structure TurnB (B : Nat) (W W' : World) : Prop where
 os : W'.os = W.os
 tape : W'.tape = W.tape
 output : W'.output = W.output
 size : W.heap.size ≤ W'.heap.size
 block : ∀ k, k < W.heap.size → k ≠ B → W'.heap[k]? = W.heap[k]?
theorem TurnB.below {B n : Nat} {W W' : World} (h : TurnB B W W') (hn : n ≤ W.heap.size) (hB : n ≤ B) : Below n W W' := ⟨h.os, h.tape, h.output, h.size, fun k hk => h.block k (by omega) (by omega)⟩
theorem sct_ (W : World) (B i : Nat) (v : Value) : TurnB B W (W.setCell ⟨B, i, none⟩ v) := by
 have h : Below 0 W (W.setCell ⟨B, i, none⟩ v) := (Below.refl 0 W).setCell (p := ⟨B, i, none⟩) (Nat.zero_le _) v
 exact ⟨h.os, h.tape, h.output, h.size, fun k hk hne => heap_setCell_other W ⟨B, i, none⟩ k v hne⟩
theorem TurnB.trans {B : Nat} {A C E : World} (h : TurnB B A C) (k : TurnB B C E) : TurnB B A E :=
 ⟨k.os.trans h.os, k.tape.trans h.tape, k.output.trans h.output, Nat.le_trans h.size k.size, fun i hi hne => (k.block i (Nat.lt_of_lt_of_le hi h.size) hne).trans (h.block i hi hne)⟩
theorem store8 {W W' : World} {B : Nat} {v0 v1 v2 v3 v4 v5 v6 v7 u0 u1 u2 u3 u4 u5 u6 u7 : Value} {t : TypeId} (h : W.heap[B]? = some (.cells #[v0, v1, v2, v3, v4, v5, v6, v7] t (0, 0)))
 (hW : ((((((((W.setCell ⟨B, 0, none⟩ u0).setCell ⟨B, 1, none⟩ u1).setCell ⟨B, 2, none⟩ u2).setCell ⟨B, 3, none⟩ u3).setCell ⟨B, 4, none⟩ u4).setCell ⟨B, 5, none⟩ u5).setCell ⟨B, 6, none⟩ u6).setCell ⟨B, 7, none⟩ u7) = W') :
 W'.heap[B]? = some (.cells #[u0, u1, u2, u3, u4, u5, u6, u7] t (0, 0)) ∧ TurnB B W W' := by
 subst hW
 have h0 : (W.setCell ⟨B, 0, none⟩ u0).heap[B]? = some (.cells #[u0, v1, v2, v3, v4, v5, v6, v7] t (0, 0)) := scb_ h u0
 have h1 : ((W.setCell ⟨B, 0, none⟩ u0).setCell ⟨B, 1, none⟩ u1).heap[B]? = some (.cells #[u0, u1, v2, v3, v4, v5, v6, v7] t (0, 0)) := scb_ h0 u1
 have h2 : (((W.setCell ⟨B, 0, none⟩ u0).setCell ⟨B, 1, none⟩ u1).setCell ⟨B, 2, none⟩ u2).heap[B]? = some (.cells #[u0, u1, u2, v3, v4, v5, v6, v7] t (0, 0)) := scb_ h1 u2
 have h3 : ((((W.setCell ⟨B, 0, none⟩ u0).setCell ⟨B, 1, none⟩ u1).setCell ⟨B, 2, none⟩ u2).setCell ⟨B, 3, none⟩ u3).heap[B]? = some (.cells #[u0, u1, u2, u3, v4, v5, v6, v7] t (0, 0)) := scb_ h2 u3
 have h4 : (((((W.setCell ⟨B, 0, none⟩ u0).setCell ⟨B, 1, none⟩ u1).setCell ⟨B, 2, none⟩ u2).setCell ⟨B, 3, none⟩ u3).setCell ⟨B, 4, none⟩ u4).heap[B]? = some (.cells #[u0, u1, u2, u3, u4, v5, v6, v7] t (0, 0)) := scb_ h3 u4
 have h5 : ((((((W.setCell ⟨B, 0, none⟩ u0).setCell ⟨B, 1, none⟩ u1).setCell ⟨B, 2, none⟩ u2).setCell ⟨B, 3, none⟩ u3).setCell ⟨B, 4, none⟩ u4).setCell ⟨B, 5, none⟩ u5).heap[B]? = some (.cells #[u0, u1, u2, u3, u4, u5, v6, v7] t (0, 0)) := scb_ h4 u5
 have h6 : (((((((W.setCell ⟨B, 0, none⟩ u0).setCell ⟨B, 1, none⟩ u1).setCell ⟨B, 2, none⟩ u2).setCell ⟨B, 3, none⟩ u3).setCell ⟨B, 4, none⟩ u4).setCell ⟨B, 5, none⟩ u5).setCell ⟨B, 6, none⟩ u6).heap[B]? = some (.cells #[u0, u1, u2, u3, u4, u5, u6, v7] t (0, 0)) := scb_ h5 u6
 have h7 : ((((((((W.setCell ⟨B, 0, none⟩ u0).setCell ⟨B, 1, none⟩ u1).setCell ⟨B, 2, none⟩ u2).setCell ⟨B, 3, none⟩ u3).setCell ⟨B, 4, none⟩ u4).setCell ⟨B, 5, none⟩ u5).setCell ⟨B, 6, none⟩ u6).setCell ⟨B, 7, none⟩ u7).heap[B]? = some (.cells #[u0, u1, u2, u3, u4, u5, u6, u7] t (0, 0)) := scb_ h6 u7
 refine ⟨h7, ?_⟩
 exact (((((((sct_ _ _ _ _).trans (sct_ _ _ _ _)).trans (sct_ _ _ _ _)).trans (sct_ _ _ _ _)).trans (sct_ _ _ _ _)).trans (sct_ _ _ _ _)).trans (sct_ _ _ _ _)).trans (sct_ _ _ _ _)
def beginS (n : Nat) : StateD := ⟨List.replicate n [], [], [], 0, 0, 0, 0, 0⟩
theorem Try.infoLine : (Try.prog.info? 49).map (fun i => (i.zero, i.size, i.bytes)) = some (some (.slice none 0 0), 1, 24) := by kernel_rfl
theorem made_lines (n : Nat) : (madeCells (Value.slice none 0 0).cells (n * 1)).toList = List.replicate n (.slice none 0 0) := by
 apply List.ext_getElem
 ·simp [madeCells]
 ·intro i h1 h2
  simp [madeCells, Value.cells, Nat.mod_one]
end Go.Proofs.Ytpoichgodamnkaa
namespace Go.Proofs.Ytpoichgodamnkaa
open Go.RowKit
set_option linter.unusedVariables false
set_option maxRecDepth 100000
set_option maxHeartbeats 1000000
def Goes (f : FuncId) : Prop := ∀ (args : Array Value) (w : World), Sem.run Try.prog (callFunc f args) w = .ok (.enter f args) w
theorem tried_any (f : FuncId) (hf : Goes f) (cap : Array Value) (R : Int → World → Prop) (w : World)
 (hdo : Calls Try.prog f cap (w.alloc (.cells #[.int .i64 0] 32)) fun e w' => ∃ D, e = askE D ∧ R D w' ∧ w'.heap[w.heap.size]? = some (.cells #[.int .i64 0] 32 (0, 0))) :
 Calls Try.prog 42 #[.func (.func f) #[] cap] w fun e w' => ∃ D w1, e = .returned (.int .i64 D) ∧ R D w1 ∧ w1.heap[w.heap.size]? = some (.cells #[.int .i64 0] 32 (0, 0)) ∧ w' = w1.setCell ⟨w.heap.size, 0, none⟩ (.int .i64 D) := by
 have hmf : ∀ (fn : Fn) (first cap : Array Value) (w : World), (Instr.makeFunc fn first cap).run Try.prog w = .ok (.func fn first cap) w := fun _ _ _ _ => rfl
 have HDO := hidI hdo
 have hf' : ∀ (args : Array Value) (w : World), Sem.run Try.prog (callFunc f args) w = .ok (.enter f args) w := hf
 clear hdo hf
 go_enter_defers Try.func42, Try.ntmps42
 go_wp2_with fail
 refine HDO.out.mono ?_
 rintro e w2 ⟨D, rfl, hR, hb⟩
 have HR := hidI hR
 have HB := hidI hb
 have c0 := coc_ hb 0
 have f0 := foc_ hb 0
 simp at c0
 clear hR hb
 by_cases hD : D = 0
 ·subst hD
  rw [askE_ok]
  unfold okE
  go_wp2_with fail
  refine leaves_cons (f := 90) (args := #[.pointer (some ⟨w.heap.size, 0, none⟩)]) (by simp) (by simp [go_sem]) ?_
  refine (tried1_idle w.heap.size _).mono ?_
  rintro e u' w'' ⟨rfl, rfl, rfl⟩
  have c1 := coc_ (scb_ HB.out (j := 0) (.int .i64 0)) 0
  simp at c1
  simp [Leaves, settle, results, Try.results42, go_sem, c1]
  exact ⟨w2, HR.out, HB.out, rfl⟩
 ·rw [askE_pan hD]
  unfold panE
  go_wp2_with fail
  refine leaves_cons (f := 90) (args := #[.pointer (some ⟨w.heap.size, 0, none⟩)]) (by simp) (by simp [go_sem]) ?_
  refine (tried1_pan w.heap.size D 0 [] _ c0 f0).mono ?_
  rintro e u' w'' ⟨rfl, rfl, rfl⟩
  have c1 := coc_ (scb_ HB.out (j := 0) (.int .i64 D)) 0
  simp at c1
  simp [Leaves, settle, results, Try.results42, go_sem, c1]
  exact ⟨w2, HR.out, HB.out, rfl⟩
end Go.Proofs.Ytpoichgodamnkaa
