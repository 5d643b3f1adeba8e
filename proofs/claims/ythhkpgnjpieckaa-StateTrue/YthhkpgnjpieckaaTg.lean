/- state.seqs, state.held. -/
import Derived.Test.YthhkpgnjpieckaaTf
namespace Go.Proofs.Ythhkpgnjpieckaa
set_option linter.unusedVariables false
set_option maxRecDepth 100000
open Go.RowKit Go.Maps

theorem Try.infoNum : (Try.prog.info? 3).map (fun i => (i.zero, i.size, i.bytes)) = some (some (.int .i64 0), 1, 8) := by kernel_rfl
def NumsAt (W : World) (a : Option Addr) (zs : List Int) : Prop := zs = [] ∨ ∃ g, a = some ⟨g, 0, none⟩ ∧ g < W.heap.size ∧ ∀ i (h : i < zs.length), W.cell? ⟨g, i, none⟩ = some (.int .i64 zs[i])
theorem NumsAt.keep {W W' : World} {a : Option Addr} {zs : List Int} (h : NumsAt W a zs) (hB : Below W.heap.size W W') : NumsAt W' a zs := by
  rcases h with h | ⟨g, ha, hg, h⟩
  · exact .inl h
  · exact .inr ⟨g, ha, Nat.lt_of_lt_of_le hg hB.size, fun i hi => (hB.cell (p := ⟨g, i, none⟩) hg).trans (h i hi)⟩
theorem nums_own {W : World} {base : Nat} {u : Value} {zs : List Int} {n : Nat} (h : W.ownsRow base 3 1 u n (zs.map (Value.int .i64))) : ∃ a c, u = .slice a zs.length c ∧ NumsAt W a zs := by
  have hn : n = zs.length := by have := h.1; simp at this; omega
  subst hn
  rcases h.2 with ⟨rfl, h0⟩ | ⟨g, cap, cur, rfl, hb, hg, h1, h2, _⟩
  · have e := List.length_eq_zero_iff.1 h0
    exact ⟨none, 0, by rw [h0], .inl e⟩
  · refine ⟨_, cap, rfl, .inr ⟨g, rfl, lt_of_heap hg, fun i hi => ?_⟩⟩
    have := h.cellAt i (by omega)
    rw [this, List.getElem?_map, List.getElem?_eq_getElem hi]; rfl
theorem nums_grown {W W' : World} {a : Option Addr} {zs : List Int} {row : Option Nat} (h : NumsAt W a zs) (hg : W.grownBy W' row) (hr : ∀ g, a = some ⟨g, 0, none⟩ → ¬ some g = row) : NumsAt W' a zs := by
  rcases h with h | ⟨g, ha, hlt, h⟩
  · exact .inl h
  · have hb := hg.block g hlt (hr g ha)
    refine .inr ⟨g, ha, Nat.lt_of_lt_of_le hlt hg.size, fun i hi => ?_⟩
    rw [← h i hi]; unfold World.cell?; simp only [hb]
theorem cell_one (w : World) (v : Value) (t : TypeId) : ∀ j u, ([v] : List Value)[j]? = some u → (w.alloc (.cells #[v] t)).cell? ((⟨w.heap.size, 0, none⟩ : Addr).add j) = some u := by
  intro j u hj
  match j, hj with
  | 0, hj =>
    simp at hj; subst hj
    have : (⟨w.heap.size, 0, none⟩ : Addr).add 0 = ⟨w.heap.size, 0, none⟩ := by unfold Addr.add; split <;> simp_all
    rw [this]; exact one_new w _ t
  | j + 1, hj => simp at hj

theorem cell_one2 (w : World) (A : Obj) (v : Value) (t : TypeId) : ∀ j u, ([v] : List Value)[j]? = some u → ((w.alloc A).alloc (.cells #[v] t)).cell? ((⟨w.heap.size + 1, 0, none⟩ : Addr).add j) = some u := by
  have := cell_one (w.alloc A) v t
  rw [World.size_alloc] at this; exact this

theorem seqs_split (s : StateD) : seqsOf s = s.ready.flatMap (fun l => l.map ItemD.seq) ++ s.outs.map (fun o => o.item.seq) := rfl

set_option maxRecDepth 100000 in
set_option maxHeartbeats 1000000 in
theorem seqs_any (s : StateD) (b1 b2 b3 : Option Addr) (m1 d1 m2 d2 m3 d3 : Nat) (w : World) (hs : StateAt w b1 b2 b3 m1 m2 m3 s) (hb : (seqsOf s).length ≤ 100000000) :
    Calls Try.prog 121 #[.agg #[.slice b1 m1 d1, .slice b2 m2 d2, .slice b3 m3 d3, .int .i64 s.nextSeq, .int .i64 s.nextTag, .int .i64 s.came, .int .i64 s.acked, .int .i64 s.dropped]] w fun e w' => ∃ a c, e = .returned (.slice a (seqsOf s).length c) ∧ NumsAt w' a (seqsOf s) ∧ (∀ g, a = some ⟨g, 0, none⟩ → w.heap.size ≤ g) ∧ Below w.heap.size w w' := by
  obtain ⟨i3, hi3, hy0, hy1, hy2⟩ := info_parts Try.infoNum
  obtain ⟨W1, hW1, hBw, hs1, hbx⟩ := s_boxed w #[.slice b1 m1 d1, .slice b2 m2 d2, .slice b3 m3 d3, .int .i64 s.nextSeq, .int .i64 s.nextTag, .int .i64 s.came, .int .i64 s.acked, .int .i64 s.dropped]
  have HW1 := hidI hW1
  have BX := hidI hbx
  have HS := hidI (hs.keep hBw)
  have HM1 : Hid (s.ready.length = m1) := hs.l1
  have HM2 : Hid (s.outs.length = m2) := hs.l2
  have hx1 := hs.x1
  have hx2 := hs.x2
  have HBD := hidI hb
  unfold maxLen at hx1
  have s0 := hBw.size
  have hs1' : w.heap.size < W1.heap.size := by omega
  obtain ⟨y0, y1, y2, y3, y4, y5, y6, y7⟩ := st_cells (hbx W1 (Below.refl _ _))
  obtain ⟨Q, hQ⟩ : ∃ Q, Q = seqsOf s := ⟨_, rfl⟩
  obtain ⟨O, hO⟩ : ∃ O, O = s.outs.map (fun o => o.item.seq) := ⟨_, rfl⟩
  have HQO : Hid (Q = s.ready.flatMap (fun l => l.map ItemD.seq) ++ O) := by show Q = _; rw [hQ, hO]; rfl
  rw [← hQ] at HBD ⊢
  have HO := hidI hO
  clear hW1 hbx hs1 hs hb hQ hO
  go_enter Try.func121, Try.ntmps121
  go_wp2_with fail
  rw [← HW1.out]
  go_loopw [3, 5, 7, 13, 19] (fun u _ _ i _ wr => ∃ (k : Nat) (L : List Int), k ≤ m1 ∧ i = .int .i64 k ∧ wr.ownsRow W1.heap.size 3 1 u L.length (L.map (Value.int .i64)) ∧ L ++ ((s.ready.drop k).flatMap (fun l => l.map ItemD.seq) ++ O) = Q ∧ Below W1.heap.size W1 wr) (fun _ _ _ i _ _ => m1 - (intOf i).toNat)
  case atStart => exact ⟨0, [], Nat.zero_le _, rfl, World.ownsRow_nil _ _ _ _, by rw [HQO.out]; rfl, Below.refl _ _⟩
  case round =>
    obtain ⟨k, L, hk, rfl, hrow, hL, hB⟩ := hrel
    have HL := hidI hL
    have hBs := hB.size
    clear hL y0 y1 y2 y3 y4 y5 y6 y7
    obtain ⟨y0, y1, y2, y3, y4, y5, y6, y7⟩ := st_cells (BX.out wr hB)
    by_cases hlt : k < m1
    · have HLT := hidI hlt
      have hkl : k < s.ready.length := by rw [HM1.out]; exact hlt
      obtain ⟨g, o, b, c, ha, hg, hl⟩ := HS.out.q1.get hkl
      have hdr : s.ready.drop k = s.ready[k] :: s.ready.drop (k + 1) := List.drop_eq_getElem_cons hkl
      subst ha
      have e1 := (hl.keep hg hB).cell
      have HLI := hidI hl
      obtain ⟨xs, hxs⟩ : ∃ xs, xs = s.ready[k] := ⟨_, rfl⟩
      rw [← hxs] at HLI e1 hdr
      obtain ⟨R, hR⟩ : ∃ R, R = (s.ready.drop (k + 1)).flatMap (fun l => l.map ItemD.seq) ++ O := ⟨_, rfl⟩
      have HL2 : Hid (L ++ (xs.map ItemD.seq ++ R) = Q) := by
        show L ++ (xs.map ItemD.seq ++ R) = Q
        rw [← HL.out, hdr, hR, List.flatMap_cons, List.append_assoc]
      have HR := hidI hR
      obtain ⟨n, hn⟩ : ∃ n, n = xs.length := ⟨_, rfl⟩
      rw [← hn] at e1
      have HN := hidI hn
      have hnm : n ≤ 9223372036854775807 := by have h1 := HLI.out.le; have h2 := HLI.out.cm; unfold maxLen at h2; omega
      have j1 : (0 : Int) ≤ (k : Int) := by omega
      have j2 : (k : Int) < m1 := by omega
      clear hl hxs hn hdr hR
      go_wp2_with fail
      go_loopw [3, 7, 19] (fun u _ i wr => ∃ (j : Nat) (L : List Int), j ≤ n ∧ i = .int .i64 j ∧ wr.ownsRow W1.heap.size 3 1 u L.length (L.map (Value.int .i64)) ∧ L ++ ((xs.drop j).map ItemD.seq ++ R) = Q ∧ Below W1.heap.size W1 wr) (fun _ _ i _ => n - (intOf i).toNat)
      case atStart => exact ⟨0, L, Nat.zero_le _, rfl, hrow, HL2.out, hB⟩
      case round =>
        clear HL2 HL hrow
        obtain ⟨j, L, hj, rfl, hrow, hL, hBj⟩ := hrel
        have HL := hidI hL
        have s7 := hBj.size
        clear hL
        by_cases hjl : j < n
        · have HJL := hidI hjl
          have hjx : j < xs.length := by rw [← HN.out]; exact hjl
          have hdr : xs.drop j = xs[j] :: xs.drop (j + 1) := List.drop_eq_getElem_cons hjx
          rcases HLI.out.it.keep hBj with h | ⟨gx, ox, hax, hgx, hxx⟩
          · rw [h] at hjx; simp at hjx
          obtain ⟨f0, f1, f2, f3, f4⟩ := hxx j hjx
          subst hax
          obtain ⟨x, hx⟩ : ∃ x, x = xs[j] := ⟨_, rfl⟩
          rw [← hx] at f0 f1 f2 f3 f4 hdr
          obtain ⟨sq, ky, bo, ag, de⟩ := x
          dsimp only at f0 f1 f2 f3 f4
          have HL3 : Hid ((L ++ [sq]) ++ ((xs.drop (j + 1)).map ItemD.seq ++ R) = Q) := by
            show (L ++ [sq]) ++ ((xs.drop (j + 1)).map ItemD.seq ++ R) = Q
            rw [← HL.out, hdr]; simp
          have hLn : L.length + 1 ≤ 100000000 := by
            have := HBD.out; rw [← HL3.out] at this; simp at this; omega
          obtain ⟨m, hm⟩ : ∃ m, m = L.length := ⟨_, rfl⟩
          rw [← hm] at hrow hLn
          have HM := hidI hm
          have i1 : (0 : Int) ≤ (j : Int) := by omega
          have i2 : (j : Int) < n := by omega
          clear hx hdr hxx hm
          go_wp2_with (at_builtin; refine wpList_append_own _ rfl _ _ 45 rfl W1.heap.size 3 i3 (.int .i64 0) 1 8 Try.underlying45 hi3 hy0 hy1 hy2 rfl (by decide) _ _ _ rfl ((hrow.alloc _).alloc _) ⟨wr.heap.size + 1, 0, none⟩ 1 1 [.int .i64 sq] rfl rfl (cell_one2 _ _ _ _) (by simp [Value.oneCell']) (by unfold maxLen; omega) (by omega) (by simp; omega) ?_; intro v' w9 hown' hgrow _; have hB9 : Below W1.heap.size W1 w9 := ((hBj.alloc s7 _).alloc (by simp; omega) _).grown hgrow (by simp; omega) (own_ge hrow))
          go_roundw
          case rel => exact ⟨j + 1, L ++ [sq], HJL.out, by have := HJL.out; go_num, by rw [List.length_append, List.map_append, ← HM.out]; exact hown', HL3.out, hB9⟩
          case measure => have := HJL.out; simp [intOf]; omega
        · have hje : j = n := by omega
          subst hje
          have HL3 : Hid (L ++ ((s.ready.drop (k + 1)).flatMap (fun l => l.map ItemD.seq) ++ O) = Q) := by
            show L ++ _ = Q
            have := HL.out
            rw [List.drop_eq_nil_of_le (by rw [← HN.out]; exact Nat.le_refl _), HR.out] at this
            exact this
          clear hjl hj
          go_wp2_with fail
          go_roundw
          case rel => exact ⟨k + 1, L, HLT.out, by have := HLT.out; go_num, hrow, HL3.out, hBj⟩
          case measure => have := HLT.out; simp [intOf]; omega
    · have hke : k = m1 := by omega
      subst hke
      have HL3 : Hid (L ++ O = Q) := by
        show L ++ O = Q
        have := HL.out
        rw [List.drop_eq_nil_of_le (by rw [HM1.out]; exact Nat.le_refl _)] at this
        exact this
      clear hlt hk HL
      go_wp2_with fail
      go_loopw [3, 9, 33] (fun u _ i wr => ∃ (j : Nat) (L : List Int), j ≤ m2 ∧ i = .int .i64 j ∧ wr.ownsRow W1.heap.size 3 1 u L.length (L.map (Value.int .i64)) ∧ L ++ (s.outs.drop j).map (fun o => o.item.seq) = Q ∧ Below W1.heap.size W1 wr) (fun _ _ i _ => m2 - (intOf i).toNat)
      case atStart => exact ⟨0, L, Nat.zero_le _, rfl, hrow, by rw [← HL3.out, HO.out]; rfl, hB⟩
      case round =>
        clear HL3 hrow y0 y1 y2 y3 y4 y5 y6 y7
        obtain ⟨j, L, hj, rfl, hrow, hL, hBj⟩ := hrel
        have HL := hidI hL
        have s7 := hBj.size
        clear hL
        by_cases hjl : j < m2
        · have HJL := hidI hjl
          have hjx : j < s.outs.length := by rw [HM2.out]; exact hjl
          have hdr : s.outs.drop j = s.outs[j] :: s.outs.drop (j + 1) := List.drop_eq_getElem_cons hjx
          obtain ⟨gx, ox, hax, hgx, e1, e2, e3, e4⟩ := (HS.out.q2.keep hBj).get hjx
          subst hax
          obtain ⟨x, hx⟩ : ∃ x, x = s.outs[j] := ⟨_, rfl⟩
          rw [← hx] at e1 e2 e3 e4 hdr
          obtain ⟨tg, tk, qu, it⟩ := x
          obtain ⟨sq, ky, bo, ag, de⟩ := it
          obtain ⟨f0, f1, f2, f3, f4⟩ := e4
          dsimp only at e1 e2 e3 f0 f1 f2 f3 f4
          have HL3 : Hid ((L ++ [sq]) ++ (s.outs.drop (j + 1)).map (fun o => o.item.seq) = Q) := by
            show (L ++ [sq]) ++ _ = Q
            rw [← HL.out, hdr]; simp
          have hLn : L.length + 1 ≤ 100000000 := by
            have := HBD.out; rw [← HL3.out] at this; simp at this; omega
          obtain ⟨m, hm⟩ : ∃ m, m = L.length := ⟨_, rfl⟩
          rw [← hm] at hrow hLn
          have HM := hidI hm
          have i1 : (0 : Int) ≤ (j : Int) := by omega
          have i2 : (j : Int) < m2 := by omega
          clear hx hdr hm
          go_wp2_with (at_builtin; refine wpList_append_own _ rfl _ _ 45 rfl W1.heap.size 3 i3 (.int .i64 0) 1 8 Try.underlying45 hi3 hy0 hy1 hy2 rfl (by decide) _ _ _ rfl ((hrow.alloc _).alloc _) ⟨wr.heap.size + 1, 0, none⟩ 1 1 [.int .i64 sq] rfl rfl (cell_one2 _ _ _ _) (by simp [Value.oneCell']) (by unfold maxLen; omega) (by omega) (by simp; omega) ?_; intro v' w9 hown' hgrow _; have hB9 : Below W1.heap.size W1 w9 := ((hBj.alloc s7 _).alloc (by simp; omega) _).grown hgrow (by simp; omega) (own_ge hrow))
          go_roundw
          case rel => exact ⟨j + 1, L ++ [sq], HJL.out, by have := HJL.out; go_num, by rw [List.length_append, List.map_append, ← HM.out]; exact hown', HL3.out, hB9⟩
          case measure => have := HJL.out; simp [intOf]; omega
        · have hje : j = m2 := by omega
          subst hje
          have HL3 : L = Q := by
            have := HL.out
            rw [List.drop_eq_nil_of_le (by rw [HM2.out]; exact Nat.le_refl _)] at this
            simpa using this
          subst HL3
          obtain ⟨a, c, rfl, hI⟩ := nums_own hrow
          have HI := hidI hI
          have HGE : Hid (∀ g, a = some ⟨g, 0, none⟩ → w.heap.size ≤ g) := fun g e => by subst e; exact Nat.le_trans s0 (own_ge hrow g rfl)
          clear hrow hI hjl hj HL
          go_wp2_with fail
          go_ret
          exact ⟨a, c, rfl, HI.out, HGE.out, hBw.trans (hBj.mono s0)⟩

theorem held_step (xs : List OutD) (t : Int) {k : Nat} (h : k < xs.length) : ((xs.take (k + 1)).filter (fun o => decide (o.taker = t))).length = ((xs.take k).filter (fun o => decide (o.taker = t))).length + (if xs[k].taker = t then 1 else 0) := by
  rw [List.take_succ_eq_append_getElem h, List.filter_append, List.length_append]
  by_cases e : xs[k].taker = t <;> simp [e]

set_option maxRecDepth 100000 in
set_option maxHeartbeats 1000000 in
theorem held_any (s : StateD) (b1 b2 b3 : Option Addr) (m1 d1 m2 d2 m3 d3 : Nat) (t : Int) (w : World) (hs : StateAt w b1 b2 b3 m1 m2 m3 s) :
    Calls Try.prog 106 #[.agg #[.slice b1 m1 d1, .slice b2 m2 d2, .slice b3 m3 d3, .int .i64 s.nextSeq, .int .i64 s.nextTag, .int .i64 s.came, .int .i64 s.acked, .int .i64 s.dropped], .int .i64 t] w fun e w' => e = .returned (.int .i64 (heldN s t)) ∧ Below w.heap.size w w' := by
  obtain ⟨W1, hW1, hBw, hs1, hbx⟩ := s_boxed w #[.slice b1 m1 d1, .slice b2 m2 d2, .slice b3 m3 d3, .int .i64 s.nextSeq, .int .i64 s.nextTag, .int .i64 s.came, .int .i64 s.acked, .int .i64 s.dropped]
  have HW1 := hidI hW1
  have BX := hidI hbx
  have HS := hidI (hs.keep hBw)
  have HM2 : Hid (s.outs.length = m2) := hs.l2
  have hx2 := hs.x2
  have s0 := hBw.size
  obtain ⟨y0, y1, y2, y3, y4, y5, y6, y7⟩ := st_cells (hbx W1 (Below.refl _ _))
  clear hW1 hbx hs1 hs
  go_enter Try.func106, Try.ntmps106
  go_wp2_with fail
  rw [← HW1.out]
  go_loopw [5, 7, 11] (fun u _ i wr => ∃ (k n : Nat), k ≤ m2 ∧ i = .int .i64 k ∧ u = .int .i64 n ∧ n ≤ k ∧ n = ((s.outs.take k).filter (fun o => decide (o.taker = t))).length ∧ Below W1.heap.size W1 wr) (fun _ _ i _ => m2 - (intOf i).toNat)
  case atStart => exact ⟨0, 0, Nat.zero_le _, rfl, rfl, Nat.le_refl _, rfl, Below.refl _ _⟩
  case round =>
    obtain ⟨k, n, hk, rfl, rfl, hnk, hn, hB⟩ := hrel
    have HN := hidI hn
    have hBs := hB.size
    clear hn y0 y1 y2 y3 y4 y5 y6 y7
    by_cases hlt : k < m2
    · have HLT := hidI hlt
      have hkl : k < s.outs.length := by rw [HM2.out]; exact hlt
      obtain ⟨g, o, ha, hg, e1, e2, e3, e4⟩ := (HS.out.q2.keep hB).get hkl
      subst ha
      have HST := hidI (held_step s.outs t hkl)
      obtain ⟨x, hx⟩ : ∃ x, x = s.outs[k] := ⟨_, rfl⟩
      rw [← hx] at e1 e2 e3 e4 HST
      obtain ⟨tg, tk, qu, it⟩ := x
      obtain ⟨sq, ky, bo, ag, de⟩ := it
      obtain ⟨f0, f1, f2, f3, f4⟩ := e4
      dsimp only at e1 e2 e3 f0 f1 f2 f3 f4 HST
      rw [← HN.out] at HST
      have j1 : (0 : Int) ≤ (k : Int) := by omega
      have j2 : (k : Int) < m2 := by omega
      clear hx
      by_cases htk : tk = t
      · have hb : (tk == t) = true := by simpa using htk
        rw [if_pos htk] at HST
        clear htk
        go_wp2_with fail
        go_roundw
        case rel => exact ⟨k + 1, n + 1, HLT.out, by have := HLT.out; go_num, by have := HLT.out; go_num, by omega, HST.out.symm, hB.alloc hBs _⟩
        case measure => have := HLT.out; simp [intOf]; omega
      · have hb : (tk == t) = false := by simpa using htk
        rw [if_neg htk] at HST
        clear htk
        go_wp2_with fail
        go_roundw
        case rel => exact ⟨k + 1, n, HLT.out, by have := HLT.out; go_num, rfl, by omega, HST.out.symm, hB.alloc hBs _⟩
        case measure => have := HLT.out; simp [intOf]; omega
    · have hke : k = m2 := by omega
      subst hke
      clear hlt hk
      go_wp2_with fail
      go_ret
      refine ⟨?_, hBw.trans (hB.mono s0)⟩
      have : n = heldN s t := by
        have := HN.out
        rw [List.take_of_length_le (by rw [HM2.out]; exact Nat.le_refl _)] at this
        exact this
      show Ending.returned (Value.int .i64 (n : Nat)) = _
      rw [this]
end Go.Proofs.Ythhkpgnjpieckaa
