/- mailcoachref.PostsOf. -/
import Derived.Test.YthhkpgnjpieckaaSg
namespace Go.Proofs.Ythhkpgnjpieckaa
set_option linter.unusedVariables false
set_option maxRecDepth 100000
open Go.RowKit Go.Maps

theorem ints_own {W : World} {base : Nat} {u : Value} {zs : List Int} {n : Nat} (h : W.ownsRow base 3 1 u n (zs.map (Value.int .i64))) : ∃ a c, u = .slice a zs.length c ∧ IntsAt W a zs := by
  have hn : n = zs.length := by have := h.1; simp at this; omega
  subst hn
  by_cases hne : zs = []
  · subst hne
    rcases h.2 with ⟨rfl, _⟩ | ⟨g, cap, cur, rfl, _, _, _, _, _⟩
    · exact ⟨none, 0, rfl, .inl rfl⟩
    · exact ⟨_, cap, rfl, .inl rfl⟩
  · obtain ⟨g, c, rfl, _, _, _, hr⟩ := row_ints h hne
    exact ⟨_, c, rfl, hr.ints⟩
theorem row_keepN {w1 w2 : World} {base : Nat} {v : Value} {n : Nat} {xs : List Value} {e : TypeId} {size : Nat} (h : w1.ownsRow base e size v n xs) (hB : Below w1.heap.size w1 w2) : w2.ownsRow base e size v n xs := (Turn.of_below (fun _ => False) hB).row h (fun _ _ => id)
theorem bools_at {W : World} {base g n : Nat} {bs : List Bool} (h : W.ownsRow base 4 1 (.slice (some ⟨g, 0, none⟩) n n) n (bs.map Value.bool)) (hl : bs.length = n) {i : Nat} (hi : i < n) : W.cell? ⟨g, i, none⟩ = some (.bool (bs.getD i false)) := by
  rw [h.cellAt i (by omega), List.getElem?_map, List.getElem?_eq_getElem (by omega), List.getD_eq_getElem?_getD, List.getElem?_eq_getElem (by omega)]
  rfl
theorem bools_set {W : World} {base g n : Nat} {bs : List Bool} (h : W.ownsRow base 4 1 (.slice (some ⟨g, 0, none⟩) n n) n (bs.map Value.bool)) (i : Nat) : (W.setCell ⟨g, i, none⟩ (.bool true)).ownsRow base 4 1 (.slice (some ⟨g, 0, none⟩) n n) n ((bs.set i true).map Value.bool) := by
  have := (h.stored i (.bool true)).1
  rw [List.map_set]; exact this
theorem plan_box_keep {W W' : World} {b : Nat} {cs : Array Value} {t : TypeId} (h : W.heap[b]? = some (.cells cs t (0, 0))) (hB : Below W.heap.size W W') : W'.heap[b]? = some (.cells cs t (0, 0)) := (hB.block b (lt_of_heap h)).trans h
theorem set_other {W : World} {b g i : Nat} {o : Obj} (h : W.heap[b]? = some o) (hne : b ≠ g) (u : Value) : (W.setCell ⟨g, i, none⟩ u).heap[b]? = some o := ((setCell_turn W g i u).block b (lt_of_heap h) (by omega)).trans h

/-- What a round keeps. -/
structure MSt (w : World) (pv : Array Value) (n1 : Nat) (bs : List Bool) (W : World) : Prop where
  len : bs.length = n1
  row : W.ownsRow (w.heap.size + 1) 4 1 (.slice (some ⟨w.heap.size + 1, 0, none⟩) n1 n1) n1 (bs.map Value.bool)
  box : W.heap[w.heap.size]? = some (.cells pv 40 (0, 0))
  below : Below w.heap.size w W
theorem MSt.keep {w : World} {pv : Array Value} {n1 : Nat} {bs : List Bool} {W W' : World} (h : MSt w pv n1 bs W) (hB : Below W.heap.size W W') : MSt w pv n1 bs W' :=
  ⟨h.len, row_keepN h.row hB, plan_box_keep h.box hB, h.below.trans (hB.mono h.below.size)⟩
theorem MSt.set {w : World} {pv : Array Value} {n1 : Nat} {bs : List Bool} {W : World} (h : MSt w pv n1 bs W) (i : Nat) : MSt w pv n1 (bs.set i true) (W.setCell ⟨w.heap.size + 1, i, none⟩ (.bool true)) :=
  ⟨by rw [List.length_set]; exact h.len, bools_set h.row i, set_other h.box (by omega) _, h.below.setCell (p := ⟨w.heap.size + 1, i, none⟩) (Nat.le_succ _) _⟩
theorem MSt.start {w w1 : World} {pv : Array Value} {n1 : Nat} (hgrow : (w.alloc (.cells pv 40)).grownBy w1 none) (hown : w1.ownsRow (w.heap.size + 1) 4 1 (.slice (some ⟨(w.alloc (.cells pv 40)).heap.size, 0, none⟩) n1 n1) n1 (madeCells (Value.bool false).cells (n1 * 1)).toList) : MSt w pv n1 (List.replicate n1 false) w1 := by
  refine ⟨by simp, ?_, ?_, ((Below.refl _ _).alloc (Nat.le_refl _) _).grown hgrow (by simp) (fun k e => by cases e)⟩
  · rw [made_bools, World.size_alloc] at hown; rw [List.map_replicate]; exact hown
  · exact (hgrow.block w.heap.size (by simp) (by simp)).trans (World.alloc_heap_new w _)

set_option maxRecDepth 100000 in
set_option maxHeartbeats 1000000 in
theorem postsOf_any (p : PlanD) (a1 a2 a3 : Option Addr) (n1 c1 n2 c2 n3 c3 : Nat) (v : Nat) (key : ByteArray) (w : World) (hp : PlanAt w a1 a2 a3 n1 n2 n3 p) (hr : RightP p) (hv : v < n1) (hk : key.size ≤ 24) :
    Calls Try.prog 36 #[.agg #[.slice a1 n1 c1, .slice a2 n2 c2, .slice a3 n3 c3], .int .i64 v, .string key] w fun e w' => ∃ zs a c, e = .returned (.slice a zs.length c) ∧ PostsIs p key v zs ∧ zs.length ≤ 4 ∧ IntsAt w' a zs ∧ Below w.heap.size w w' := by
  obtain ⟨i0, hi, hz0, hz1, hz2⟩ := info_parts Try.info4
  obtain ⟨i3, hi3, hy0, hy1, hy2⟩ := info_parts Try.infoInt
  have HP := hidIt hp
  have HR := hidIt hr
  have h4 : n1 ≤ 4 := by rw [← hp.l1]; exact hr.few.1
  have h10 : n3 ≤ 10 := by rw [← hp.l3]; exact hr.few.2.2
  have HL3 : Hid (p.binds.length = n3) := hp.l3
  have HL1 : Hid (p.posts.length = n1) := hp.l1
  have HKS := hidIt hk
  have hvi : (v : Int) < n1 := by omega
  have HMS : Hid (Marked (arcOf p key) v ((List.replicate n1 false).set v true) 0 0) := Marked.start hv
  obtain ⟨b0, b1, b2⟩ := plan_box w (.slice a1 n1 c1) (.slice a2 n2 c2) (.slice a3 n3 c3) 40
  clear hp hr hk
  go_enter Try.func36, Try.ntmps36
  go_wp2_with (at_make; refine wpList_make_full _ rfl _ _ 87 rfl (w.heap.size + 1) 4 i0 (.bool false) 1 Try.underlying87 hi hz0 hz1 _ _ _ _ n1 rfl rfl rfl rfl (by rw [hz2]; omega) (by unfold maxLen; omega) (by simp) ?_; intro w1 hown1 hgrow1; have hm1 := MSt.start hgrow1 hown1; have hck : w1.cell? ⟨w.heap.size + 1, v, none⟩ = some (.bool false) := (bools_at hm1.row hm1.len hv).trans (by rw [getD_repl]); have hfk : w1.frozen? ⟨w.heap.size + 1, v, none⟩ = false := hm1.row.frozenAt v)
  have HM1 := hidIt (hm1.set v)
  clear hm1 hck hfk hown1 hgrow1 b0 b1 b2
  have STEP : Hid (∀ (bs : List Bool) (r k : Nat) (W : World), MSt w #[.slice a1 n1 c1, .slice a2 n2 c2, .slice a3 n3 c3] n1 bs W → k < n3 → ∃ gb o, a3 = some ⟨gb, o, none⟩ ∧ gb < W.heap.size ∧ W.cell? ⟨gb, o + k * 4, none⟩ = some (.int .i64 (bAt p k).src) ∧ W.cell? ⟨gb, o + k * 4 + 1, none⟩ = some (.bool (bAt p k).toPost) ∧ W.cell? ⟨gb, o + k * 4 + 2, none⟩ = some (.int .i64 (bAt p k).dst) ∧ W.cell? ⟨gb, o + k * 4 + 3, none⟩ = some (.string (bAt p k).pat)) := by
    intro bs r k W hM hk
    have hkl : k < p.binds.length := by rw [HL3.out]; exact hk
    rcases (HP.out.p3.keep hM.below) with h | ⟨gb, o, h1, h2, h3⟩
    · rw [h] at hkl; simp at hkl
    · have := h3 k hkl
      rw [← bAt_get hkl] at this
      exact ⟨gb, o, h1, h2, this⟩
  go_loopw [8, 9, 10] (fun i _ _ wr => ∃ (r : Nat) (bs : List Bool), r ≤ n1 ∧ i = .int .i64 r ∧ Marked (arcOf p key) v bs r 0 ∧ MSt w #[.slice a1 n1 c1, .slice a2 n2 c2, .slice a3 n3 c3] n1 bs wr) (fun i _ _ _ => n1 - (intOf i).toNat)
  case atStart => exact ⟨0, _, Nat.zero_le _, rfl, HMS.out, HM1.out⟩
  case round =>
    obtain ⟨r, bs, hr, rfl, hmk, hst⟩ := hrel
    have e0 := cell_of_cells hst.box 0
    have e1 := cell_of_cells hst.box 1
    have e2 := cell_of_cells hst.box 2
    simp at e0 e1 e2
    have HST := hidIt hst
    have HMK := hidIt hmk
    clear hst hmk HM1
    by_cases hlt : r < n1
    · have HLT := hidIt hlt
      go_wp2_with fail
      go_loopw [9, 10] (fun i _ wr => ∃ (k : Nat) (bs : List Bool), k ≤ n3 ∧ i = .int .i64 k ∧ Marked (arcOf p key) v bs r k ∧ MSt w #[.slice a1 n1 c1, .slice a2 n2 c2, .slice a3 n3 c3] n1 bs wr) (fun i _ _ => n3 - (intOf i).toNat)
      case atStart => exact ⟨0, bs, Nat.zero_le _, rfl, HMK.out, HST.out⟩
      case round =>
        clear HMK HST e0 e1 e2
        obtain ⟨k, bs, hk, rfl, hmk, hst⟩ := hrel
        have e0 := cell_of_cells hst.box 0
        have e1 := cell_of_cells hst.box 1
        have e2 := cell_of_cells hst.box 2
        simp at e0 e1 e2
        have HST := hidIt hst
        have HMK := hidIt hmk
        have sw : w.heap.size + 1 < wr.heap.size := by
          have := hst.row.lt (w.heap.size + 1) rfl; omega
        have sw0 : w.heap.size < wr.heap.size := by omega
        by_cases hkl : k < n3
        · have HKL := hidIt hkl
          obtain ⟨gb, o, ha3, hgb, r0, r1, r2, r3⟩ := STEP.out bs r k wr hst hkl
          have hbl : k < p.binds.length := by rw [HL3.out]; exact hkl
          have hsr := HR.out.src _ (List.getElem_mem hbl)
          rw [← bAt_get hbl] at hsr
          obtain ⟨x, hx⟩ := Int.eq_ofNat_of_zero_le hsr.1
          have hxl : x < n1 := by rw [← HL1.out]; omega
          have hcx := bools_at hst.row hst.len hxl
          rw [hx] at r0
          have i1 : (0 : Int) ≤ (k : Int) := by omega
          have i2 : (k : Int) < n3 := by omega
          have i3 : (0 : Int) ≤ (x : Int) := by omega
          have i4 : (x : Int) < n1 := by omega
          obtain ⟨tp, htp⟩ : ∃ tp, tp = (bAt p k).toPost := ⟨_, rfl⟩
          obtain ⟨y, hy⟩ : ∃ y, y = (bAt p k).dst := ⟨_, rfl⟩
          obtain ⟨pt, hpt⟩ : ∃ pt, pt = (bAt p k).pat := ⟨_, rfl⟩
          obtain ⟨m, hm⟩ : ∃ m, m = bs.getD x false := ⟨_, rfl⟩
          rw [← htp] at r1
          rw [← hy] at r2
          rw [← hpt] at r3
          rw [← hm] at hcx
          have HTP := hidIt htp
          have HX := hidIt hx
          have HY := hidIt hy
          have HM := hidIt hm
          have HWR : Hid (∀ u, Below wr.heap.size wr (wr.alloc (.cells u 55))) := fun u => (Below.refl _ _).alloc (Nat.le_refl _) _
          subst ha3
          clear hst hmk hbl hsr hx htp hy hpt hm hxl
          cases tp with
          | false =>
            go_wp2_with fail
            go_roundw
            case rel => exact ⟨k + 1, bs, by have := HKL.out; omega, by go_num, HMK.out.stay (fun u z h => by have := (arc_some HR.out h).2.2.1; rw [← HTP.out] at this; cases this), HST.out.keep (HWR.out _)⟩
            case measure => simp [intOf]; omega
          | true =>
            cases m with
            | false =>
              go_wp2_with fail
              go_roundw
              case rel => exact ⟨k + 1, bs, by have := HKL.out; omega, by go_num, HMK.out.stay (fun u z h => by have h4 := (arc_some HR.out h).2.2.2.1; have e : u = x := by have := HX.out; omega
                                                                                                                rw [e]; exact HM.out.symm), HST.out.keep (HWR.out _)⟩
              case measure => simp [intOf]; omega
            | true =>
              obtain ⟨W2, hW2⟩ : ∃ W2, W2 = wr.alloc (.cells #[.int .i64 x, .bool true, .int .i64 y, .string pt] 55) := ⟨_, rfl⟩
              have HW2 := hidIt hW2
              have hM2 : MSt w #[.slice a1 n1 c1, .slice a2 n2 c2, .slice (some ⟨gb, o, none⟩) n3 c3] n1 bs W2 := by rw [hW2]; exact HST.out.keep (HWR.out _)
              have hb2 : W2.heap[wr.heap.size]? = some (.cells #[.int .i64 x, .bool true, .int .i64 y, .string pt] 55 (0, 0)) := by rw [hW2]; exact World.alloc_heap_new wr _
              have HM2 := hidIt hM2
              have HB2 := hidIt hb2
              clear hW2 hM2 hb2
              go_wp2_with fail
              rw [← HW2.out]
              refine (rfits_any p _ _ _ _ _ _ _ _ _ k key _ (HP.out.keep HM2.out.below) HR.out HKL.out HKS.out).mono ?_
              rintro e w3 ⟨rfl, hB3⟩
              have hM3 := HM2.out.keep hB3
              have hb3 := plan_box_keep HB2.out hB3
              have x2 := cell_of_cells hb3 2
              simp at x2
              have hbl : k < p.binds.length := by rw [HL3.out]; exact HKL.out
              have hds := dst_ok HR.out k HTP.out.symm
              rw [← HY.out] at hds
              obtain ⟨d, hd⟩ := Int.eq_ofNat_of_zero_le hds.1
              have hdn : d < n1 := by rw [← HL1.out]; omega
              subst hd
              have hcd := bools_at hM3.row hM3.len hdn
              have hfd := hM3.row.frozenAt d
              have j3 : (0 : Int) ≤ (d : Int) := by omega
              have j4 : (d : Int) < n1 := by omega
              have HM3 := hidIt hM3
              have HDL : Hid (d < bs.length) := by rw [hM3.len]; exact hdn
              obtain ⟨ft, hft⟩ : ∃ ft, ft = fitP p k key := ⟨_, rfl⟩
              rw [← hft]
              have HFT := hidIt hft
              have HARC : Hid (ft = true → arcOf p key k = some (x, d)) := fun h => by
                show arcOf p key k = _
                unfold arcOf
                rw [if_pos ⟨hbl, by rw [← HFT.out]; exact h, HTP.out.symm⟩, HX.out, ← HY.out, Int.toNat_natCast, Int.toNat_natCast]
              clear hM3 hb3 hbl hds hdn hft r0 r1 r2 r3 hcx e0 e1 e2 hB3
              cases ft with
              | true =>
                go_wp2_with fail
                go_roundw
                case rel => exact ⟨k + 1, bs.set d true, by have := HKL.out; omega, by go_num, HMK.out.mark (HARC.out (by trivial)) HM.out.symm HDL.out, HM3.out.set d⟩
                case measure => simp [intOf]; omega
              | false =>
                go_wp2_with fail
                go_roundw
                case rel => exact ⟨k + 1, bs, by have := HKL.out; omega, by go_num, HMK.out.stay (fun u z h => by have := (arc_some HR.out h).2.1; rw [← HFT.out] at this; cases this), HM3.out⟩
                case measure => simp [intOf]; omega
        · have hke : k = n3 := by omega
          subst hke
          clear hkl hk hst hmk
          go_wp2_with fail
          go_roundw
          case rel => exact ⟨r + 1, bs, HLT.out, by have := HLT.out; go_num, HMK.out.next (fun m q h => by have := arc_lt m q h; rw [HL3.out] at this; exact this), HST.out⟩
          case measure => have := HLT.out; simp [intOf]; omega
    · have hre : r = n1 := by omega
      subst hre
      have HPI : Hid (PostsIs p key v (numsTo (fun i => bs.getD i false) r)) := by
        have := posts_marked HR.out (by rw [HL1.out]; exact hv) HMK.out (by rw [HL1.out]; exact Nat.le_refl _)
        rw [HL1.out] at this; exact this
      obtain ⟨f, hf⟩ : ∃ f : Nat → Bool, f = fun i => bs.getD i false := ⟨_, rfl⟩
      obtain ⟨w5, h5⟩ : ∃ w5, w5 = wr := ⟨_, rfl⟩
      subst h5
      have HF : Hid (∀ i, f i = bs.getD i false) := fun i => by rw [hf]
      rw [← hf] at HPI
      have s5 := HST.out.below.size
      clear hlt hr hf HMK
      go_wp2_with fail
      go_loopw [11, 12] (fun u i wr => ∃ (k : Nat), k ≤ r ∧ i = .int .i64 k ∧ wr.ownsRow w5.heap.size 3 1 u (numsTo f k).length ((numsTo f k).map (Value.int .i64)) ∧ Below w5.heap.size w5 wr) (fun _ i _ => r - (intOf i).toNat)
      case atStart => exact ⟨0, Nat.zero_le _, rfl, World.ownsRow_nil _ _ _ _, Below.refl _ _⟩
      case round =>
        obtain ⟨k, hk, rfl, hrow, hB⟩ := hrel
        have hst := HST.out.keep hB
        by_cases hkl : k < r
        · have hck := bools_at hst.row hst.len hkl
          have i1 : (0 : Int) ≤ (k : Int) := by omega
          have i2 : (k : Int) < r := by omega
          have hle := nums_len f k
          have sB := hB.size
          rw [← HF.out] at hck
          obtain ⟨n, hn⟩ : ∃ n, n = (numsTo f k).length := ⟨_, rfl⟩
          rw [← hn] at hrow hle
          have HN := hidIt hn
          have HROW := hidIt hrow
          clear hn hst
          cases hfk : f k with
          | true =>
            rw [hfk] at hck
            have HFK := hidIt hfk
            clear hfk
            go_wp2_with (at_builtin; refine wpList_append_own _ rfl _ _ 45 rfl w5.heap.size 3 i3 (.int .i64 0) 1 8 Try.underlying45 hi3 hy0 hy1 hy2 rfl (by decide) _ _ _ rfl (hrow.alloc _) ⟨wr.heap.size, 0, none⟩ 1 1 [.int .i64 (k : Nat)] rfl rfl (cell_one_new _ _ _) (by simp [Value.oneCell']) (by unfold maxLen; omega) (by omega) (by simp; omega) ?_; intro v' w3 hown' hgrow _; have hB3 : Below w5.heap.size w5 w3 := (hB.alloc sB _).grown hgrow (by simp; omega) (own_ge hrow))
            go_roundw
            case rel => exact ⟨k + 1, by omega, by go_num, by rw [nums_yes HFK.out, List.length_append, List.map_append, ← HN.out]; exact hown', hB3⟩
            case measure => simp [intOf]; omega
          | false =>
            rw [hfk] at hck
            have HFK := hidIt hfk
            clear hfk
            go_wp2_with fail
            go_roundw
            case rel => exact ⟨k + 1, by omega, by go_num, by rw [nums_no HFK.out, ← HN.out]; exact HROW.out, hB⟩
            case measure => simp [intOf]; omega
        · have hke : k = r := by omega
          subst hke
          obtain ⟨a, c, rfl, hI⟩ := ints_own hrow
          have HI := hidIt hI
          have hle := nums_len f k
          clear hrow hkl hI hst
          go_wp2_with fail
          go_ret
          exact ⟨numsTo f k, a, c, rfl, HPI.out, by omega, HI.out, HST.out.below.trans (hB.mono s5)⟩
end Go.Proofs.Ythhkpgnjpieckaa
