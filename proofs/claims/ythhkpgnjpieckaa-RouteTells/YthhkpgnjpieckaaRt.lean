/- slices.Compact over a few numbers that rise; slices.Sort over none. -/
import Derived.Lib.SliceRun
import Derived.Test.YthhkpgnjpieckaaRs
namespace Go.Proofs.Ythhkpgnjpieckaa
set_option linter.unusedVariables false
set_option maxRecDepth 100000
open Go.RowKit

theorem ret_sl {a : Option Addr} {m n c : Nat} (h : m = n) : Ending.returned (.slice a m c) = .returned (.slice a n c) := by rw [h]
theorem IntRow.out {W : World} {g : Nat} {zs : List Int} (h : IntRow W g zs) {i : Nat} (hi : zs.length ≤ i) (v : Value) : IntRow (W.setCell ⟨g, i, none⟩ v) g zs := by
  obtain ⟨cur, h1, h2⟩ := h
  refine ⟨_, heap_setCell_same W g i cur 3 _ h1, fun j hj => ?_⟩
  rw [Array.getElem?_setIfInBounds_ne (by omega), h2 j hj]
theorem IntRow.outs {g : Nat} {zs : List Int} : ∀ (vs : List Value) (o : Nat) {W : World}, IntRow W g zs → zs.length ≤ o → IntRow (W.setCells g o vs) g zs
  | [], _, _, h, _ => h
  | v :: r, o, W, h, ho => by unfold World.setCells; exact IntRow.outs r (o + 1) (h.out ho v) (by omega)
theorem setCells_turn (g : Nat) : ∀ (vs : List Value) (o : Nat) (W : World), Turn (fun k => k = g) W (W.setCells g o vs)
  | [], _, _ => Turn.refl _ _
  | v :: r, o, W => by unfold World.setCells; exact (setCell_turn W g o v).trans (setCells_turn g r (o + 1) _) (fun _ _ e => e)
theorem IntRow.take {W : World} {g : Nat} {zs : List Int} (h : IntRow W g zs) (k : Nat) : IntRow W g (zs.take k) := by
  obtain ⟨cur, h1, h2⟩ := h
  exact ⟨cur, h1, fun i hi => by rw [List.length_take] at hi; rw [h2 i (by omega), List.getElem_take]⟩

/-- What Compact has done when it has looked at the first q: k of them stay. -/
structure Comp (zs ys : List Int) (k q : Nat) : Prop where
  len : ys.length = zs.length
  k0 : 1 ≤ k
  kq : k ≤ q - 1
  qn : q ≤ zs.length
  same : ∀ i (h : i < zs.length), q - 1 ≤ i → ys[i]'(by omega) = zs[i]
  rise : (ys.take k).Pairwise (· < ·)
  mem : ∀ z, z ∈ ys.take k ↔ z ∈ zs.take q
  last : ∀ (h : k - 1 < ys.length) (h2 : q - 1 < zs.length), ys[k - 1] = zs[q - 1]
theorem Comp.skip {zs ys : List Int} {k q : Nat} (h : Comp zs ys k q) (hq : q < zs.length) (e : zs[q] = zs[q - 1]'(by omega)) : Comp zs ys k (q + 1) := by
  have hk := h.k0
  have hkq := h.kq
  refine ⟨h.len, h.k0, by omega, by omega, fun i hi h1 => h.same i hi (by omega), h.rise, fun z => ?_, fun h1 h2 => ?_⟩
  · rw [h.mem, List.take_succ_eq_append_getElem hq, List.mem_append]
    constructor
    · exact .inl
    · rintro (h1 | h1)
      · exact h1
      · rw [List.mem_singleton] at h1; subst h1
        rw [e]
        have : zs[q - 1]'(by omega) = (zs.take q)[q - 1]'(by rw [List.length_take]; omega) := by rw [List.getElem_take]
        rw [this]; exact List.getElem_mem _
  · have := h.last h1 (by omega)
    simp only [Nat.add_sub_cancel]; rw [e]; exact this
theorem take_lt {ys : List Int} {k : Nat} (h : (ys.take k).Pairwise (· < ·)) (hk : 1 ≤ k) (hl : k ≤ ys.length) : ∀ a ∈ ys.take k, a ≤ ys[k - 1]'(by omega) := by
  intro a ha
  obtain ⟨i, hi, rfl⟩ := List.mem_iff_getElem.1 ha
  rw [List.length_take] at hi
  rw [List.getElem_take]
  by_cases e : i = k - 1
  · subst e; exact Int.le_refl _
  · have := List.pairwise_iff_getElem.1 h i (k - 1) (by rw [List.length_take]; omega) (by rw [List.length_take]; omega) (by omega)
    rw [List.getElem_take, List.getElem_take] at this
    omega
theorem Comp.take {zs ys : List Int} {k q : Nat} (h : Comp zs ys k q) (hq : q < zs.length) (e : zs[q - 1]'(by omega) < zs[q]) : Comp zs (ys.set k zs[q]) (k + 1) (q + 1) := by
  have hk := h.k0
  have hkq := h.kq
  have hl := h.len
  have ht : (ys.set k zs[q]).take (k + 1) = ys.take k ++ [zs[q]] := by
    rw [List.take_succ_eq_append_getElem (by simp; omega), List.take_set_of_le (by omega)]
    simp
  refine ⟨by simp [hl], by omega, by omega, by omega, fun i hi h1 => ?_, ?_, fun z => ?_, fun h1 h2 => ?_⟩
  · rw [List.getElem_set_ne (by omega)]; exact h.same i hi (by omega)
  · rw [ht, List.pairwise_append]
    refine ⟨h.rise, by simp, fun a ha b hb => ?_⟩
    rw [List.mem_singleton] at hb; subst hb
    have h3 := take_lt h.rise hk (by omega) a ha
    have h4 := h.last (by omega) (by omega)
    omega
  · rw [ht, List.mem_append, h.mem, List.take_succ_eq_append_getElem hq, List.mem_append]
  · simp
theorem Comp.first {zs : List Int} {k : Nat} (hk : 1 ≤ k) (hl : k < zs.length) (hr : (zs.take k).Pairwise (· < ·)) (e : zs[k] = zs[k - 1]'(by omega)) : Comp zs zs k (k + 1) := by
  refine ⟨rfl, hk, by omega, by omega, fun _ _ _ => rfl, hr, fun z => ?_, fun h1 h2 => ?_⟩
  · rw [List.take_succ_eq_append_getElem hl, List.mem_append]
    constructor
    · exact .inl
    · rintro (h1 | h1)
      · exact h1
      · rw [List.mem_singleton] at h1; subst h1
        rw [e]
        have : zs[k - 1]'(by omega) = (zs.take k)[k - 1]'(by rw [List.length_take]; omega) := by rw [List.getElem_take]
        rw [this]; exact List.getElem_mem _
  · simp only [Nat.add_sub_cancel]; exact e.symm

set_option maxHeartbeats 2000000 in
theorem compact_any (zs : List Int) (g n c : Nat) (w : World) (hn : zs.length = n) (h12 : n ≤ 12) (hnc : n ≤ c) (hso : SortedTo zs n) (hrow : IntRow w g zs) :
    Calls Try.prog 81 #[.slice (some ⟨g, 0, none⟩) n c] w fun e w' => ∃ ys : List Int, ∃ c', e = .returned (.slice (some ⟨g, 0, none⟩) ys.length c') ∧ ys.length ≤ 12 ∧ ys.Pairwise (· < ·) ∧ (∀ z, z ∈ ys ↔ z ∈ zs) ∧ IntRow w' g ys ∧ Turn (fun k => k = g) w w' := by
  have HN : Hid (zs.length = n) := hn
  have HSO : Hid (SortedTo zs n) := hso
  by_cases h2 : (n : Int) < 2
  · have hp : zs.Pairwise (· < ·) := by
      match zs, hn with
      | [], _ => simp
      | [x], _ => simp
      | x :: y :: r, h => simp at h; omega
    have HP : Hid (zs.Pairwise (· < ·)) := hp
    clear hn hso hp
    go_enter Try.func81, Try.ntmps81
    go_wp2
    go_ret
    exact ⟨zs, c, ret_sl HN.out.symm, by have := HN.out; omega, HP.out, fun z => Iff.rfl, hrow, Turn.refl _ _⟩
  · clear hn hso
    go_enter Try.func81, Try.ntmps81
    go_wp2
    go_loopw [3] (fun i wr => ∃ (k : Nat), 1 ≤ k ∧ k ≤ n ∧ i = .int .i64 k ∧ (zs.take k).Pairwise (· < ·) ∧ IntRow wr g zs ∧ Turn (fun k => k = g) w wr) (fun i _ => n - (intOf i).toNat)
    case atStart => exact ⟨1, by omega, by omega, rfl, by match zs with | [] => simp | x :: r => simp, hrow, Turn.refl _ _⟩
    case round =>
      clear hrow
      obtain ⟨k, hk1, hk2, rfl, hri, hrw, htn⟩ := hrel
      have HRI : Hid ((zs.take k).Pairwise (· < ·)) := hri
      clear hri
      by_cases hlt : k < n
      · obtain ⟨k', rfl⟩ : ∃ k', k = k' + 1 := ⟨k - 1, by omega⟩
        have hkl : k' + 1 < zs.length := by rw [HN.out]; exact hlt
        have cc1 := hrw.cell hkl
        have cc0 := hrw.cell (show k' < zs.length by omega)
        obtain ⟨x1, hx1⟩ : ∃ x, x = zs[k' + 1] := ⟨_, rfl⟩
        obtain ⟨x0, hx0⟩ : ∃ x, x = zs[k'] := ⟨_, rfl⟩
        rw [← hx1] at cc1
        rw [← hx0] at cc0
        have HX : Hid (x1 = zs[k' + 1] ∧ x0 = zs[k']) := ⟨hx1, hx0⟩
        have hle : x0 ≤ x1 := by rw [hx0, hx1]; exact HSO.out k' (k' + 1) (by omega) hkl (by omega)
        have j1 : (k' : Int) + 1 < n := by omega
        have j0 : (k' : Int) < n := by omega
        have jz : (0 : Int) ≤ (k' : Int) + 1 := by omega
        have jw2 : IntKind.i64.wrap (k' : Int) = (k' : Int) := by rw [IntKind.wrap_i64]; omega
        by_cases he : x1 = x0
        · have hd : (x1 == x0) = true := by simpa using he
          have HCo : Hid (Comp zs zs (k' + 1) (k' + 1 + 1)) := Comp.first (by omega) hkl HRI.out (by simp only [Nat.add_sub_cancel]; rw [← hx1, ← hx0]; exact he)
          have hck : ¬ c = k' + 1 := by omega
          have jc : (k' : Int) + 1 ≤ n := by omega
          have jn : (n : Int) ≤ c := by omega
          clear hx1 hx0 he hle
          go_wp2
          go_quiet (fail)
          go_wp2_with fail
          go_loopw [3, 5] (fun kv qv wr2 => ∃ (k q : Nat) (ys : List Int), 1 ≤ q ∧ q ≤ n - (k' + 1) ∧ kv = .int .i64 k ∧ qv = .int .i64 q ∧ Comp zs ys k (k' + 1 + q) ∧ IntRow wr2 g ys ∧ Turn (fun k => k = g) w wr2) (fun _ qv _ => n - (intOf qv).toNat)
          case atStart => exact ⟨k' + 1, 1, zs, by omega, by omega, rfl, rfl, HCo.out, hrw.keep rfl, ⟨htn.os, htn.tape, htn.output, htn.size, htn.block⟩⟩
          case round =>
            clear hrw htn HCo HX cc0 cc1
            obtain ⟨k, q, ys, hq1, hq2, rfl, rfl, hco, hrw, htn⟩ := hrel
            have HCo : Hid (Comp zs ys k (k' + 1 + q)) := hco
            have hk0 := hco.k0
            have hkq := hco.kq
            have hyl : ys.length = n := by rw [hco.len, HN.out]
            have HYL : Hid (ys.length = n) := hyl
            by_cases hql : q < n - (k' + 1)
            · obtain ⟨q', rfl⟩ : ∃ q', q = q' + 1 := ⟨q - 1, by omega⟩
              have hzl : k' + 1 + (q' + 1) < zs.length := by rw [HN.out]; omega
              have e1 := hco.same (k' + 1 + (q' + 1)) hzl (by omega)
              have e0 := hco.same (k' + 1 + q') (by omega) (by omega)
              have cc1 := hrw.cell (show k' + 1 + (q' + 1) < ys.length by omega)
              have cc0 := hrw.cell (show k' + 1 + q' < ys.length by omega)
              rw [e1] at cc1
              rw [e0] at cc0
              have ff := hrw.free k
              have ck := hrw.cell (show k < ys.length by omega)
              obtain ⟨x1, hx1⟩ : ∃ x, x = zs[k' + 1 + (q' + 1)] := ⟨_, rfl⟩
              obtain ⟨x0, hx0⟩ : ∃ x, x = zs[k' + 1 + q'] := ⟨_, rfl⟩
              rw [← hx1] at cc1
              rw [← hx0] at cc0
              obtain ⟨xk, hxk⟩ : ∃ x, x = ys[k] := ⟨_, rfl⟩
              rw [← hxk] at ck
              have hle : x0 ≤ x1 := by rw [hx0, hx1]; exact HSO.out _ _ (by omega) hzl (by omega)
              have i1 : (q' : Int) + 1 < ((n - (k' + 1) : Nat) : Int) := by omega
              have i2 : (q' : Int) < ((n - (k' + 1) : Nat) : Int) := by omega
              have i3 : (0 : Int) ≤ (q' : Int) + 1 := by omega
              have i4 : IntKind.i64.wrap (q' : Int) = (q' : Int) := by rw [IntKind.wrap_i64]; omega
              have i5 : (k : Int) < n := by omega
              have i6 : (0 : Int) ≤ (k : Int) := by omega
              by_cases he : x1 = x0
              · have hd : (x1 != x0) = false := by simpa using he
                have HS : Hid (Comp zs ys k (k' + 1 + (q' + 1 + 1))) := hco.skip hzl (by simp only [← Nat.add_assoc, Nat.add_sub_cancel]; simp only [← Nat.add_assoc] at hx1; rw [← hx1, ← hx0]; exact he)
                clear hx1 hx0 hxk he hle hco e1 e0 hyl
                go_wp2
                go_quiet (fail)
                go_wp2
                go_roundw
                case rel => exact ⟨k, q' + 1 + 1, ys, by omega, by omega, rfl, by go_num, HS.out, hrw.keep rfl, ⟨htn.os, htn.tape, htn.output, htn.size, htn.block⟩⟩
                case measure => simp [intOf]; omega
              · have hd : (x1 != x0) = true := by simpa using he
                have HS : Hid (Comp zs (ys.set k x1) (k + 1) (k' + 1 + (q' + 1 + 1))) := by
                  have := hco.take hzl (by simp only [← Nat.add_assoc, Nat.add_sub_cancel]; simp only [← Nat.add_assoc] at hx1; rw [← hx1, ← hx0]; omega)
                  rw [← hx1] at this; exact this
                clear hx1 hx0 hxk he hle hco e1 e0 hyl
                go_wp2
                go_quiet (fail)
                go_wp2
                have hr2 : IntRow ((wr.drewN nq).setCell ⟨g, k, none⟩ (.int .i64 x1)) g (ys.set k x1) := IntRow.set (W := wr.drewN nq) (hrw.keep rfl) (by have := HYL.out; omega) x1
                have ht2 : Turn (fun k => k = g) w ((wr.drewN nq).setCell ⟨g, k, none⟩ (.int .i64 x1)) := Turn.trans (B := wr.drewN nq) ⟨htn.os, htn.tape, htn.output, htn.size, htn.block⟩ (setCell_turn _ _ _ _) (fun _ _ e => e)
                go_roundw
                case rel => exact ⟨k + 1, q' + 1 + 1, ys.set k x1, by omega, by omega, by go_num, by go_num, HS.out, hr2, ht2⟩
                case measure => simp [intOf]; omega
            · have hqe : k' + 1 + q = n := by omega
              have hclear : ∀ ty, (Builtin.clear_ #[45] ty #[.slice (some ⟨g, k, none⟩) (n - k) (c - k)]).run Try.prog wr = .ok (.tuple #[]) (wr.setCells g k (List.replicate (n - k) (.int .i64 0))) := fun ty =>
                Lib.run_clear_slice wr 45 3 ty (.int .i64 0) Try.underlying45 zero3 rfl rfl g k (n - k) (c - k) (by omega) (fun j hj => by rw [hrw.cell (show k + j < ys.length by omega)]; rfl) (fun j hj => hrw.free _)
              have hck2 : ¬ c = k := by omega
              have i5 : (k : Int) ≤ n := by omega
              have i6 : (0 : Int) ≤ (k : Int) := by omega
              have i7 : (k : Int) ≤ c := by omega
              have hr2 : IntRow (wr.setCells g k (List.replicate (n - k) (.int .i64 0))) g (ys.take k) := IntRow.outs _ k (hrw.take k) (by rw [List.length_take]; omega)
              have ht2 : Turn (fun k => k = g) w (wr.setCells g k (List.replicate (n - k) (.int .i64 0))) := htn.trans (setCells_turn g _ _ _) (fun _ _ e => e)
              have HR2 := hidIt (And.intro hr2 ht2)
              clear hr2 ht2 hco hyl
              go_wp2
              go_ret
              have hco := HCo.out
              exact ⟨ys.take k, c, ret_sl (by rw [List.length_take, HYL.out]; omega), by rw [List.length_take, HYL.out]; omega, hco.rise, fun z => by rw [hco.mem, List.take_of_length_le (by rw [HN.out]; omega)], HR2.out.1, HR2.out.2⟩
        · have hd : (x1 == x0) = false := by simpa using he
          have HNx : Hid ((zs.take (k' + 1 + 1)).Pairwise (· < ·)) := by
            show (zs.take (k' + 1 + 1)).Pairwise (· < ·)
            rw [List.take_succ_eq_append_getElem hkl, List.pairwise_append]
            refine ⟨HRI.out, by simp, fun a ha b hb => ?_⟩
            rw [List.mem_singleton] at hb; subst hb
            have h3 := take_lt HRI.out (by omega) (by omega) a ha
            simp only [Nat.add_sub_cancel] at h3
            rw [← hx0] at h3; rw [← hx1]; omega
          clear hx1 hx0 he hle
          go_wp2
          go_quiet (fail)
          go_wp2
          go_roundw
          case rel => exact ⟨k' + 1 + 1, by omega, by omega, by go_num, HNx.out, hrw.keep rfl, ⟨htn.os, htn.tape, htn.output, htn.size, htn.block⟩⟩
          case measure => simp [intOf]; omega
      · have hkn : k = n := by omega
        have HP : Hid (zs.Pairwise (· < ·)) := by have := HRI.out; rw [List.take_of_length_le (by rw [HN.out]; omega)] at this; exact this
        go_wp2
        go_ret
        exact ⟨zs, c, ret_sl HN.out.symm, by have := HN.out; omega, HP.out, fun z => Iff.rfl, hrw, htn⟩

set_option maxHeartbeats 1000000 in
theorem ins_none (a : Option Addr) (c : Nat) (w : World) : Calls Try.prog 126 #[.slice a 0 c, .int .i64 0, .int .i64 0] w fun e w' => (∃ v, e = .returned v) ∧ w' = w := by
  go_enter Try.func126, Try.ntmps126
  go_wp2
  go_loopw [6, 7] (fun i _ wr => i = .int .i64 1 ∧ wr = w) (fun _ _ _ => 0)
  case atStart => exact ⟨rfl, rfl⟩
  case round =>
    obtain ⟨rfl, rfl⟩ := hrel
    go_wp2
    go_end0
    exact ⟨⟨_, rfl⟩, rfl⟩
set_option maxHeartbeats 1000000 in
theorem pdq_none (a : Option Addr) (c : Nat) (k : Int) (w : World) : Calls Try.prog 114 #[.slice a 0 c, .int .i64 0, .int .i64 0, .int .i64 k] w fun e w' => (∃ v, e = .returned v) ∧ w' = w := by
  go_enter Try.func114, Try.ntmps114
  go_wp2_with fail
  go_loopw [1, 2] (fun x y wr => x = .int .i64 0 ∧ y = .int .i64 0 ∧ wr = w) (fun _ _ _ => 0)
  case atStart => exact ⟨rfl, rfl, rfl⟩
  case round =>
    obtain ⟨rfl, rfl, rfl⟩ := hrel
    go_wp2_with fail
    refine (ins_none _ _ _).mono ?_
    rintro e w2 ⟨⟨u, rfl⟩, rfl⟩
    go_wp2_with fail
    refine bodyPost_ret (results_none rfl _ _ _) rfl ?_
    exact ⟨⟨_, rfl⟩, rfl⟩
set_option maxHeartbeats 1000000 in
theorem sort_none (a : Option Addr) (c : Nat) (w : World) : Calls Try.prog 79 #[.slice a 0 c] w fun e w' => (∃ v, e = .returned v) ∧ w' = w := by
  go_enter Try.func79, Try.ntmps79
  go_wp2_with fail
  refine (len_any 0 _ (by omega)).mono ?_
  rintro e w2 ⟨⟨k, rfl⟩, rfl⟩
  go_wp2_with fail
  refine (pdq_none _ _ _ _).mono ?_
  rintro e w3 ⟨⟨u, rfl⟩, rfl⟩
  go_wp2_with fail
  go_end0
  exact ⟨⟨_, rfl⟩, rfl⟩
set_option maxHeartbeats 1000000 in
theorem compact_none (a : Option Addr) (c : Nat) (w : World) : Calls Try.prog 81 #[.slice a 0 c] w fun e w' => e = .returned (.slice a 0 c) ∧ w' = w := by
  go_enter Try.func81, Try.ntmps81
  go_wp2
  go_ret
  exact ⟨rfl, rfl⟩
end Go.Proofs.Ythhkpgnjpieckaa
