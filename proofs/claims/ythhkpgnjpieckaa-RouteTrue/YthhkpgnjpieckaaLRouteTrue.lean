/- The walk of the law RouteTrue. -/
import Derived.Deep.RegionHeld3
import Derived.Test.YthhkpgnjpieckaaSe
import Derived.Test.YthhkpgnjpieckaaHk
namespace Go.Proofs.Ythhkpgnjpieckaa
set_option linter.unusedVariables false
set_option maxRecDepth 100000
open Go.RowKit Go.Maps

theorem take_mem_succ {zs : List Int} {k : Nat} {q : Int} (h : k < zs.length) : decide (q ∈ zs.take (k + 1)) = (decide (q ∈ zs.take k) || (zs[k] == q)) := by
  rw [List.take_succ_eq_append_getElem h, Bool.eq_iff_iff]
  simp only [decide_eq_true_eq, Bool.or_eq_true, beq_iff_eq, List.mem_append, List.mem_singleton]
  exact or_congr Iff.rfl eq_comm

theorem new_cell (W : World) (m : Nat) (cs : Array Value) (t : TypeId) (i : Nat) : ((W.drewN m).alloc (.cells cs t)).cell? ⟨W.heap.size, i, none⟩ = cs[i]? := cell_of_cells (World.alloc_heap_new (W.drewN m) (.cells cs t)) i
theorem new_free (W : World) (m : Nat) (cs : Array Value) (t : TypeId) (i : Nat) : ((W.drewN m).alloc (.cells cs t)).frozen? ⟨W.heap.size, i, none⟩ = false := free_of_cells (World.alloc_heap_new (W.drewN m) (.cells cs t)) i

theorem bind_made (wr : World) (m : Nat) (x y : Int) (b : Bool) (pt : ByteArray) {W6 : World} (h : ((((((wr.drewN m).alloc (.cells #[.int .i64 0, .bool false, .int .i64 0, .string ⟨#[]⟩] 55)).setCell ⟨wr.heap.size, 0, none⟩ (.int .i64 x)).setCell ⟨wr.heap.size, 1, none⟩ (.bool b)).setCell ⟨wr.heap.size, 2, none⟩ (.int .i64 y)).setCell ⟨wr.heap.size, 3, none⟩ (.string pt)) = W6) :
    Below wr.heap.size wr W6 ∧ W6.heap[wr.heap.size]? = some (.cells #[.int .i64 x, .bool b, .int .i64 y, .string pt] 55 (0, 0)) := by
  subst h
  have h0 : ((wr.drewN m).alloc (.cells #[.int .i64 0, .bool false, .int .i64 0, .string ⟨#[]⟩] 55)).heap[wr.heap.size]? = some (.cells #[.int .i64 0, .bool false, .int .i64 0, .string ⟨#[]⟩] 55 (0, 0)) := World.alloc_heap_new (wr.drewN m) (.cells #[.int .i64 0, .bool false, .int .i64 0, .string ⟨#[]⟩] 55)
  refine ⟨?_, setCell_block (setCell_block (setCell_block (setCell_block h0 _) _) _) _⟩
  have hb : Below wr.heap.size wr ((wr.drewN m).alloc (.cells #[.int .i64 0, .bool false, .int .i64 0, .string ⟨#[]⟩] 55)) := (below_drewN2 (Below.refl _ _)).alloc (by simp) _
  exact (((hb.setCell (Nat.le_refl _) _).setCell (Nat.le_refl _) _).setCell (Nat.le_refl _) _).setCell (Nat.le_refl _) _

set_option maxRecDepth 100000 in
set_option maxHeartbeats 1000000 in
theorem walk_RouteTrue (p : PlanD) (a1 a2 a3 : Option Addr) (n1 c1 n2 c2 n3 c3 : Nat) (v : Int) (key : ByteArray) (q : Int) (w : World) (hp : PlanAt w a1 a2 a3 n1 n2 n3 p) :
    Calls Try.prog 11 #[.agg #[.slice a1 n1 c1, .slice a2 n2 c2, .slice a3 n3 c3], .int .i64 v, .string key, .int .i64 q] w fun e w' => e = .returned (.bool true) ∧ Below w.heap.size w w' := by
  obtain ⟨W1, hW1, hBw, hs1, hbx⟩ := plan_boxed w (.slice a1 n1 c1) (.slice a2 n2 c2) (.slice a3 n3 c3) 40
  have HP1 : Hid (PlanAt W1 a1 a2 a3 n1 n2 n3 p) := hp.keep hBw
  have BX : Hid (∀ W, Below W1.heap.size W1 W → W.cell? ⟨w.heap.size, 0, none⟩ = some (.slice a1 n1 c1) ∧ W.cell? ⟨w.heap.size, 1, none⟩ = some (.slice a2 n2 c2) ∧ W.cell? ⟨w.heap.size, 2, none⟩ = some (.slice a3 n3 c3)) := hbx
  have s0 := hBw.size
  have HS1 : Hid (W1.heap.size = w.heap.size + 1) := hs1
  have HW1 : Hid (W1 = _) := hW1
  clear hp hbx hs1 hW1
  go_enter Try.func11, Try.ntmps11
  go_wp2_with fail
  rw [← HW1.out]
  refine (way_any p _ _ _ _ _ _ _ _ _ v key q _ HP1.out).mono ?_
  rintro e w2 ⟨ns, is, u, rfl, hw1, hw2, hrow, hB2⟩
  obtain ⟨d, hd⟩ : ∃ d, d = wayE p v key q := ⟨_, rfl⟩
  rw [← hd] at hw1 hw2 ⊢
  have HD : Hid (d = wayE p v key q) := hd
  have HWY := hidIt (And.intro hw1 (And.intro hw2 hrow))
  obtain ⟨d0, d1, d2⟩ := BX.out w2 hB2
  clear hw1 hw2 hrow hd
  go_wp2_with fail
  refine (queues_any p _ _ _ _ _ _ _ _ _ v key _ (HP1.out.keep hB2)).mono ?_
  rintro e w3 ⟨zs, az, cz, rfl, hz1, hz2, hz3, hz4, hB3⟩
  obtain ⟨f, hf⟩ : ∃ f, f = rtE p v key := ⟨_, rfl⟩
  rw [← hf] at hz1 hz2 ⊢
  have HF : Hid (f = rtE p v key) := hf
  have HZ := hidIt (And.intro hz1 (And.intro hz3 hz4))
  have k3 : Below W1.heap.size W1 w3 := hB2.trans (hB3.mono hB2.size)
  have HB3 := hidIt hB3
  clear d0 d1 d2 hz1 hz2 hz3 hz4 hf hB3
  obtain ⟨d0, d1, d2⟩ := BX.out w3 k3
  go_wp2_with fail
  refine (posts_any p _ _ _ _ _ _ _ _ _ v key _ (HP1.out.keep k3)).mono ?_
  rintro e w4 ⟨ps, ap, cp, rfl, hy1, hy2, hy3, hy4, hB4⟩
  rw [← HF.out] at hy1 hy2 ⊢
  have HY := hidIt (And.intro hy1 (And.intro hy3 hy4))
  have k4 : Below W1.heap.size W1 w4 := k3.trans (hB4.mono k3.size)
  have HB4 := hidIt hB4
  clear d0 d1 d2 hy1 hy2 hy3 hy4 hB4
  by_cases hd0 : d = 0
  · have hf0 : f = 0 := by
      rw [HF.out]
      by_cases h : rtE p v key = 0
      · exact h
      · have := HD.out; unfold wayE at this; rw [if_neg h] at this; exact absurd (this.symm.trans hd0) h
    have HRT : Hid (rtE p v key = 0) := HF.out.symm.trans hf0
    have HWE : Hid (wayE p v key q = 0) := HD.out.symm.trans hd0
    subst hd0 hf0
    clear HF HD
    obtain ⟨m, hm⟩ : ∃ m, m = zs.length := ⟨_, rfl⟩
    rw [← hm]
    have HM : Hid (m = zs.length) := hm
    obtain ⟨mp, hmp⟩ : ∃ mp, mp = ps.length := ⟨_, rfl⟩
    rw [← hmp]
    have HMP : Hid (mp = ps.length) := hmp
    have hm12 : m ≤ 12 := by rw [HM.out]; exact HZ.out.2.1
    have hmp12 : mp ≤ 12 := by rw [HMP.out]; exact HY.out.2.1
    clear hm hmp
    have HZI : Hid (IntsAt w4 az zs) := HZ.out.2.2.keep HB4.out
    have HQ : Hid (QueuesIs p key v.toNat zs) := HZ.out.1 rfl
    have HPO : Hid (PostsIs p key v.toNat ps) := HY.out.1 rfl
    have s4 := k4.size
    go_wp2_with fail
    go_loopw [16, 17] (fun c i wr => ∃ (k : Nat), k ≤ m ∧ i = .int .i64 k ∧ c = .bool (decide (q ∈ zs.take k)) ∧ Below w4.heap.size w4 wr) (fun _ i _ => m - (intOf i).toNat)
    case atStart => exact ⟨0, Nat.zero_le _, rfl, by simp, Below.refl _ _⟩
    case round =>
      obtain ⟨k, hk, rfl, rfl, hB⟩ := hrel
      by_cases hlt : k < m
      · have hkl : k < zs.length := by rw [← HM.out]; exact hlt
        rcases HZI.out with h | ⟨g, rfl, hg, hx⟩
        · rw [h] at hkl; simp at hkl
        have e1 := (hB.cell (p := ⟨g, k, none⟩) hg).trans (hx k hkl)
        obtain ⟨z, hz⟩ : ∃ z, z = zs[k] := ⟨_, rfl⟩
        rw [← hz] at e1
        have HZK : Hid (z = zs[k]) := hz
        obtain ⟨cm, hcm⟩ : ∃ cm, cm = decide (q ∈ zs.take k) := ⟨_, rfl⟩
        rw [← hcm]
        have HCM : Hid (cm = decide (q ∈ zs.take k)) := hcm
        have j1 : (0 : Int) ≤ (k : Int) := by omega
        have j2 : (k : Int) < m := by omega
        have hg' : g < wr.heap.size := Nat.lt_of_lt_of_le hg hB.size
        clear hz hcm
        by_cases hk0 : k = 0
        · have j3 : decide ((0 : Int) < (k : Int)) = false := by simp; omega
          subst hk0
          clear hx
          cases cm with
          | true =>
            go_wp2_with fail
            go_quiet (fail)
            go_wp2_with fail
            go_roundw
            case rel => exact ⟨0 + 1, by omega, by go_num, by rw [take_mem_succ hkl, ← HCM.out]; rfl, below_drewN2 hB⟩
            case measure => simp [intOf]; omega
          | false =>
            go_wp2_with fail
            go_quiet (fail)
            go_wp2_with fail
            go_roundw
            case rel => exact ⟨0 + 1, by omega, by go_num, by rw [take_mem_succ hkl, ← HCM.out, ← HZK.out]; rfl, below_drewN2 hB⟩
            case measure => simp [intOf]; omega
        · have j3 : decide ((0 : Int) < (k : Int)) = true := by simp; omega
          have j4 : IntKind.i64.wrap ((k : Int) - 1) = ((k - 1 : Nat) : Int) := by rw [show (k : Int) - 1 = ((k - 1 : Nat) : Int) by omega]; rw [IntKind.wrap_i64]; omega
          have hkl' : k - 1 < zs.length := by omega
          have e2 := (hB.cell (p := ⟨g, k - 1, none⟩) hg).trans (hx (k - 1) hkl')
          obtain ⟨z', hz'⟩ : ∃ z', z' = zs[k - 1] := ⟨_, rfl⟩
          rw [← hz'] at e2
          have j5 : decide (z ≤ z') = false := by
            have := List.pairwise_iff_getElem.1 HQ.out.rise (k - 1) k hkl' hkl (by omega)
            rw [← hz', ← HZK.out] at this
            simp; omega
          have j6 : (0 : Int) ≤ ((k - 1 : Nat) : Int) := by omega
          have j7 : ((k - 1 : Nat) : Int) < m := by omega
          have j8 : decide (0 < k) = true := by simp; omega
          have j9 : (0 : Int) < (k : Int) := by omega
          have j10 : 0 < k := by omega
          clear hz' hk0 hx hkl'
          cases cm with
          | true =>
            go_wp2_with fail
            go_quiet (fail)
            go_wp2_with fail
            go_roundw
            case rel => exact ⟨k + 1, by omega, by go_num, by rw [take_mem_succ hkl, ← HCM.out]; rfl, below_drewN2 hB⟩
            case measure => simp [intOf]; omega
          | false =>
            go_wp2_with fail
            go_quiet (fail)
            go_wp2_with fail
            go_roundw
            case rel => exact ⟨k + 1, by omega, by go_num, by rw [take_mem_succ hkl, ← HCM.out, ← HZK.out]; rfl, below_drewN2 hB⟩
            case measure => simp [intOf]; omega
      · have hke : k = m := by omega
        subst hke
        have hcm : decide (q ∈ zs.take k) = is := by
          rw [HM.out, List.take_length]
          cases is with
          | true => exact decide_eq_true ((comes_iff HQ.out).2 ⟨_, (HWY.out.1 rfl).2.way⟩)
          | false => exact decide_eq_false (fun h => by obtain ⟨t, ht⟩ := (comes_iff HQ.out).1 h; exact (HWY.out.2.1 rfl).2 trivial t ht)
        rw [hcm]
        clear hcm hlt hk
        have kr : Below W1.heap.size W1 wr := k4.trans (hB.mono s4)
        cases is with
        | false =>
          go_wp2_with fail
          refine (routeBegun_any _).mono ?_
          rintro e w5 ⟨rfl, hB5⟩
          go_wp2_with fail
          go_ret
          exact ⟨rfl, hBw.trans ((kr.trans (hB5.mono kr.size)).mono s0)⟩
        | true =>
          obtain ⟨z1, z2, z3, z4⟩ := rt_zero HRT.out
          have HRP : Hid (RightP p) := chk_right z1
          obtain ⟨st1, st2, st3⟩ := way_stops HRP.out z3 (HWY.out.1 rfl).2.way
          have HST := hidIt (And.intro st1 st2)
          have hfew := (HWY.out.1 rfl).2.few
          have hf4 := HRP.out.few.1
          have hrow := HWY.out.2.2
          rw [natV_ints] at hrow
          obtain ⟨g, c, rfl, hgb, hlc, hcm, hIR⟩ := row_ints hrow (by intro h; simp at h; rw [h] at st3; simp at st3)
          obtain ⟨L, hL⟩ : ∃ L, L = (ns.map (fun n : Nat => (n : Int))).length := ⟨_, rfl⟩
          rw [← hL]
          have hL' : L = ns.length := by rw [hL, List.length_map]
          have HL : Hid (L = ns.length) := hL'
          have HNS : Hid (g < w2.heap.size ∧ ∀ W, Below w2.heap.size w2 W → ∀ k, k < L → W.cell? ⟨g, k, none⟩ = some (.int .i64 ((ns.getD k 0 : Nat) : Int))) := by
            refine ⟨hIR.lt, fun W hW k hk => ?_⟩
            have hk' : k < (ns.map (fun n : Nat => (n : Int))).length := by rw [← hL]; exact hk
            have hk2 : k < ns.length := by rw [← hL']; exact hk
            rw [hW.cell (p := ⟨g, k, none⟩) hIR.lt, hIR.cell hk', List.getElem_map, List.getD_eq_getElem?_getD, List.getElem?_eq_getElem hk2, Option.getD_some]
          have HL4 : Hid (L ≤ 4 ∧ 0 < L) := ⟨by rw [hL']; omega, by rw [hL']; exact st3⟩
          have kr2 : Below w2.heap.size w2 wr := HB3.out.trans ((HB4.out.trans (hB.mono HB4.out.size)).mono HB3.out.size)
          have HV : Hid (0 ≤ v) := z3
          have HNB : Hid (p.binds.length = n3) := HP1.out.l3
          have HK : Hid (kerr key.data.toList = 0 ∧ chkP p = 0) := ⟨z2, z1⟩
          clear st1 st2 st3 hfew hf4 hrow hgb hlc hcm hIR hL hL' z1 z2 z3 z4
          go_wp2_with fail
          go_loopw [18, 19, 20, 21, 22, 23, 24, 25] (fun at' i _ _ _ _ _ _ wr => ∃ (k : Nat), k ≤ L ∧ i = .int .i64 k ∧ at' = .int .i64 (atk p v ns k) ∧ Below W1.heap.size W1 wr ∧ Below w2.heap.size w2 wr ∧ Below w4.heap.size w4 wr) (fun _ i _ _ _ _ _ _ _ => L - (intOf i).toNat)
          case atStart => exact ⟨0, Nat.zero_le _, rfl, rfl, kr, kr2, hB⟩
          case round =>
            obtain ⟨k, hk, rfl, rfl, q1, q2, q3⟩ := hrel
            by_cases hlt : k < L
            · have HLT := hidIt hlt
              obtain ⟨b1, b2, b3, b4, b5, b6⟩ := HST.out.1 k (by rw [← HL.out]; exact hlt)
              have e1 := HNS.out.2 wr q2 k hlt
              have hgl : g < wr.heap.size := Nat.lt_of_lt_of_le HNS.out.1 q2.size
              obtain ⟨n, hn⟩ : ∃ n, n = ns.getD k 0 := ⟨_, rfl⟩
              rw [← hn] at b1 b2 b3 b4 e1
              have HN : Hid (n = ns.getD k 0) := hn
              obtain ⟨x, hx⟩ : ∃ x, x = atk p v ns k := ⟨_, rfl⟩
              rw [← hx] at b4 b5 b6 ⊢
              have HX : Hid (x = atk p v ns k) := hx
              have HMX : Hid (x ∈ ps) := by
                rw [HPO.out.mem]; obtain ⟨s, hs⟩ := b6
                exact ⟨x.toNat, by omega, s, hs⟩
              have hfit : fitE p n key = 0 ∧ fitB p n key = true := by
                have : fitE p n key = 0 := by
                  unfold fitE; rw [if_pos HK.out.2, if_pos (isNum_iff.2 ⟨by omega, by omega⟩)]; exact HK.out.1
                refine ⟨this, ?_⟩
                unfold fitB; rw [if_pos this]; exact b2
              have HFIT : Hid (∀ W, Below W1.heap.size W1 W → Calls Try.prog 31 #[.agg #[.slice a1 n1 c1, .slice a2 n2 c2, .slice a3 n3 c3], .int .i64 n, .string key] W fun e w' => e = .returned (.tuple #[.bool true, .int .i64 0]) ∧ Below W.heap.size W w') := fun W hW => by
                have := fits_any p a1 a2 a3 n1 c1 n2 c2 n3 c3 n key W (HP1.out.keep hW)
                rw [hfit.1, hfit.2] at this; exact this
              rcases HP1.out.p3 with h | ⟨gb, o, rfl, hgb, hbc⟩
              · rw [h] at b1; exact absurd b1 (by simp)
              obtain ⟨m0, m1, m2, m3⟩ := hbc n b1
              rw [← bAt_get b1] at m0 m1 m2 m3
              obtain ⟨B, hBd⟩ : ∃ B, B = bAt p n := ⟨_, rfl⟩
              rw [← hBd] at b3 b4 m0 m1 m2 m3
              have HBD : Hid (B = bAt p n) := hBd
              have hgb' : gb < wr.heap.size := Nat.lt_of_lt_of_le hgb q1.size
              have r0 := (q1.cell (p := ⟨gb, o + n * 4, none⟩) hgb).trans m0
              have r1 := (q1.cell (p := ⟨gb, o + n * 4 + 1, none⟩) hgb).trans m1
              have r2 := (q1.cell (p := ⟨gb, o + n * 4 + 2, none⟩) hgb).trans m2
              have r3 := (q1.cell (p := ⟨gb, o + n * 4 + 3, none⟩) hgb).trans m3
              rw [b4] at r0
              rw [b3] at r1
              obtain ⟨y, hy⟩ : ∃ y, y = B.dst := ⟨_, rfl⟩
              obtain ⟨pt, hpt⟩ : ∃ pt, pt = B.pat := ⟨_, rfl⟩
              rw [← hy] at r2
              rw [← hpt] at r3
              have HYD : Hid (y = B.dst) := hy
              obtain ⟨d0, d1, d2⟩ := BX.out wr q1
              have hsw : w.heap.size < wr.heap.size := by have := HS1.out; have := q1.size; omega
              have i1 : (0 : Int) ≤ (k : Int) := by omega
              have i2 : (k : Int) < L := by omega
              have i3 : decide ((n : Int) < 0) = false := decide_eq_false (by omega)
              have i4 : decide ((n3 : Int) ≤ (n : Int)) = false := decide_eq_false (by have := HNB.out; omega)
              have i5 : (0 : Int) ≤ (n : Int) := by omega
              have i6 : (n : Int) < (n3 : Int) := by have := HNB.out; omega
              have i7 : decide (n3 ≤ n) = false := decide_eq_false (by have := HNB.out; omega)
              clear hn hx hy hpt hBd b1 b2 b3 b4 b5 b6 hfit hbc m0 m1 m2 m3
              go_wp2_with fail
              go_quiet (fail)
              go_wp2_with fail
              have BA : Hid (∀ m o, Below wr.heap.size wr ((wr.drewN m).alloc o)) := fun m o => (below_drewN2 (Below.refl _ _)).alloc (by simp) o
              have E1 : ∀ m o, ((wr.drewN m).alloc o).cell? ⟨g, k, none⟩ = some (.int .i64 n) := fun m o => ((BA.out m o).cell (p := ⟨g, k, none⟩) hgl).trans e1
              have E2 : ∀ m o', ((wr.drewN m).alloc o').cell? ⟨w.heap.size, 2, none⟩ = some (.slice (some ⟨gb, o, none⟩) n3 c3) := fun m o' => ((BA.out m o').cell (p := ⟨w.heap.size, 2, none⟩) hsw).trans d2
              have E3 : ∀ m o', ((wr.drewN m).alloc o').cell? ⟨gb, o + n * 4, none⟩ = some _ := fun m o' => ((BA.out m o').cell (p := ⟨gb, o + n * 4, none⟩) hgb').trans r0
              have E4 : ∀ m o', ((wr.drewN m).alloc o').cell? ⟨gb, o + n * 4 + 1, none⟩ = some _ := fun m o' => ((BA.out m o').cell (p := ⟨gb, o + n * 4 + 1, none⟩) hgb').trans r1
              have E5 : ∀ m o', ((wr.drewN m).alloc o').cell? ⟨gb, o + n * 4 + 2, none⟩ = some _ := fun m o' => ((BA.out m o').cell (p := ⟨gb, o + n * 4 + 2, none⟩) hgb').trans r2
              have E6 : ∀ m o', ((wr.drewN m).alloc o').cell? ⟨gb, o + n * 4 + 3, none⟩ = some _ := fun m o' => ((BA.out m o').cell (p := ⟨gb, o + n * 4 + 3, none⟩) hgb').trans r3
              have N0 : ∀ m, ((wr.drewN m).alloc (.cells #[.int .i64 0, .bool false, .int .i64 0, .string ⟨#[]⟩] 55)).cell? ⟨wr.heap.size, 0, none⟩ = some (.int .i64 0) := fun m => (new_cell wr m _ _ 0)
              have M0 : ∀ m, ((wr.drewN m).alloc (.cells #[.int .i64 0, .bool false, .int .i64 0, .string ⟨#[]⟩] 55)).frozen? ⟨wr.heap.size, 0, none⟩ = false := fun m => (new_free wr m _ _ 0)
              have N1 : ∀ m, ((wr.drewN m).alloc (.cells #[.int .i64 0, .bool false, .int .i64 0, .string ⟨#[]⟩] 55)).cell? ⟨wr.heap.size, 1, none⟩ = some (.bool false) := fun m => (new_cell wr m _ _ 1)
              have M1 : ∀ m, ((wr.drewN m).alloc (.cells #[.int .i64 0, .bool false, .int .i64 0, .string ⟨#[]⟩] 55)).frozen? ⟨wr.heap.size, 1, none⟩ = false := fun m => (new_free wr m _ _ 1)
              have N2 : ∀ m, ((wr.drewN m).alloc (.cells #[.int .i64 0, .bool false, .int .i64 0, .string ⟨#[]⟩] 55)).cell? ⟨wr.heap.size, 2, none⟩ = some (.int .i64 0) := fun m => (new_cell wr m _ _ 2)
              have M2 : ∀ m, ((wr.drewN m).alloc (.cells #[.int .i64 0, .bool false, .int .i64 0, .string ⟨#[]⟩] 55)).frozen? ⟨wr.heap.size, 2, none⟩ = false := fun m => (new_free wr m _ _ 2)
              have N3 : ∀ m, ((wr.drewN m).alloc (.cells #[.int .i64 0, .bool false, .int .i64 0, .string ⟨#[]⟩] 55)).cell? ⟨wr.heap.size, 3, none⟩ = some (.string ⟨#[]⟩) := fun m => (new_cell wr m _ _ 3)
              have M3 : ∀ m, ((wr.drewN m).alloc (.cells #[.int .i64 0, .bool false, .int .i64 0, .string ⟨#[]⟩] 55)).frozen? ⟨wr.heap.size, 3, none⟩ = false := fun m => (new_free wr m _ _ 3)
              go_region
              go_wp2_with fail
              obtain ⟨b, hb⟩ : ∃ b, b = decide (k + 1 = ns.length) := ⟨_, rfl⟩
              rw [← hb]
              have HLB : Hid (b = decide (k + 1 = ns.length)) := hb
              generalize hW6 : World.setCell (World.setCell (World.setCell (World.setCell (World.alloc (World.drewN wr _) _) _ _) _ _) _ _) _ _ = W6
              obtain ⟨hB6, hb6⟩ := bind_made wr _ x y (!b) pt hW6
              have HH6 := hidIt hb6
              have lt6 : wr.heap.size < W6.heap.size := lt_of_heap hb6
              have k6 : Below W1.heap.size W1 W6 := q1.trans (hB6.mono q1.size)
              have k62 : Below w2.heap.size w2 W6 := q2.trans (hB6.mono q2.size)
              have s6 := hB6.size
              clear E1 E2 E3 E4 E5 E6 N0 N1 N2 N3 M0 M1 M2 M3 hW6 hb hb6 d0 d1 d2 e1 r0 r1 r2 r3 BA
              have e1 := HNS.out.2 W6 k62 k hlt
              rw [← HN.out] at e1
              obtain ⟨d0, d1, d2⟩ := BX.out W6 k6
              refine wp_region_held_drew (S := fun w' => w'.cell? ⟨w.heap.size, 0, none⟩ = some (.slice a1 n1 c1) ∧ w'.cell? ⟨w.heap.size, 1, none⟩ = some (.slice a2 n2 c2) ∧ w'.cell? ⟨w.heap.size, 2, none⟩ = some (.slice (some ⟨gb, o, none⟩) n3 c3) ∧ w'.cell? ⟨g, k, none⟩ = some (.int .i64 n)) (by kernel_rfl) ⟨d0, d1, d2, e1⟩ (fun hHeld => ?_)
              refine tk 0 ?_
              refine tk 1 ?_
              refine tk 2 ?_
              refine tk 3 ?_
              refine tk 4 ?_
              refine tk 5 ?_
              refine wpAnyH_ready (rs := [6]) (by kernel_rfl) (by simp) ?_
              refine AllReadyH.cons rfl (fun K hK => ?_) AllReadyH.nil
              go_simp
              refine (HFIT.out _ k6.drew).mono ?_
              rintro e w7 ⟨rfl, hB7'⟩
              have hB7 : Below W6.heap.size W6 w7 := ⟨hB7'.os, hB7'.tape, hB7'.output, hB7'.size, hB7'.block⟩
              have k7 : Below W1.heap.size W1 w7 := k6.trans (hB7.mono k6.size)
              have k72 : Below w2.heap.size w2 w7 := k62.trans (hB7.mono k62.size)
              have e1' := HNS.out.2 w7 k72 k hlt
              rw [← HN.out] at e1'
              obtain ⟨d0', d1', d2'⟩ := BX.out w7 k7
              refine hK.out _ _ ⟨d0', d1', d2', e1'⟩ (fun hHeld2 => ?_)
              clear hHeld
              try simp only [Act.put, List.getElem_toArray, List.getElem_cons_succ, List.getElem_cons_zero, List.setIfInBounds_toArray, List.set_cons_zero, List.set_cons_succ]
              clear hK K
              refine tk 7 ?_
              refine tk 8 ?_
              refine tk 9 ?_
              refine tk 10 ?_
              refine tk 11 ?_
              refine wpAnyH_done (by kernel_rfl) ?_ _
              have k74 : Below w4.heap.size w4 w7 := q3.trans ((hB6.trans (hB7.mono hB6.size)).mono q3.size)
              have HPI : Hid (IntsAt w7 ap ps) := HY.out.2.2.keep k74
              have hb7 := (hB7.block wr.heap.size lt6).trans HH6.out
              obtain ⟨bb, hbb⟩ : ∃ bb, bb = wr.heap.size := ⟨_, rfl⟩
              rw [← hbb] at hb7 ⊢
              have lt7 := lt_of_heap hb7
              have HH7 := hidIt hb7
              clear hHeld2 hbb hb7 d0 d1 d2 d0' d1' d2' e1 e1' hB7' HH6 lt6 s6 k6 k62 hB7 hB6 q1 q2 q3 hgl hsw i3 i4 i5 i6 i7 hgb hgb'
              have s7 := k7.size
              go_wp2_with fail
              go_loopw [23, 24] (fun c i wr => ∃ (j : Nat), j ≤ mp ∧ i = .int .i64 j ∧ c = .bool (decide (x ∈ ps.take j)) ∧ Below w7.heap.size w7 wr) (fun _ i _ => mp - (intOf i).toNat)
              case atStart => exact ⟨0, Nat.zero_le _, rfl, by simp, Below.refl _ _⟩
              case round =>
                obtain ⟨j, hj, rfl, rfl, hBj⟩ := hrel
                by_cases hjl : j < mp
                · have hjl' : j < ps.length := by rw [← HMP.out]; exact hjl
                  rcases HPI.out with h | ⟨gp, rfl, hgp, hxp⟩
                  · rw [h] at hjl'; simp at hjl'
                  have t1 := (hBj.cell (p := ⟨gp, j, none⟩) hgp).trans (hxp j hjl')
                  obtain ⟨z, hz⟩ : ∃ z, z = ps[j] := ⟨_, rfl⟩
                  rw [← hz] at t1
                  have HZJ : Hid (z = ps[j]) := hz
                  obtain ⟨cm, hcm⟩ : ∃ cm, cm = decide (x ∈ ps.take j) := ⟨_, rfl⟩
                  rw [← hcm]
                  have HCM : Hid (cm = decide (x ∈ ps.take j)) := hcm
                  have y1 : (0 : Int) ≤ (j : Int) := by omega
                  have y2 : (j : Int) < mp := by omega
                  clear hz hcm hxp
                  cases cm with
                  | true =>
                    go_wp2_with fail
                    go_roundw
                    case rel => exact ⟨j + 1, by omega, by go_num, by rw [take_mem_succ hjl', ← HCM.out]; rfl, hBj⟩
                    case measure => simp [intOf]; omega
                  | false =>
                    go_wp2_with fail
                    go_roundw
                    case rel => exact ⟨j + 1, by omega, by go_num, by rw [take_mem_succ hjl', ← HCM.out, ← HZJ.out]; rfl, hBj⟩
                    case measure => simp [intOf]; omega
                · have hje : j = mp := by omega
                  subst hje
                  have hcm : decide (x ∈ ps.take j) = true := by
                    rw [HMP.out, List.take_length]; exact decide_eq_true HMX.out
                  rw [hcm]
                  have hb8 := (hBj.block bb lt7).trans HH7.out
                  have x0 := cell_of_cells hb8 0
                  have x1 := cell_of_cells hb8 1
                  have x2 := cell_of_cells hb8 2
                  simp at x0 x1 x2
                  have k8 : Below W1.heap.size W1 wr := k7.trans (hBj.mono s7)
                  have k82 : Below w2.heap.size w2 wr := k72.trans (hBj.mono k72.size)
                  have k84 : Below w4.heap.size w4 wr := k74.trans (hBj.mono k74.size)
                  have jl : IntKind.i64.wrap ((L : Int) - 1) = (L : Int) - 1 := by have := HL4.out; rw [IntKind.wrap_i64]; omega
                  have hbL : b = decide ((k : Int) = (L : Int) - 1) := by
                    rw [HLB.out, ← HL.out]
                    by_cases h : k + 1 = L
                    · rw [decide_eq_true h, decide_eq_true (by omega)]
                    · rw [decide_eq_false h, decide_eq_false (by omega)]
                  have HYA : Hid (y = atk p v ns (k + 1)) := by
                    show y = (bAt p (ns.getD k 0)).dst
                    rw [HYD.out, HBD.out, HN.out]
                  clear hcm hjl hj hb8
                  cases b with
                  | true =>
                    have g1 : decide ((k : Int) = (L : Int) - 1) = true := hbL.symm
                    have g2 : ((k : Int) == (L : Int) - 1) = true := g1
                    clear hbL
                    simp at x1
                    have l1 := HLT.out
                    have l2 := HL4.out.1
                    go_wp2_with fail
                    go_roundw
                    case rel => exact ⟨k + 1, HLT.out, by go_num, by rw [HYA.out], k8, k82, k84⟩
                    case measure => simp [intOf]; omega
                  | false =>
                    have g1 : decide ((k : Int) = (L : Int) - 1) = false := hbL.symm
                    have g2 : ((k : Int) == (L : Int) - 1) = false := g1
                    clear hbL
                    simp at x1
                    have l1 := HLT.out
                    have l2 := HL4.out.1
                    go_wp2_with fail
                    go_roundw
                    case rel => exact ⟨k + 1, HLT.out, by go_num, by rw [HYA.out], k8, k82, k84⟩
                    case measure => simp [intOf]; omega
            · have hke : k = L := by omega
              subst hke
              have hat : atk p v ns k = q := by rw [HL.out]; exact HST.out.2
              rw [hat]
              have hpos : (0 : Int) < (k : Int) := by have := HL4.out.2; omega
              have hpos' : 0 < k := HL4.out.2
              clear hat hlt hk
              go_wp2_with fail
              refine (routeBegun_any _).mono ?_
              rintro e w6 ⟨rfl, hB6⟩
              go_wp2_with fail
              go_ret
              exact ⟨ret_bool (by simp), hBw.trans ((q1.trans (hB6.mono q1.size)).mono s0)⟩
  · have h0' : (d != 0) = true := bne_iff_ne.2 hd0
    go_wp2_with fail
    refine (routeBegun_any _).mono ?_
    rintro e w5 ⟨rfl, hB5⟩
    go_wp2_with fail
    go_ret
    exact ⟨rfl, hBw.trans ((k4.trans (hB5.mono k4.size)).mono s0)⟩
end Go.Proofs.Ythhkpgnjpieckaa
