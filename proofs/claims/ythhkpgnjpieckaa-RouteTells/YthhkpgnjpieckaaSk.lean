/- mailcoachref.in, QueuesOf. -/
import Derived.Test.YthhkpgnjpieckaaSj
namespace Go.Proofs.Ythhkpgnjpieckaa
set_option linter.unusedVariables false
set_option maxRecDepth 100000
open Go.RowKit Go.Maps

set_option maxHeartbeats 1000000 in
theorem rin_any (zs : List Int) (a : Option Addr) (n c : Nat) (z : Int) (w : World) (hn : zs.length = n) (hm : n ≤ 1000) (h : IntsAt w a zs) :
    Calls Try.prog 82 #[.slice a n c, .int .i64 z] w fun e w' => e = .returned (.bool (decide (z ∈ zs))) ∧ Below w.heap.size w w' := by
  have HN := hidIt hn
  have H := hidIt h
  clear hn h
  go_enter Try.func82, Try.ntmps82
  go_wp2_with fail
  go_loopw [5] (fun i wr => ∃ (k : Nat), k ≤ n ∧ i = .int .i64 k ∧ (z ∉ zs.take k) ∧ Below w.heap.size w wr) (fun i _ => n - (intOf i).toNat)
  case atStart => exact ⟨0, Nat.zero_le _, rfl, by simp, Below.refl _ _⟩
  case round =>
    obtain ⟨k, hk, rfl, hno, hB⟩ := hrel
    have HNO := hidIt hno
    clear hno
    by_cases hlt : k < n
    · have hkl : k < zs.length := by rw [HN.out]; exact hlt
      rcases H.out with h | ⟨g, rfl, hg, hx⟩
      · rw [h] at hkl; simp at hkl
      have d1 := (hB.cell (p := ⟨g, k, none⟩) hg).trans (hx k hkl)
      have HKM : Hid (zs[k] ∈ zs) := List.getElem_mem hkl
      have HTK : Hid (zs.take (k + 1) = zs.take k ++ [zs[k]]) := List.take_succ_eq_append_getElem hkl
      obtain ⟨y, hy⟩ : ∃ y, y = zs[k] := ⟨_, rfl⟩
      rw [← hy] at d1 HKM HTK
      have j1 : (0 : Int) ≤ (k : Int) := by omega
      have j2 : (k : Int) < n := by omega
      clear hx hy
      by_cases hyz : y = z
      · subst hyz
        go_wp2_with fail
        go_ret
        exact ⟨ret_bool (by rw [decide_eq_true HKM.out]), hB⟩
      · have hyz' : (y == z) = false := by simpa using hyz
        have HYZ := hidIt hyz
        clear hyz
        go_wp2_with fail
        go_roundw
        case rel => exact ⟨k + 1, by omega, by go_num, by rw [HTK.out, List.mem_append, List.mem_singleton]; exact fun h => h.elim HNO.out (fun e => HYZ.out e.symm), hB⟩
        case measure => simp [intOf]; omega
    · have hke : k = n := by omega
      subst hke
      clear hlt hk
      go_wp2_with fail
      go_ret
      exact ⟨ret_bool (by rw [decide_eq_false]; have := HNO.out; rw [← HN.out, List.take_length] at this; exact this), hB⟩

set_option maxRecDepth 100000 in
set_option maxHeartbeats 1000000 in
theorem queuesOf_any (p : PlanD) (a1 a2 a3 : Option Addr) (n1 c1 n2 c2 n3 c3 : Nat) (v : Nat) (key : ByteArray) (w : World) (hp : PlanAt w a1 a2 a3 n1 n2 n3 p) (hr : RightP p) (hv : v < n1) (hk : key.size ≤ 24) :
    Calls Try.prog 37 #[.agg #[.slice a1 n1 c1, .slice a2 n2 c2, .slice a3 n3 c3], .int .i64 v, .string key] w fun e w' => ∃ zs a c, e = .returned (.slice a zs.length c) ∧ QueuesIs p key v zs ∧ zs.length ≤ 4 ∧ IntsAt w' a zs ∧ Below w.heap.size w w' := by
  obtain ⟨i3, hi3, hy0, hy1, hy2⟩ := info_parts Try.infoInt
  obtain ⟨W1, hW1, hBw, hs1, hbx⟩ := plan_boxed w (.slice a1 n1 c1) (.slice a2 n2 c2) (.slice a3 n3 c3) 40
  have HW1 := hidIt hW1
  have HP1 : Hid (PlanAt W1 a1 a2 a3 n1 n2 n3 p) := hp.keep hBw
  have BX := hidIt hbx
  have HR := hidIt hr
  have h4 : n2 ≤ 4 := by rw [← hp.l2]; exact hr.few.2.1
  have h10 : n3 ≤ 10 := by rw [← hp.l3]; exact hr.few.2.2
  have HL3 : Hid (p.binds.length = n3) := hp.l3
  have HL2 : Hid (p.queues.length = n2) := hp.l2
  have HKS := hidIt hk
  have HVI := hidIt hv
  have s0 := hBw.size
  have hs1' : w.heap.size < W1.heap.size := by omega
  clear hp hr hk hW1 hbx hs1 hv
  go_enter Try.func37, Try.ntmps37
  go_wp2_with fail
  rw [← HW1.out]
  refine (postsOf_any p _ _ _ _ _ _ _ _ _ v key _ HP1.out HR.out HVI.out HKS.out).mono ?_
  rintro e w5 ⟨ps, ap, cp, rfl, hps, hp4, hpi, hB5⟩
  have HPS := hidIt hps
  have HPI := hidIt hpi
  have HP4 := hidIt hp4
  obtain ⟨F, hF⟩ : ∃ F : Nat → Bool, F = fun q : Nat => goesTo p key ps (q : Int) p.binds.length := ⟨_, rfl⟩
  have HF : Hid (∀ q, F q = goesTo p key ps (q : Int) n3) := fun q => by rw [hF, HL3.out]
  have HQ : Hid (QueuesIs p key v (numsTo F n2)) := by
    have := queues_told HR.out HPS.out
    rw [← hF, HL2.out] at this; exact this
  obtain ⟨mp, hmp⟩ : ∃ mp, mp = ps.length := ⟨_, rfl⟩
  rw [← hmp]
  have HMP := hidIt hmp
  have s5 := hB5.size
  have HB5 := hidIt hB5
  have KEEP : Hid (∀ W, Below w5.heap.size w5 W → Below W1.heap.size W1 W) := fun W hW => hB5.trans (hW.mono s5)
  clear hps hpi hp4 hF hmp hB5
  go_wp2_with fail
  go_loopw [8, 9, 10, 11, 12] (fun u i _ _ _ wr => ∃ (q : Nat), q ≤ n2 ∧ i = .int .i64 q ∧ wr.ownsRow w5.heap.size 3 1 u (numsTo F q).length ((numsTo F q).map (Value.int .i64)) ∧ Below w5.heap.size w5 wr) (fun _ i _ _ _ _ => n2 - (intOf i).toNat)
  case atStart => exact ⟨0, Nat.zero_le _, rfl, World.ownsRow_nil _ _ _ _, Below.refl _ _⟩
  case round =>
    obtain ⟨q, hq, rfl, hrow, hB⟩ := hrel
    obtain ⟨d0, d1, d2⟩ := BX.out wr (KEEP.out _ hB)
    have sB := hB.size
    by_cases hql : q < n2
    · have HQL := hidIt hql
      have hle := nums_len F q
      obtain ⟨n, hn⟩ : ∃ n, n = (numsTo F q).length := ⟨_, rfl⟩
      rw [← hn] at hrow hle
      have HN := hidIt hn
      have HROW := hidIt hrow
      obtain ⟨w6, h6⟩ : ∃ w6, w6 = wr := ⟨_, rfl⟩
      subst h6
      have HB := hidIt hB
      clear hn hrow hB
      go_wp2_with fail
      go_loopw [10, 11, 12] (fun c i _ wr => ∃ (k : Nat), k ≤ n3 ∧ i = .int .i64 k ∧ c = .bool (goesTo p key ps (q : Int) k) ∧ Below w6.heap.size w6 wr) (fun _ i _ _ => n3 - (intOf i).toNat)
      case atStart => exact ⟨0, Nat.zero_le _, rfl, rfl, Below.refl _ _⟩
      case round =>
        obtain ⟨k, hk, rfl, rfl, hBk⟩ := hrel
        have hBK : Below w5.heap.size w5 wr := HB.out.trans (hBk.mono sB)
        clear d0 d1 d2
        obtain ⟨d0, d1, d2⟩ := BX.out wr (KEEP.out _ hBK)
        have hW1r := (KEEP.out _ hBK).size
        have sk : w.heap.size < wr.heap.size := by omega
        have sBk := hBk.size
        by_cases hkl : k < n3
        · have HKL := hidIt hkl
          have hbl : k < p.binds.length := by rw [HL3.out]; exact hkl
          rcases (HP1.out.p3.keep (KEEP.out _ hBK)) with h | ⟨gb, o, ha3, hgb, hbc⟩
          · rw [h] at hbl; simp at hbl
          obtain ⟨r0, r1, r2, r3⟩ := hbc k hbl
          rw [← bAt_get hbl] at r0 r1 r2 r3
          have i1 : (0 : Int) ≤ (k : Int) := by omega
          have i2 : (k : Int) < n3 := by omega
          have HGS := hidIt (goesTo_succ (p := p) (key := key) (ps := ps) (q := (q : Int)) (k := k))
          obtain ⟨x, hx⟩ : ∃ x, x = (bAt p k).src := ⟨_, rfl⟩
          obtain ⟨tp, htp⟩ : ∃ tp, tp = (bAt p k).toPost := ⟨_, rfl⟩
          obtain ⟨y, hy⟩ : ∃ y, y = (bAt p k).dst := ⟨_, rfl⟩
          obtain ⟨pt, hpt⟩ : ∃ pt, pt = (bAt p k).pat := ⟨_, rfl⟩
          obtain ⟨ft, hft⟩ : ∃ ft, ft = fitP p k key := ⟨_, rfl⟩
          obtain ⟨pi, hpi⟩ : ∃ pi, pi = decide (x ∈ ps) := ⟨_, rfl⟩
          obtain ⟨cm, hcm⟩ : ∃ cm, cm = goesTo p key ps (q : Int) k := ⟨_, rfl⟩
          rw [← htp, ← hy, ← hft, ← hcm, ← hx, ← hpi] at HGS
          rw [← hx] at r0
          rw [← htp] at r1
          rw [← hy] at r2
          rw [← hpt] at r3
          rw [← hcm]
          have HFT := hidIt hft
          have HPIN := hidIt hpi
          obtain ⟨W2, hW2⟩ : ∃ W2, W2 = wr.alloc (.cells #[.int .i64 x, .bool tp, .int .i64 y, .string pt] 55) := ⟨_, rfl⟩
          have HW2 := hidIt hW2
          have hB2 : Below wr.heap.size wr W2 := by rw [hW2]; exact (Below.refl _ _).alloc (Nat.le_refl _) _
          have hb2 : W2.heap[wr.heap.size]? = some (.cells #[.int .i64 x, .bool tp, .int .i64 y, .string pt] 55 (0, 0)) := by rw [hW2]; exact World.alloc_heap_new wr _
          have HB2 := hidIt (And.intro hB2 hb2)
          have HBK := hidIt hBK
          have HBk := hidIt hBk
          subst ha3
          clear hx htp hy hpt hft hpi hcm hbl hbc hW2 hB2 hb2 hBK hBk
          cases cm with
          | true =>
            go_wp2_with fail
            rw [← HW2.out]
            go_roundw
            case rel => exact ⟨k + 1, by have := HKL.out; omega, by go_num, by rw [HGS.out]; rfl, HBk.out.trans (HB2.out.1.mono sBk)⟩
            case measure => simp [intOf]; omega
          | false =>
            cases tp with
            | true =>
              go_wp2_with fail
              rw [← HW2.out]
              go_roundw
              case rel => exact ⟨k + 1, by have := HKL.out; omega, by go_num, by rw [HGS.out]; rfl, HBk.out.trans (HB2.out.1.mono sBk)⟩
              case measure => simp [intOf]; omega
            | false =>
              by_cases hyq : y = (q : Int)
              · have hyq1 : (y == (q : Int)) = true := by simpa using hyq
                have HYQ : Hid (decide (y = (q : Int)) = true) := decide_eq_true hyq
                clear hyq
                rw [HYQ.out] at HGS
                go_wp2_with fail
                rw [← HW2.out]
                refine (rin_any ps _ _ _ _ _ HMP.out.symm (by have := HP4.out; rw [HMP.out]; omega) ((HPI.out.keep HBK.out).keep HB2.out.1)).mono ?_
                rintro e w3 ⟨rfl, hB3⟩
                rw [← HPIN.out]
                have hb3 := plan_box_keep HB2.out.2 hB3
                have hB23 := HB2.out.1.trans (hB3.mono HB2.out.1.size)
                have hBK3 := HBK.out.trans (hB23.mono HBK.out.size)
                have hBk3 := HBk.out.trans (hB23.mono sBk)
                clear d0 d1 d2
                obtain ⟨d0, d1, d2⟩ := BX.out w3 (KEEP.out _ hBK3)
                have HK3 := hidIt (And.intro hBK3 hBk3)
                clear hb3 hB23 hBK3 hBk3 hB3
                cases pi with
                | false =>
                  go_wp2_with fail
                  go_roundw
                  case rel => exact ⟨k + 1, by have := HKL.out; omega, by go_num, by rw [HGS.out]; rfl, HK3.out.2⟩
                  case measure => simp [intOf]; omega
                | true =>
                  go_wp2_with fail
                  refine (rfits_any p _ _ _ _ _ _ _ _ _ k key _ (HP1.out.keep (KEEP.out _ HK3.out.1)) HR.out HKL.out HKS.out).mono ?_
                  rintro e w4 ⟨rfl, hB4⟩
                  rw [← HFT.out]
                  have HK4 := hidIt (HK3.out.2.trans (hB4.mono HK3.out.2.size))
                  go_wp2_with fail
                  go_roundw
                  case rel => exact ⟨k + 1, by have := HKL.out; omega, by go_num, by rw [HGS.out]; simp, HK4.out⟩
                  case measure => simp [intOf]; omega
              · have hyq1 : (y == (q : Int)) = false := by simpa using hyq
                have HYQ : Hid (decide (y = (q : Int)) = false) := decide_eq_false hyq
                clear hyq
                rw [HYQ.out] at HGS
                go_wp2_with fail
                rw [← HW2.out]
                go_roundw
                case rel => exact ⟨k + 1, by have := HKL.out; omega, by go_num, by rw [HGS.out]; rfl, HBk.out.trans (HB2.out.1.mono sBk)⟩
                case measure => simp [intOf]; omega
        · have hke : k = n3 := by omega
          subst hke
          have HBK := hidIt hBK
          have hrow := row_keepN HROW.out hBk
          rw [← HF.out]
          clear hkl hk
          cases hfq : F q with
          | true =>
            have HFQ := hidIt hfq
            clear hfq
            go_wp2_with (at_builtin; refine wpList_append_own _ rfl _ _ 45 rfl w5.heap.size 3 i3 (.int .i64 0) 1 8 Try.underlying45 hi3 hy0 hy1 hy2 rfl (by decide) _ _ _ rfl (hrow.alloc _) ⟨wr.heap.size, 0, none⟩ 1 1 [.int .i64 (q : Nat)] rfl rfl (cell_one_new _ _ _) (by simp [Value.oneCell']) (by unfold maxLen; omega) (by omega) (by simp; omega) ?_; intro v' w3 hown' hgrow _; have hB3 : Below w5.heap.size w5 w3 := (HBK.out.alloc HBK.out.size _).grown hgrow (by simp; omega) (own_ge hrow))
            go_roundw
            case rel => exact ⟨q + 1, HQL.out, by have := HQL.out; go_num, by rw [nums_yes HFQ.out, List.length_append, List.map_append, ← HN.out]; exact hown', hB3⟩
            case measure => have := HQL.out; simp [intOf]; omega
          | false =>
            have HFQ := hidIt hfq
            have HROW2 := hidIt hrow
            clear hfq hrow
            go_wp2_with fail
            go_roundw
            case rel => exact ⟨q + 1, HQL.out, by have := HQL.out; go_num, by rw [nums_no HFQ.out, ← HN.out]; exact HROW2.out, HBK.out⟩
            case measure => have := HQL.out; simp [intOf]; omega
    · have hqe : q = n2 := by omega
      subst hqe
      obtain ⟨a, c, rfl, hI⟩ := ints_own hrow
      have HI := hidIt hI
      have hle := nums_len F q
      clear hrow hql hI
      go_wp2_with fail
      go_ret
      exact ⟨numsTo F q, a, c, rfl, HQ.out, by omega, HI.out, hBw.trans ((KEEP.out _ hB).mono s0)⟩
end Go.Proofs.Ythhkpgnjpieckaa
