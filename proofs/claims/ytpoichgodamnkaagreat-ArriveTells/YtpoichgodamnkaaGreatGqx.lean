import Derived.Deep.RegionHeld3
import Derived.Test.YtpoichgodamnkaaGreatSAe
import Derived.Test.YtpoichgodamnkaaGreatGbx
import Derived.Test.YtpoichgodamnkaaGreatGkx
import Derived.Test.YtpoichgodamnkaaGreatGnx
namespace Go.Proofs.YtpoichgodamnkaaGreat
open Go.RowKit Go.Maps
set_option linter.unusedVariables false
set_option maxRecDepth 100000
set_option maxHeartbeats 8000000
def arrI (a : ArrD) : ItemD := ⟨0, a.key, a.body, false, a.deaths⟩
def arrQ (nq : Nat) (a : ArrD) : Bool := isNum a.queue nq
def arE (p : PlanD) (s : StateD) (l : List ArrD) : Int :=
  if 4 < l.length then 2 else if l.all (arrQ p.queues.length) = false then 5 else if l.all (fun a => itemOk (arrI a)) = false then 1 else if 524288 < s.nextSeq then 2 else 0
theorem arE_zero {p : PlanD} {s : StateD} {l : List ArrD} (h : arE p s l = 0) : l.length ≤ 4 ∧ (∀ a ∈ l, ArrOk p a) ∧ s.nextSeq ≤ 524288 := by
  unfold arE at h
  by_cases h1 : 4 < l.length
  · rw [if_pos h1] at h; cases h
  rw [if_neg h1] at h
  by_cases h2 : l.all (arrQ p.queues.length) = false
  · rw [if_pos h2] at h; cases h
  rw [if_neg h2] at h
  by_cases h3 : l.all (fun a => itemOk (arrI a)) = false
  · rw [if_pos h3] at h; cases h
  rw [if_neg h3] at h
  by_cases h4 : 524288 < s.nextSeq
  · rw [if_pos h4] at h; cases h
  simp only [Bool.not_eq_false, List.all_eq_true] at h2 h3
  refine ⟨by omega, fun a ha => ?_, by omega⟩
  obtain ⟨_, _, q3, q4, q5, q6⟩ := itemOk_parts (h3 a ha)
  exact ⟨isNum_iff.1 (h2 a ha), q3, q4, q5, q6⟩
theorem take_all_step {α : Type} {P : α → Bool} {l : List α} {k : Nat} (hk : k < l.length) (h : (l.take k).all P = true) (hx : P l[k] = true) : (l.take (k + 1)).all P = true := by
  rw [List.take_succ_eq_append_getElem hk, List.all_append, h]; simp [hx]
theorem all_bad {α : Type} {P : α → Bool} {l : List α} {k : Nat} (hk : k < l.length) (hx : P l[k] = false) : l.all P = false := by
  rw [List.all_eq_false]; exact ⟨l[k], List.getElem_mem hk, by simp [hx]⟩
theorem lineE_one (x : ItemD) : lineE [x] = if itemOk x = true then 0 else 1 := by
  unfold lineE
  have : lineOk [x] = itemOk x := by
    rw [Bool.eq_iff_iff, lineOk_iff]; simp
  rw [this]
theorem hcheck_any (p : PlanD) (s : StateD) (l : List ArrD) (b : Option Addr) (mb cb N H n t n2 c2 : Nat) (v1 v3 : Value) (a2 : Option Addr) (xs : List ArrD) (ab : Option Addr) (am ac : Nat) (w : World) (hn2 : p.queues.length = n2) (hl : ArrsAt w b l) (hll : l.length = mb) (hmb : mb ≤ maxLen) (hh : Hall w N H t v1 (.slice a2 n2 c2) v3 xs ab am ac) (hbx : StBox w n t s) :
    Calls Tryz.prog 63 #[.pointer (some ⟨H, 0, none⟩), .slice b mb cb] w fun e w' => e = askE (arE p s l) ∧ Below w.heap.size w w' := by
  obtain ⟨E, hE⟩ : ∃ E, E = arE p s l := ⟨_, rfl⟩
  rw [← hE]
  have HE := hidI hE
  have HN2 := hidI hn2
  have HL := hidI hl
  have HLL := hidI hll
  have HH := hidI hh
  have HBX := hidI hbx
  clear hE hn2 hl hll hh hbx
  go_enter Tryz.func63, Tryz.ntmps63
  go_wp2_with fail
  by_cases h4 : 4 < mb
  · refine (never_yes 2 [decide ((4 : Int) < (mb : Int))] _ _ (by simp) (bools_new w [decide ((4 : Int) < (mb : Int))]) (by simp; omega)).mono ?_
    rintro e w2 ⟨rfl, rfl⟩
    exact ⟨rfl, by rw [HE.out]; unfold arE; rw [if_pos (by rw [HLL.out]; exact h4)]; rfl, (Below.refl _ _).alloc (Nat.le_refl _) _⟩
  refine (never_no 2 [decide ((4 : Int) < (mb : Int))] _ _ (by simp) (bools_new w [decide ((4 : Int) < (mb : Int))]) (by simp; omega)).mono ?_
  rintro e w2 ⟨rfl, hw2⟩
  have k2 : Below w.heap.size w w2 := by rw [hw2]; exact (Below.refl _ _).alloc (Nat.le_refl _) _
  have K2 := hidI k2
  have HE2 : Hid (E = if l.all (arrQ p.queues.length) = false then 5 else if l.all (fun a => itemOk (arrI a)) = false then 1 else if 524288 < s.nextSeq then 2 else 0) := by show E = _; rw [HE.out]; unfold arE; rw [if_neg (by rw [HLL.out]; exact h4)]
  clear hw2 k2
  go_wp2_with fail
  go_loopw [15] (fun i wr => ∃ k : Nat, k ≤ mb ∧ i = .int .i64 k ∧ (l.take k).all (arrQ p.queues.length) = true ∧ Below w.heap.size w wr) (fun i _ => mb - (intOf i).toNat)
  case atStart => exact ⟨0, Nat.zero_le _, rfl, by simp, K2.out⟩
  case round =>
    obtain ⟨k, hk, rfl, hal, hB⟩ := hrel
    have HAL := hidI hal
    have HB := hidI hB
    have hBs := hB.size
    clear hal
    by_cases hlt : k < mb
    · have HLT := hidI hlt
      have hkl : k < l.length := by rw [HLL.out]; exact hlt
      have HKL := hidI hkl
      obtain ⟨g, o, hga, hgl, e0, e1, e2, e3⟩ := ArrsAt.get (HL.out.keep hB) hkl
      obtain ⟨x, hx⟩ : ∃ x, x = l[k]'HKL.out := ⟨_, rfl⟩
      rw [← hx] at e0 e1 e2 e3
      have HX := hidI hx
      subst hga
      obtain ⟨W4, hW4⟩ : ∃ W4, W4 = wr.alloc (.cells #[.int .i64 x.queue, .string x.key, .string x.body, .int .i64 x.deaths] 101) := ⟨_, rfl⟩
      have k4 : Below wr.heap.size wr W4 := by rw [hW4]; exact (Below.refl _ _).alloc (Nat.le_refl _) _
      have b4 : W4.heap[wr.heap.size]? = some (.cells #[.int .i64 x.queue, .string x.key, .string x.body, .int .i64 x.deaths] 101 (0, 0)) := by rw [hW4]; exact World.alloc_heap_new wr _
      have HZ4 : Hid (W4.heap.size = wr.heap.size + 1) := by show W4.heap.size = _; rw [hW4]; simp
      have K4 := hidI (hB.trans (k4.mono hBs))
      have HSS : Hid (∀ W', Below W4.heap.size W4 W' → W'.cell? ⟨wr.heap.size, 0, none⟩ = some (.int .i64 x.queue) ∧ W'.cell? ⟨H, 2, none⟩ = some (.slice a2 n2 c2)) := fun W' h => ⟨coc_ (pkp_ b4 h) 0, coc_ (pkp_ HH.out.box (K4.out.trans (h.mono K4.out.size))) 2⟩
      have HW4 := hidI hW4
      have j1 : (0 : Int) ≤ (k : Int) := by omega
      have j2 : (k : Int) < mb := by omega
      have s4 := K4.out.size
      clear hx hW4 k4 b4 hkl
      go_upto_region 4 with fail
      rw [← HW4.out]
      refine wp_region_held_drew (S := fun W' => W'.cell? ⟨wr.heap.size, 0, none⟩ = some (.int .i64 x.queue) ∧ W'.cell? ⟨H, 2, none⟩ = some (.slice a2 n2 c2)) (by kernel_rfl) (HSS.out _ (Below.refl _ _).drew) (fun hHeld => ?_)
      refine tk 0 ?_
      refine tk 1 ?_
      refine tk 2 ?_
      refine tk 3 ?_
      refine tk 4 ?_
      refine tk 5 ?_
      refine tk 6 ?_
      refine tk 7 ?_
      refine tk 8 ?_
      refine tk 9 ?_
      refine tk 10 ?_
      refine tk 11 ?_
      refine rdy 12 (fun K hK => ?_)
      go_simp
      refine hK.out _ _ (HSS.out _ (by repeat (first | exact Below.refl _ _ | assumption | refine Below.drew ?_ | refine Below.alloc ?_ (by first | (simp; done) | (simp; omega) | omega) _ | refine Below.setCell ?_ (by first | (simp; done) | (simp; omega) | omega) _))) (fun _ => ?_)
      clear hK K hHeld
      try refine nrm ?_
      refine rdy 13 (fun K hK => ?_)
      go_simp
      have hbn : IsBools (W4.alloc (Obj.cells #[Value.bool (decide (x.queue < 0)), Value.bool (decide ((n2 : Int) ≤ x.queue))] 4)).drew W4.heap.size 0 [decide (x.queue < 0), decide ((n2 : Int) ≤ x.queue)] := bools_new W4 [decide (x.queue < 0), decide ((n2 : Int) ≤ x.queue)]
      have k5 : Below W4.heap.size W4 (W4.alloc (Obj.cells #[Value.bool (decide (x.queue < 0)), Value.bool (decide ((n2 : Int) ≤ x.queue))] 4)).drew := (by repeat (first | exact Below.refl _ _ | assumption | refine Below.drew ?_ | refine Below.alloc ?_ (by first | (simp; done) | (simp; omega) | omega) _ | refine Below.setCell ?_ (by first | (simp; done) | (simp; omega) | omega) _))
      by_cases hc : 0 ≤ x.queue ∧ x.queue < (n2 : Int)
      · have HOKX : Hid (arrQ p.queues.length (l[k]'HKL.out) = true) := by show arrQ p.queues.length (l[k]'HKL.out) = true; rw [← HX.out, HN2.out]; exact isNum_iff.2 hc
        refine (never_no 5 [decide (x.queue < 0), decide ((n2 : Int) ≤ x.queue)] _ _ (by simp) hbn (by simp; omega)).mono ?_
        rintro e w5 ⟨rfl, hw5⟩
        have k5' : Below W4.heap.size W4 w5 := by rw [hw5]; exact k5
        refine hK.out _ _ (HSS.out _ k5') (fun _ => ?_)
        have K5 := hidI (K4.out.trans (k5'.mono s4))
        clear hK K hw5 hbn k5 k5' hc
        try refine nrm ?_
        refine wpAnyH_done (by kernel_rfl) ?_ _
        go_wp2_with fail
        go_roundw
        case rel => exact ⟨k + 1, HLT.out, by have := HLT.out; go_num, take_all_step HKL.out HAL.out HOKX.out, K5.out⟩
        case measure => have := HLT.out; simp [intOf]; omega
      · have HBAD : Hid (E = 5) := by
          show E = 5
          rw [HE2.out, if_pos]
          refine all_bad HKL.out ?_
          rw [← HX.out, HN2.out]; exact isNum_no.2 hc
        refine (never_yes 5 [decide (x.queue < 0), decide ((n2 : Int) ≤ x.queue)] _ _ (by simp) hbn (by simp; omega)).mono ?_
        rintro e w5 ⟨rfl, rfl⟩
        exact ⟨rfl, by rw [HBAD.out]; rfl, K4.out.trans (k5.mono s4)⟩
    · have hke : k = mb := by omega
      obtain rfl := hke.symm
      have HE3 : Hid (E = if l.all (fun a => itemOk (arrI a)) = false then 1 else if 524288 < s.nextSeq then 2 else 0) := by
        show E = _
        have := HAL.out
        rw [List.take_of_length_le (by rw [HLL.out]; exact Nat.le_refl _)] at this
        rw [HE2.out, if_neg (by rw [this]; decide)]
      clear hlt hk
      go_wp2_with fail
      go_loopw [36] (fun i wr => ∃ k : Nat, k ≤ mb ∧ i = .int .i64 k ∧ (l.take k).all (fun a => itemOk (arrI a)) = true ∧ Below w.heap.size w wr) (fun i _ => mb - (intOf i).toNat)
      case atStart => exact ⟨0, Nat.zero_le _, rfl, by simp, HB.out⟩
      case round =>
        clear hB hBs HAL HB
        obtain ⟨k, hk, rfl, hal, hB⟩ := hrel
        have HAL := hidI hal
        have HB := hidI hB
        have hBs := hB.size
        clear hal
        by_cases hlt : k < mb
        · have HLT := hidI hlt
          have hkl : k < l.length := by rw [HLL.out]; exact hlt
          have HKL := hidI hkl
          obtain ⟨g, o, hga, hgl, e0, e1, e2, e3⟩ := ArrsAt.get (HL.out.keep hB) hkl
          obtain ⟨x, hx⟩ : ∃ x, x = l[k]'HKL.out := ⟨_, rfl⟩
          rw [← hx] at e0 e1 e2 e3
          have HX := hidI hx
          subst hga
          obtain ⟨W4, hW4⟩ : ∃ W4, W4 = wr.alloc (.cells #[.int .i64 x.queue, .string x.key, .string x.body, .int .i64 x.deaths] 101) := ⟨_, rfl⟩
          have k4 : Below wr.heap.size wr W4 := by rw [hW4]; exact (Below.refl _ _).alloc (Nat.le_refl _) _
          have b4 : W4.heap[wr.heap.size]? = some (.cells #[.int .i64 x.queue, .string x.key, .string x.body, .int .i64 x.deaths] 101 (0, 0)) := by rw [hW4]; exact World.alloc_heap_new wr _
          have K4 := hidI (hB.trans (k4.mono hBs))
          have HW4 := hidI hW4
          have j1 : (0 : Int) ≤ (k : Int) := by omega
          have j2 : (k : Int) < mb := by omega
          have s4 := K4.out.size
          have d0 := coc_ b4 0
          have d1 := coc_ b4 1
          have d2 := coc_ b4 2
          have d3 := coc_ b4 3
          simp at d0 d1 d2 d3
          clear hx hW4 k4 b4 hkl
          go_upto_region 9 with fail
          rw [← HW4.out]
          go_wp2_with fail
          refine (letter_any x.queue x.deaths 0 x.key x.body W4).mono ?_
          rintro e w5 ⟨rfl, k5⟩
          obtain ⟨W6, hW6⟩ : ∃ W6, W6 = w5.alloc (.cells #[.int .i64 0, .string x.key, .string x.body, .bool false, .int .i64 x.deaths] 43) := ⟨_, rfl⟩
          have k6 : Below w5.heap.size w5 W6 := by rw [hW6]; exact (Below.refl _ _).alloc (Nat.le_refl _) _
          have HIT : Hid (ItemsAt W6 (some ⟨w5.heap.size, 0, none⟩) [arrI x]) := by
            show ItemsAt W6 _ _
            rw [hW6]; exact items_row.2 (row_lit (cs := [.int .i64 0, .string x.key, .string x.body, .bool false, .int .i64 x.deaths]))
          have K6 := hidI (K4.out.trans ((k5.trans (k6.mono k5.size)).mono s4))
          have HW6 := hidI hW6
          have s6 := K6.out.size
          clear hW6 k5 k6 d0 d1 d2 d3 e0 e1 e2 e3
          go_wp2_with (rw [← HW6.out])
          refine (lcheck_any [arrI x] _ _ _ W6 rfl (by unfold maxLen; simp) HIT.out).mono ?_
          rintro e w7 ⟨rfl, k7⟩
          rw [lineE_one]
          have k7' := K6.out.trans (k7.mono s6)
          have k8 := k7'.alloc k7'.size (.cells #[.int .i64 0] 33)
          cases hio : itemOk (arrI x) with
          | true =>
            rw [if_pos rfl]
            have HOKX : Hid (itemOk (arrI (l[k]'HKL.out)) = true) := by show itemOk (arrI (l[k]'HKL.out)) = true; rw [← HX.out]; exact hio
            clear hio k7
            go_wp2_with (go_at_call 72; refine (ok_no _ _ (one_new _ _ _) (by simp)).mono ?_; rintro e w9 ⟨rfl, hB9⟩; have k9 := k8.trans (hB9.mono k8.size); have K9 := hidI k9; clear hB9 k9)
            go_roundw
            case rel => exact ⟨k + 1, HLT.out, by have := HLT.out; go_num, take_all_step (P := fun a => itemOk (arrI a)) HKL.out HAL.out HOKX.out, K9.out⟩
            case measure => have := HLT.out; simp [intOf]; omega
          | false =>
            rw [if_neg (by decide)]
            have HBAD : Hid (E = 1) := by
              show E = 1
              rw [HE3.out, if_pos]
              exact all_bad (P := fun a => itemOk (arrI a)) HKL.out (by rw [← HX.out]; exact hio)
            clear hio k7
            go_wp2_with (go_at_call 72; refine (ok_yes 1 _ _ (one_new _ _ _) (by simp) (by decide)).mono ?_; rintro e w9 ⟨rfl, hB9⟩)
            have k8' := k7'.alloc k7'.size (.cells #[.int .i64 1] 33)
            exact ⟨rfl, by rw [HBAD.out]; rfl, k8'.trans (hB9.mono k8'.size)⟩
        · have hke : k = mb := by omega
          obtain rfl := hke.symm
          have HE4 : Hid (E = if 524288 < s.nextSeq then 2 else 0) := by
            show E = _
            have := HAL.out
            rw [List.take_of_length_le (by rw [HLL.out]; exact Nat.le_refl _)] at this
            rw [HE3.out, if_neg (by rw [this]; decide)]
          obtain ⟨_, _, _, _, _, _, _, _, _, hbt, _⟩ := HBX.out.keep hB
          have t3 := coc_ hbt 3
          have p0 := coc_ (pkp_ HH.out.box hB) 0
          simp at t3 p0
          clear hlt hk hbt
          go_wp2_with fail
          by_cases hc : 524288 < s.nextSeq
          · refine (never_yes 2 [decide (524288 < s.nextSeq)] _ _ (by simp) (bools_new wr [decide (524288 < s.nextSeq)]) (by simp [hc])).mono ?_
            rintro e w5 ⟨rfl, rfl⟩
            exact ⟨rfl, by rw [HE4.out, if_pos hc]; rfl, HB.out.alloc hBs _⟩
          · refine (never_no 2 [decide (524288 < s.nextSeq)] _ _ (by simp) (bools_new wr [decide (524288 < s.nextSeq)]) (by simp; omega)).mono ?_
            rintro e w5 ⟨rfl, hw5⟩
            have K5 : Hid (Below w.heap.size w w5) := by show Below w.heap.size w w5; rw [hw5]; exact HB.out.alloc hBs _
            have HE5 : Hid (E = 0) := by show E = 0; rw [HE4.out, if_neg hc]
            clear hw5 hc
            go_wp2_with fail
            go_end0
            exact ⟨by rw [HE5.out]; rfl, K5.out⟩
structure ArrInv (p : PlanD) (s : StateD) (l : List ArrD) (i : Nat) (xs : List ArrD) (si : StateD) : Prop where
  right : RightX p si 0
  ok : ∀ a ∈ xs.drop i, ArrOk p a
  fuel : i + phi si (xs.drop i) ≤ 564
  seq : si.nextSeq = s.nextSeq + i
  le : i ≤ xs.length
  few : xs.length ≤ 4 + 4 * i
  S : arrS p (600 - i) si (xs.drop i) = arrS p 600 s l
  N : i + arrN p (600 - i) si (xs.drop i) = arrN p 600 s l
theorem ArrInv.start {p : PlanD} {s : StateD} {l : List ArrD} (hR : RightX p s 0) (h1 : l.length ≤ 4) (h2 : ∀ a ∈ l, ArrOk p a) : ArrInv p s l 0 l s :=
  ⟨hR, by simpa using h2, by have := phi_le hR h1; simpa using this, by simp, Nat.zero_le _, by omega, by simp, by simp⟩
theorem ArrInv.step {p : PlanD} {s : StateD} {l : List ArrD} {i : Nat} {xs : List ArrD} {si : StateD} (h : ArrInv p s l i xs si) (hs : s.nextSeq ≤ 524288) (hi : i < xs.length) : ArrOk p xs[i] ∧ si.nextSeq < 1048576 ∧ i < 564 ∧ ArrInv p s l (i + 1) (xs ++ recvB p si xs[i]) (recvS p si xs[i]) := by
  have hd : xs.drop i = xs[i] :: xs.drop (i + 1) := List.drop_eq_getElem_cons hi
  have hf := h.fuel
  have hok := h.ok
  have hS := h.S
  have hN := h.N
  rw [hd] at hf hok hS hN
  have ha := hok _ List.mem_cons_self
  have hpos := phi_pos (s := si) (a := xs[i]) (l := xs.drop (i + 1))
  have hsq : si.nextSeq < 1048576 := by rw [h.seq]; omega
  have hph := phi_recv (l := xs.drop (i + 1)) h.right ha hsq
  obtain ⟨r1, r2⟩ := recv_arrs h.right ha hsq
  have hd2 : (xs ++ recvB p si xs[i]).drop (i + 1) = xs.drop (i + 1) ++ recvB p si xs[i] := List.drop_append_of_le_length (by omega)
  have hfu : 600 - i = (600 - (i + 1)) + 1 := by omega
  have hq := h.right.rp.few.2.1
  have hfew := h.few
  refine ⟨ha, hsq, by omega, h.right.recv ha hsq, ?_, ?_, ?_, ?_, ?_, ?_, ?_⟩
  · intro b hb
    rw [hd2] at hb
    rcases List.mem_append.1 hb with hb | hb
    · exact hok b (List.mem_cons_of_mem _ hb)
    · exact r1 b hb
  · rw [hd2]; omega
  · rw [recv_seq, h.seq]; omega
  · rw [List.length_append]; omega
  · rw [List.length_append]; omega
  · rw [hd2, ← hS, hfu]; rfl
  · rw [hd2, ← hN, hfu]
    show i + 1 + _ = i + (arrN p (600 - (i + 1)) _ _ + 1)
    omega
theorem ArrInv.done {p : PlanD} {s : StateD} {l : List ArrD} {i : Nat} {xs : List ArrD} {si : StateD} (h : ArrInv p s l i xs si) (hi : ¬ i < xs.length) : si = arrS p 600 s l ∧ (xs.length : Int) = arrN p 600 s l := by
  have hd : xs.drop i = [] := List.drop_eq_nil_of_le (by omega)
  have hS := h.S
  have hN := h.N
  have hle := h.le
  rw [hd] at hS hN
  rw [arrS_nil] at hS
  rw [arrN_nil] at hN
  exact ⟨hS, by omega⟩
theorem letters1_does (p : PlanD) (a1 a2 a3 : Option Addr) (n1 c1 n2 c2 n3 c3 : Nat) (s : StateD) (l : List ArrD) (b : Option Addr) (mb cb Bp Bl : Nat) (w : World) (hp : PlanAt w a1 a2 a3 n1 n2 n3 p) (x0 : w.heap[Bp]? = some (.cells #[.slice a1 n1 c1, .slice a2 n2 c2, .slice a3 n3 c3] 26 (0, 0))) (x1 : w.heap[Bl]? = some (.cells #[.slice b mb cb] 32 (0, 0))) (hl : ArrsAt w b l) (hll : l.length = mb) (hmb : mb ≤ maxLen) (hbn : b = none → cb = 0 ∧ mb = 0) (hR : RightX p s 0) :
    Does 62 #[.pointer (some ⟨Bp, 0, none⟩), .pointer (some ⟨Bl, 0, none⟩)] w s (arE p s l) (arrN p 600 s l) (arrS p 600 s l) := by
  intro W n t hBW hwt htn hnW hbx
  obtain ⟨E, hE⟩ : ∃ E, E = arE p s l := ⟨_, rfl⟩
  obtain ⟨NN, hNN⟩ : ∃ NN : Int, NN = arrN p 600 s l := ⟨_, rfl⟩
  rw [← hE, ← hNN]
  have HE := hidI hE
  have HNN := hidI hNN
  have HP := hidI hp
  have HR := hidI hR
  have HBX := hidI hbx
  have HL := hidI hl
  have HLL := hidI hll
  have HBN := hidI hbn
  have HBW := hidI hBW
  have hlp := lth_ x0
  have hlb := lth_ x1
  have hsz := hBW.size
  have X0 := hidI (pkp_ x0 hBW)
  have X1 := hidI (pkp_ x1 hBW)
  have hap : (#[Value.pointer (some ⟨t, 0, none⟩)] ++ #[Value.pointer (some ⟨Bp, 0, none⟩), Value.pointer (some ⟨Bl, 0, none⟩)] : Array Value) = #[.pointer (some ⟨t, 0, none⟩), .pointer (some ⟨Bp, 0, none⟩), .pointer (some ⟨Bl, 0, none⟩)] := rfl
  rw [hap]
  obtain ⟨H, hH⟩ : ∃ H, H = W.heap.size := ⟨_, rfl⟩
  obtain ⟨W1, hW1⟩ : ∃ W1, W1 = W.alloc (.cells #[.pointer (some ⟨t, 0, none⟩), .slice a1 n1 c1, .slice a2 n2 c2, .slice a3 n3 c3, .slice none 0 0] 97) := ⟨_, rfl⟩
  have k1 : Below W.heap.size W W1 := by rw [hW1]; exact (Below.refl _ _).alloc (Nat.le_refl _) _
  have hh1 : Hall W1 (H + 1) H t (.slice a1 n1 c1) (.slice a2 n2 c2) (.slice a3 n3 c3) [] none 0 0 := ⟨by rw [hW1, hH]; exact World.alloc_heap_new W _, World.ownsRow_nil _ _ _ _⟩
  have hz1 : W1.heap.size = H + 1 := by rw [hW1, hH]; simp
  have HZ1 := hidI hz1
  have HW1 := hidI hW1
  have K1 := hidI k1
  have HH1 := hidI hh1
  have HHH := hidI hH
  obtain ⟨p0, p1, p2⟩ := pl_cells X0.out
  have y1 := coc_ (pkp_ X1.out k1) 0
  simp at y1
  clear hE hNN hp x0 x1 hl hll hbn hR hbx hap hBW hW1 k1 hh1 hz1 hH
  go_enter Tryz.func62, Tryz.ntmps62
  go_upto_region 2 with fail
  rw [← HW1.out, ← HHH.out]
  have HA1 := hidI ((HL.out.keep HBW.out).keep K1.out)
  have HCK := hidI (hcheck_any p s l b mb cb (H + 1) H n t n2 c2 (.slice a1 n1 c1) (.slice a3 n3 c3) a2 [] none 0 0 W1 HP.out.l2 HA1.out HLL.out hmb HH1.out (HBX.out.keep K1.out))
  clear p0 p1 p2
  go_wp2_with fail
  refine HCK.out.mono ?_
  rintro e w2 ⟨rfl, k2⟩
  rw [← HE.out]
  have hHn : n ≤ H := by have := HHH.out; omega
  have K2 := hidI (K1.out.trans (k2.mono (by have := HZ1.out; have := HHH.out; omega)))
  by_cases hz : E = 0
  rotate_left
  · rw [askE_pan hz]
    unfold panE
    exact ⟨rfl, FrameT.of_below K2.out hnW, .inl ⟨hz, rfl⟩⟩
  subst hz
  rw [askE_ok]
  unfold okE
  obtain ⟨q1, q2, q3⟩ := arE_zero HE.out.symm
  have HQ2 := hidI q2
  have HQ3 := hidI q3
  have HINV := hidI (ArrInv.start HR.out q1 q2)
  have HH2 := hidI (HH1.out.keep k2)
  have s2 := k2.size
  have hz2 : H + 1 ≤ w2.heap.size := by have := HZ1.out; omega
  have HBX2 := hidI (HBX.out.keep K2.out)
  have y2 := coc_ (pkp_ X1.out K2.out) 0
  simp at y2
  have hmb4 : mb ≤ 4 := by have := HLL.out; omega
  have HWT := hidI (wait_any (H + 1) H t (.slice a1 n1 c1) (.slice a2 n2 c2) (.slice a3 n3 c3) [] l none b 0 0 mb cb w2 HH2.out (Nat.lt_succ_self _) hz2 (HA1.out.keep k2) HLL.out HBN.out (by omega))
  clear k2 y1 q1 q2 q3
  go_wp2_with fail
  refine HWT.out.mono ?_
  rintro e w3 ⟨a3', c3', rfl, hh3, hHF3⟩
  have HBX3 := hidI (hHF3.stBox HBX2.out ⟨_, HH2.out.box⟩)
  have F3 : Hid (FrameT n t W w3) := (FrameT.of_below K2.out hnW).trans ⟨hHF3.os, hHF3.tape, hHF3.output, hHF3.size, fun k h1 h2 => hHF3.low k (by omega) (by omega)⟩
  have HS3 : Hid (H + 1 ≤ w3.heap.size) := by have := hHF3.size; show H + 1 ≤ w3.heap.size; omega
  have HH3 := hidI hh3
  unfold okE
  clear hh3 hHF3 y2
  go_wp2_with fail
  go_loopw [6] (fun i wr => ∃ (k : Nat) (xs : List ArrD) (si : StateD) (ab : Option Addr) (am ac : Nat), i = .int .i64 k ∧ ArrInv p s l k xs si ∧ Hall wr (H + 1) H t (.slice a1 n1 c1) (.slice a2 n2 c2) (.slice a3 n3 c3) xs ab am ac ∧ StBox wr n t si ∧ FrameT n t W wr ∧ H + 1 ≤ wr.heap.size) (fun i _ => 600 - (intOf i).toNat)
  case atStart => exact ⟨0, l, s, a3', 0 + mb, c3', rfl, HINV.out, HH3.out, HBX3.out, F3.out, HS3.out⟩
  case round =>
    obtain ⟨k, xs, si, ab, am, ac, rfl, hinv, hh, hbx, hF, hsz2⟩ := hrel
    have HI := hidI hinv
    have HH := hidI hh
    have HBX4 := hidI hbx
    have HF := hidI hF
    have hc4 := coc_ hh.box 4
    simp at hc4
    have HAM := hidI hh.len
    have hfew := hinv.few
    have hkl0 := hinv.le
    clear hinv hh hbx hF
    by_cases hlt : k < am
    · have hkl : k < xs.length := by rw [← HAM.out]; exact hlt
      obtain ⟨r1, r2, r3, r4⟩ := HI.out.step HQ3.out hkl
      obtain ⟨g, o, hga, hgl, e0, e1, e2, e3⟩ := ArrsAt.get (own_at HH.out.row) hkl
      have HNXT := hidI r4
      obtain ⟨x, hx⟩ : ∃ x, x = xs[k]'hkl := ⟨_, rfl⟩
      rw [← hx] at e0 e1 e2 e3 r1 HNXT
      subst hga
      have hdr : si.dropped ≤ 10000000 := by have h1 := HI.out.right.sum; have h2 := HI.out.right.cs; have h3 := HI.out.right.ns; have h4 := HI.out.right.ak; have h5 : (0 : Int) ≤ ((seqsOf si).length : Int) := Int.natCast_nonneg _; omega
      have HRC := hidI (receive_any p a1 a2 a3 n1 c1 n2 c2 n3 c3 si x xs (some ⟨g, o, none⟩) am ac (H + 1) H n t w wr HP.out (HBW.out.trans (HF.out.below (by omega) hwt)) hwt htn hHn (Nat.lt_succ_self _) hsz2 HI.out.right r1 r2 hdr HH.out (by omega) HBX4.out)
      have j1 : (0 : Int) ≤ (k : Int) := by omega
      have j2 : (k : Int) < am := by omega
      have hk600 : k < 564 := r3
      have HLT := hidI hlt
      clear hx r1 r2 r3 r4 hdr
      go_wp2_with fail
      refine HRC.out.mono ?_
      rintro e w5 ⟨a5, m5, c5, rfl, hh5, hbx5, hF5⟩
      have HH5 := hidI hh5
      have HBX5 := hidI hbx5
      have HF5 := hidI (HF.out.trans ⟨hF5.os, hF5.tape, hF5.output, hF5.size, hF5.block⟩)
      have s5 := hF5.size
      unfold okE
      clear hh5 hbx5 hF5 hc4 e0 e1 e2 e3
      go_wp2_with fail
      go_roundw
      case rel => exact ⟨k + 1, _, _, a5, m5, c5, by go_num, HNXT.out, HH5.out, HBX5.out, HF5.out, by omega⟩
      case measure => simp [intOf]; omega
    · have hkl : ¬ k < xs.length := by rw [← HAM.out]; exact hlt
      obtain ⟨d1, d2⟩ := HI.out.done hkl
      have HD1 := hidI d1
      have HD2 : Hid ((am : Int) = NN) := by show (am : Int) = NN; rw [HNN.out, HAM.out]; exact d2
      clear d1 d2
      go_wp2_with fail
      go_ret
      exact ⟨HF.out, by rw [← HD2.out]; rfl, by rw [← HD1.out]; exact HBX4.out⟩
def numOf (E : Int) (N : Int) : Int := if E = 0 then N else 0
def letE (p : PlanD) (s : StateD) (l : List ArrD) : Int := if stE p s ≠ 0 then stE p s else arE p s l
theorem letters_any (p : PlanD) (a1 a2 a3 : Option Addr) (n1 c1 n2 c2 n3 c3 : Nat) (s : StateD) (b1 b2 b3 : Option Addr) (m1 d1 m2 d2 m3 d3 : Nat) (l : List ArrD) (b : Option Addr) (mb cb : Nat) (w : World) (hp : PlanAt w a1 a2 a3 n1 n2 n3 p) (hs : StateAt w b1 b2 b3 m1 m2 m3 s) (hn2 : b2 = none → d2 = 0) (hn3 : b3 = none → d3 = 0) (hl : ArrsAt w b l) (hll : l.length = mb) (hmb : mb ≤ maxLen) (hbn : b = none → cb = 0 ∧ mb = 0) :
    Calls Tryz.prog 21 #[.agg #[.slice a1 n1 c1, .slice a2 n2 c2, .slice a3 n3 c3], .agg #[.slice b1 m1 d1, .slice b2 m2 d2, .slice b3 m3 d3, .int .i64 s.nextSeq, .int .i64 s.nextTag, .int .i64 s.came, .int .i64 s.acked, .int .i64 s.dropped], .slice b mb cb] w fun e w' => ∃ v, e = .returned (.tuple #[v, .int .i64 (numOf (letE p s l) ((arrN p 600 s l : Nat))), .int .i64 (letE p s l)]) ∧ StRes w' w.heap.size v (letE p s l) (arrS p 600 s l) ∧ Below w.heap.size w w' := by
  obtain ⟨hz5, hg5, hB5⟩ := allocs_heap [.cells #[.slice a1 n1 c1, .slice a2 n2 c2, .slice a3 n3 c3] 26, .cells #[.slice b1 m1 d1, .slice b2 m2 d2, .slice b3 m3 d3, .int .i64 s.nextSeq, .int .i64 s.nextTag, .int .i64 s.came, .int .i64 s.acked, .int .i64 s.dropped] 31, .cells #[.slice b mb cb] 32, .cells #[.slice none 0 0, .slice none 0 0, .slice none 0 0, .int .i64 0, .int .i64 0, .int .i64 0, .int .i64 0, .int .i64 0] 31] w
  obtain ⟨W5, hW5⟩ : ∃ W5, W5 = List.foldl World.alloc w [.cells #[.slice a1 n1 c1, .slice a2 n2 c2, .slice a3 n3 c3] 26, .cells #[.slice b1 m1 d1, .slice b2 m2 d2, .slice b3 m3 d3, .int .i64 s.nextSeq, .int .i64 s.nextTag, .int .i64 s.came, .int .i64 s.acked, .int .i64 s.dropped] 31, .cells #[.slice b mb cb] 32, .cells #[.slice none 0 0, .slice none 0 0, .slice none 0 0, .int .i64 0, .int .i64 0, .int .i64 0, .int .i64 0, .int .i64 0] 31] := ⟨_, rfl⟩
  rw [← hW5] at hz5 hg5 hB5
  have HW5 : Hid (W5 = ((((w.alloc (.cells #[.slice a1 n1 c1, .slice a2 n2 c2, .slice a3 n3 c3] 26)).alloc (.cells #[.slice b1 m1 d1, .slice b2 m2 d2, .slice b3 m3 d3, .int .i64 s.nextSeq, .int .i64 s.nextTag, .int .i64 s.came, .int .i64 s.acked, .int .i64 s.dropped] 31)).alloc (.cells #[.slice b mb cb] 32)).alloc (.cells #[.slice none 0 0, .slice none 0 0, .slice none 0 0, .int .i64 0, .int .i64 0, .int .i64 0, .int .i64 0, .int .i64 0] 31))) := hW5
  have hz5' : W5.heap.size = w.heap.size + 4 := by rw [hz5]; rfl
  have x0 := hg5 0 _ rfl
  have x1 := hg5 1 _ rfl
  have x2 := hg5 2 _ rfl
  have x3 := hg5 3 _ rfl
  obtain ⟨E, hE⟩ : ∃ E, E = letE p s l := ⟨_, rfl⟩
  rw [← hE]
  obtain ⟨N, hN⟩ : ∃ N, N = numOf E ((arrN p 600 s l : Nat)) := ⟨_, rfl⟩
  rw [← hN]
  have T := told_any p a1 a2 a3 n1 c1 n2 c2 n3 c3 s b1 b2 b3 m1 d1 m2 d2 m3 d3 62 (fun _ _ => rfl) #[.pointer (some ⟨w.heap.size, 0, none⟩), .pointer (some ⟨w.heap.size + 2, 0, none⟩)] E ((arrN p 600 s l : Nat)) (arrS p 600 s l) W5 (hp.keep hB5) (hs.keep hB5) hn2 hn3
    (fun h => by rw [hE]; unfold letE; rw [if_pos h])
    (fun h => by
      have e : E = arE p s l := by rw [hE]; unfold letE; rw [if_neg (by simp [h])]
      rw [e]
      exact letters1_does p a1 a2 a3 n1 c1 n2 c2 n3 c3 s l b mb cb _ _ W5 (hp.keep hB5) x0 x2 (hl.keep hB5) hll hmb hbn (right_of h))
  rw [show (if E = 0 then (((arrN p 600 s l : Nat) : Int)) else 0) = N from hN.symm] at T
  have HT := hidI T
  have X4 := hidI x3
  have HZ5 := hidI hz5'
  have HB5 := hidI hB5
  have hmf : ∀ (fn : Fn) (first cap : Array Value) (w : World), (Instr.makeFunc fn first cap).run Tryz.prog w = .ok (.func fn first cap) w := fun _ _ _ _ => rfl
  clear T hW5 hz5 hz5' hg5 hB5 x0 x1 x2 x3 hE hN hp hs hn2 hn3 hl hll hmb hbn
  go_enter Tryz.func21, Tryz.ntmps21
  go_wp2_with fail
  rw [← HW5.out]
  refine HT.out.mono ?_
  rintro e w6 ⟨v, rfl, hres, hB6⟩
  have x6 := pkp_ X4.out hB6
  obtain ⟨y0, y1, y2, y3, y4, y5, y6, y7⟩ := st_cells x6
  have f0 := foc_ x6 0
  have f1 := foc_ x6 1
  have f2 := foc_ x6 2
  have f3 := foc_ x6 3
  have f4 := foc_ x6 4
  have f5 := foc_ x6 5
  have f6 := foc_ x6 6
  have f7 := foc_ x6 7
  obtain ⟨x1, x2, x3, k1, e1, k2, e2, k3, e3, i1, i2, i3, i4, i5, rfl⟩ := hres.shape
  have X6 := hidI x6
  have HRES := hidI hres
  have HB6 := hidI hB6
  clear x6 hres hB6
  go_wp2_with fail
  generalize hW4 : World.setCell (World.setCell (World.setCell (World.setCell (World.setCell (World.setCell (World.setCell (World.setCell w6 _ _) _ _) _ _) _ _) _ _) _ _) _ _) _ _ = W4
  obtain ⟨b4, t4⟩ := store8 X6.out hW4
  obtain ⟨z0, z1, z2, z3, z4, z5, z6, z7⟩ := st_cells b4
  exact bodyPost_ret (v := .tuple #[.agg #[.slice x1 k1 e1, .slice x2 k2 e2, .slice x3 k3 e3, .int .i64 i1, .int .i64 i2, .int .i64 i3, .int .i64 i4, .int .i64 i5], .int .i64 N, .int .i64 E]) (by simp [results, Tryz.results21, go_sem, z0, z1, z2, z3, z4, z5, z6, z7]) rfl ⟨_, rfl, (HRES.out.turn X6.out t4).lower (by have := HZ5.out; omega), HB5.out.trans ((HB6.out.mono HB5.out.size).trans (t4.below (by have := HB6.out.size; have := HZ5.out; omega) (by omega)))⟩
theorem ints_own {W : World} {base : Nat} {u : Value} {zs : List Int} {n : Nat} (h : W.ownsRow base 3 1 u n (zs.map (Value.int .i64))) : ∃ a c, u = .slice a zs.length c ∧ IntsAt W a zs := by
  have hn : n = zs.length := by have := h.1; simp at this; omega
  subst hn
  by_cases hne : zs = []
  · subst hne
    rcases h.2 with ⟨rfl, _⟩ | ⟨g, cap, cur, rfl, _, _, _, _, _⟩
    · exact ⟨none, 0, rfl, .inl rfl⟩
    · exact ⟨_, cap, rfl, .inl rfl⟩
  · obtain ⟨g, c, rfl, _, _, _, hr⟩ := row_ints h hne
    exact ⟨_, c, rfl, hr.ints⟩
theorem row_keepN {w1 w2 : World} {base : Nat} {v : Value} {n : Nat} {xs : List Value} {e : TypeId} {size : Nat} (h : w1.ownsRow base e size v n xs) (hB : Below w1.heap.size w1 w2) : w2.ownsRow base e size v n xs := (Turn.of_below (fun _ => False) hB).row h (fun _ _ => id)
theorem bools_at {W : World} {base g n : Nat} {bs : List Bool} (h : W.ownsRow base 4 1 (.slice (some ⟨g, 0, none⟩) n n) n (bs.map Value.bool)) (hl : bs.length = n) {i : Nat} (hi : i < n) : W.cell? ⟨g, i, none⟩ = some (.bool (bs.getD i false)) := by
  rw [h.cellAt i (by omega), List.getElem?_map, List.getElem?_eq_getElem (by omega), List.getD_eq_getElem?_getD, List.getElem?_eq_getElem (by omega)]
  rfl
theorem bools_set {W : World} {base g n : Nat} {bs : List Bool} (h : W.ownsRow base 4 1 (.slice (some ⟨g, 0, none⟩) n n) n (bs.map Value.bool)) (i : Nat) : (W.setCell ⟨g, i, none⟩ (.bool true)).ownsRow base 4 1 (.slice (some ⟨g, 0, none⟩) n n) n ((bs.set i true).map Value.bool) := by
  have := (h.stored i (.bool true)).1
  rw [List.map_set]; exact this
theorem plan_box_keep {W W' : World} {b : Nat} {cs : Array Value} {t : TypeId} (h : W.heap[b]? = some (.cells cs t (0, 0))) (hB : Below W.heap.size W W') : W'.heap[b]? = some (.cells cs t (0, 0)) := (hB.block b (lth_ h)).trans h
theorem set_other {W : World} {b g i : Nat} {o : Obj} (h : W.heap[b]? = some o) (hne : b ≠ g) (u : Value) : (W.setCell ⟨g, i, none⟩ u).heap[b]? = some o := ((setCell_turn W g i u).block b (lth_ h) (by omega)).trans h
structure MSt (w : World) (pv : Array Value) (n1 : Nat) (bs : List Bool) (W : World) : Prop where
  len : bs.length = n1
  row : W.ownsRow (w.heap.size + 1) 4 1 (.slice (some ⟨w.heap.size + 1, 0, none⟩) n1 n1) n1 (bs.map Value.bool)
  box : W.heap[w.heap.size]? = some (.cells pv 26 (0, 0))
  below : Below w.heap.size w W
theorem MSt.keep {w : World} {pv : Array Value} {n1 : Nat} {bs : List Bool} {W W' : World} (h : MSt w pv n1 bs W) (hB : Below W.heap.size W W') : MSt w pv n1 bs W' :=
  ⟨h.len, row_keepN h.row hB, plan_box_keep h.box hB, h.below.trans (hB.mono h.below.size)⟩
theorem MSt.set {w : World} {pv : Array Value} {n1 : Nat} {bs : List Bool} {W : World} (h : MSt w pv n1 bs W) (i : Nat) : MSt w pv n1 (bs.set i true) (W.setCell ⟨w.heap.size + 1, i, none⟩ (.bool true)) :=
  ⟨by rw [List.length_set]; exact h.len, bools_set h.row i, set_other h.box (by omega) _, h.below.setCell (p := ⟨w.heap.size + 1, i, none⟩) (Nat.le_succ _) _⟩
theorem MSt.start {w w1 : World} {pv : Array Value} {n1 : Nat} (hgrow : (w.alloc (.cells pv 26)).grownBy w1 none) (hown : w1.ownsRow (w.heap.size + 1) 4 1 (.slice (some ⟨(w.alloc (.cells pv 26)).heap.size, 0, none⟩) n1 n1) n1 (madeCells (Value.bool false).cells (n1 * 1)).toList) : MSt w pv n1 (List.replicate n1 false) w1 := by
  refine ⟨by simp, ?_, ?_, ((Below.refl _ _).alloc (Nat.le_refl _) _).grown hgrow (by simp) (fun k e => by cases e)⟩
  · rw [made_bools, World.size_alloc] at hown; rw [List.map_replicate]; exact hown
  · exact (hgrow.block w.heap.size (by simp) (by simp)).trans (World.alloc_heap_new w _)
theorem postsOf_any (p : PlanD) (a1 a2 a3 : Option Addr) (n1 c1 n2 c2 n3 c3 : Nat) (v : Nat) (key : ByteArray) (w : World) (hp : PlanAt w a1 a2 a3 n1 n2 n3 p) (hr : RightP p) (hv : v < n1) (hk : key.size ≤ 24) :
    Calls Tryz.prog 148 #[.agg #[.slice a1 n1 c1, .slice a2 n2 c2, .slice a3 n3 c3], .int .i64 v, .string key] w fun e w' => ∃ zs a c, e = .returned (.slice a zs.length c) ∧ PostsIs p key v zs ∧ zs.length ≤ 4 ∧ IntsAt w' a zs ∧ Below w.heap.size w w' := by
  obtain ⟨i0, hi, hz0, hz1, hz2⟩ := info_parts Tryz.info4
  obtain ⟨i3, hi3, hy0, hy1, hy2⟩ := info_parts Tryz.infoInt
  have HP := hidIt hp
  have HR := hidIt hr
  have h4 : n1 ≤ 4 := by rw [← hp.l1]; exact hr.few.1
  have h10 : n3 ≤ 10 := by rw [← hp.l3]; exact hr.few.2.2
  have HL3 : Hid (p.binds.length = n3) := hp.l3
  have HL1 : Hid (p.posts.length = n1) := hp.l1
  have HKS := hidIt hk
  have hvi : (v : Int) < n1 := by omega
  have HMS : Hid (Marked (arcOf p key) v ((List.replicate n1 false).set v true) 0 0) := Marked.start hv
  obtain ⟨b0, b1, b2⟩ := plan_box w (.slice a1 n1 c1) (.slice a2 n2 c2) (.slice a3 n3 c3) 26
  clear hp hr hk
  go_enter Tryz.func148, Tryz.ntmps148
  go_wp2_with (at_make; refine wpList_make_full _ rfl _ _ 170 rfl (w.heap.size + 1) 4 i0 (.bool false) 1 Tryz.underlying170 hi hz0 hz1 _ _ _ _ n1 rfl rfl rfl rfl (by rw [hz2]; omega) (by unfold maxLen; omega) (by simp) ?_; intro w1 hown1 hgrow1; have hm1 := MSt.start hgrow1 hown1; have hck : w1.cell? ⟨w.heap.size + 1, v, none⟩ = some (.bool false) := (bools_at hm1.row hm1.len hv).trans (by rw [getD_repl]); have hfk : w1.frozen? ⟨w.heap.size + 1, v, none⟩ = false := hm1.row.frozenAt v)
  have HM1 := hidIt (hm1.set v)
  clear hm1 hck hfk hown1 hgrow1 b0 b1 b2
  have STEP : Hid (∀ (bs : List Bool) (r k : Nat) (W : World), MSt w #[.slice a1 n1 c1, .slice a2 n2 c2, .slice a3 n3 c3] n1 bs W → k < n3 → ∃ gb o, a3 = some ⟨gb, o, none⟩ ∧ gb < W.heap.size ∧ W.cell? ⟨gb, o + k * 4, none⟩ = some (.int .i64 (bAt p k).src) ∧ W.cell? ⟨gb, o + k * 4 + 1, none⟩ = some (.bool (bAt p k).toPost) ∧ W.cell? ⟨gb, o + k * 4 + 2, none⟩ = some (.int .i64 (bAt p k).dst) ∧ W.cell? ⟨gb, o + k * 4 + 3, none⟩ = some (.string (bAt p k).pat)) := by
    intro bs r k W hM hk
    have hkl : k < p.binds.length := by rw [HL3.out]; exact hk
    rcases (HP.out.p3.keep hM.below) with h | ⟨gb, o, h1, h2, h3⟩
    · rw [h] at hkl; simp at hkl
    · have := h3 k hkl
      rw [← bAt_get hkl] at this
      exact ⟨gb, o, h1, h2, this⟩
  go_loopw [8, 9, 10] (fun i _ _ wr => ∃ (r : Nat) (bs : List Bool), r ≤ n1 ∧ i = .int .i64 r ∧ Marked (arcOf p key) v bs r 0 ∧ MSt w #[.slice a1 n1 c1, .slice a2 n2 c2, .slice a3 n3 c3] n1 bs wr) (fun i _ _ _ => n1 - (intOf i).toNat)
  case atStart => exact ⟨0, _, Nat.zero_le _, rfl, HMS.out, HM1.out⟩
  case round =>
    obtain ⟨r, bs, hr, rfl, hmk, hst⟩ := hrel
    have e0 := coc_ hst.box 0
    have e1 := coc_ hst.box 1
    have e2 := coc_ hst.box 2
    simp at e0 e1 e2
    have HST := hidIt hst
    have HMK := hidIt hmk
    clear hst hmk HM1
    by_cases hlt : r < n1
    · have HLT := hidIt hlt
      go_wp2_with fail
      go_loopw [9, 10] (fun i _ wr => ∃ (k : Nat) (bs : List Bool), k ≤ n3 ∧ i = .int .i64 k ∧ Marked (arcOf p key) v bs r k ∧ MSt w #[.slice a1 n1 c1, .slice a2 n2 c2, .slice a3 n3 c3] n1 bs wr) (fun i _ _ => n3 - (intOf i).toNat)
      case atStart => exact ⟨0, bs, Nat.zero_le _, rfl, HMK.out, HST.out⟩
      case round =>
        clear HMK HST e0 e1 e2
        obtain ⟨k, bs, hk, rfl, hmk, hst⟩ := hrel
        have e0 := coc_ hst.box 0
        have e1 := coc_ hst.box 1
        have e2 := coc_ hst.box 2
        simp at e0 e1 e2
        have HST := hidIt hst
        have HMK := hidIt hmk
        have sw : w.heap.size + 1 < wr.heap.size := by
          have := hst.row.lt (w.heap.size + 1) rfl; omega
        have sw0 : w.heap.size < wr.heap.size := by omega
        by_cases hkl : k < n3
        · have HKL := hidIt hkl
          obtain ⟨gb, o, ha3, hgb, r0, r1, r2, r3⟩ := STEP.out bs r k wr hst hkl
          have hbl : k < p.binds.length := by rw [HL3.out]; exact hkl
          have hsr := HR.out.src _ (List.getElem_mem hbl)
          rw [← bAt_get hbl] at hsr
          obtain ⟨x, hx⟩ := Int.eq_ofNat_of_zero_le hsr.1
          have hxl : x < n1 := by rw [← HL1.out]; omega
          have hcx := bools_at hst.row hst.len hxl
          rw [hx] at r0
          have i1 : (0 : Int) ≤ (k : Int) := by omega
          have i2 : (k : Int) < n3 := by omega
          have i3 : (0 : Int) ≤ (x : Int) := by omega
          have i4 : (x : Int) < n1 := by omega
          obtain ⟨tp, htp⟩ : ∃ tp, tp = (bAt p k).toPost := ⟨_, rfl⟩
          obtain ⟨y, hy⟩ : ∃ y, y = (bAt p k).dst := ⟨_, rfl⟩
          obtain ⟨pt, hpt⟩ : ∃ pt, pt = (bAt p k).pat := ⟨_, rfl⟩
          obtain ⟨m, hm⟩ : ∃ m, m = bs.getD x false := ⟨_, rfl⟩
          rw [← htp] at r1
          rw [← hy] at r2
          rw [← hpt] at r3
          rw [← hm] at hcx
          have HTP := hidIt htp
          have HX := hidIt hx
          have HY := hidIt hy
          have HM := hidIt hm
          have HWR : Hid (∀ u, Below wr.heap.size wr (wr.alloc (.cells u 122))) := fun u => (Below.refl _ _).alloc (Nat.le_refl _) _
          subst ha3
          clear hst hmk hbl hsr hx htp hy hpt hm hxl
          cases tp with
          | false =>
            go_wp2_with fail
            go_roundw
            case rel => exact ⟨k + 1, bs, by have := HKL.out; omega, by go_num, HMK.out.stay (fun u z h => by have := (arc_some HR.out h).2.2.1; rw [← HTP.out] at this; cases this), HST.out.keep (HWR.out _)⟩
            case measure => simp [intOf]; omega
          | true =>
            cases m with
            | false =>
              go_wp2_with fail
              go_roundw
              case rel => exact ⟨k + 1, bs, by have := HKL.out; omega, by go_num, HMK.out.stay (fun u z h => by have h4 := (arc_some HR.out h).2.2.2.1; have e : u = x := by have := HX.out; omega
                                                                                                                rw [e]; exact HM.out.symm), HST.out.keep (HWR.out _)⟩
              case measure => simp [intOf]; omega
            | true =>
              obtain ⟨W2, hW2⟩ : ∃ W2, W2 = wr.alloc (.cells #[.int .i64 x, .bool true, .int .i64 y, .string pt] 122) := ⟨_, rfl⟩
              have HW2 := hidIt hW2
              have hM2 : MSt w #[.slice a1 n1 c1, .slice a2 n2 c2, .slice (some ⟨gb, o, none⟩) n3 c3] n1 bs W2 := by rw [hW2]; exact HST.out.keep (HWR.out _)
              have hb2 : W2.heap[wr.heap.size]? = some (.cells #[.int .i64 x, .bool true, .int .i64 y, .string pt] 122 (0, 0)) := by rw [hW2]; exact World.alloc_heap_new wr _
              have HM2 := hidIt hM2
              have HB2 := hidIt hb2
              clear hW2 hM2 hb2
              go_wp2_with fail
              rw [← HW2.out]
              refine (rfits_any p _ _ _ _ _ _ _ _ _ k key _ (HP.out.keep HM2.out.below) HR.out HKL.out HKS.out).mono ?_
              rintro e w3 ⟨rfl, hB3⟩
              have hM3 := HM2.out.keep hB3
              have hb3 := plan_box_keep HB2.out hB3
              have x2 := coc_ hb3 2
              simp at x2
              have hbl : k < p.binds.length := by rw [HL3.out]; exact HKL.out
              have hds := dst_ok HR.out k HTP.out.symm
              rw [← HY.out] at hds
              obtain ⟨d, hd⟩ := Int.eq_ofNat_of_zero_le hds.1
              have hdn : d < n1 := by rw [← HL1.out]; omega
              subst hd
              have hcd := bools_at hM3.row hM3.len hdn
              have hfd := hM3.row.frozenAt d
              have j3 : (0 : Int) ≤ (d : Int) := by omega
              have j4 : (d : Int) < n1 := by omega
              have HM3 := hidIt hM3
              have HDL : Hid (d < bs.length) := by rw [hM3.len]; exact hdn
              obtain ⟨ft, hft⟩ : ∃ ft, ft = fitP p k key := ⟨_, rfl⟩
              rw [← hft]
              have HFT := hidIt hft
              have HARC : Hid (ft = true → arcOf p key k = some (x, d)) := fun h => by
                show arcOf p key k = _
                unfold arcOf
                rw [if_pos ⟨hbl, by rw [← HFT.out]; exact h, HTP.out.symm⟩, HX.out, ← HY.out, Int.toNat_natCast, Int.toNat_natCast]
              clear hM3 hb3 hbl hds hdn hft r0 r1 r2 r3 hcx e0 e1 e2 hB3
              cases ft with
              | true =>
                go_wp2_with fail
                go_roundw
                case rel => exact ⟨k + 1, bs.set d true, by have := HKL.out; omega, by go_num, HMK.out.mark (HARC.out (by trivial)) HM.out.symm HDL.out, HM3.out.set d⟩
                case measure => simp [intOf]; omega
              | false =>
                go_wp2_with fail
                go_roundw
                case rel => exact ⟨k + 1, bs, by have := HKL.out; omega, by go_num, HMK.out.stay (fun u z h => by have := (arc_some HR.out h).2.1; rw [← HFT.out] at this; cases this), HM3.out⟩
                case measure => simp [intOf]; omega
        · have hke : k = n3 := by omega
          subst hke
          clear hkl hk hst hmk
          go_wp2_with fail
          go_roundw
          case rel => exact ⟨r + 1, bs, HLT.out, by have := HLT.out; go_num, HMK.out.next (fun m q h => by have := arc_lt m q h; rw [HL3.out] at this; exact this), HST.out⟩
          case measure => have := HLT.out; simp [intOf]; omega
    · have hre : r = n1 := by omega
      subst hre
      have HPI : Hid (PostsIs p key v (numsTo (fun i => bs.getD i false) r)) := by
        have := posts_marked HR.out (by rw [HL1.out]; exact hv) HMK.out (by rw [HL1.out]; exact Nat.le_refl _)
        rw [HL1.out] at this; exact this
      obtain ⟨f, hf⟩ : ∃ f : Nat → Bool, f = fun i => bs.getD i false := ⟨_, rfl⟩
      obtain ⟨w5, h5⟩ : ∃ w5, w5 = wr := ⟨_, rfl⟩
      subst h5
      have HF : Hid (∀ i, f i = bs.getD i false) := fun i => by rw [hf]
      rw [← hf] at HPI
      have s5 := HST.out.below.size
      clear hlt hr hf HMK
      go_wp2_with fail
      go_loopw [11, 12] (fun u i wr => ∃ (k : Nat), k ≤ r ∧ i = .int .i64 k ∧ wr.ownsRow w5.heap.size 3 1 u (numsTo f k).length ((numsTo f k).map (Value.int .i64)) ∧ Below w5.heap.size w5 wr) (fun _ i _ => r - (intOf i).toNat)
      case atStart => exact ⟨0, Nat.zero_le _, rfl, World.ownsRow_nil _ _ _ _, Below.refl _ _⟩
      case round =>
        obtain ⟨k, hk, rfl, hrow, hB⟩ := hrel
        have hst := HST.out.keep hB
        by_cases hkl : k < r
        · have hck := bools_at hst.row hst.len hkl
          have i1 : (0 : Int) ≤ (k : Int) := by omega
          have i2 : (k : Int) < r := by omega
          have hle := nums_len f k
          have sB := hB.size
          rw [← HF.out] at hck
          obtain ⟨n, hn⟩ : ∃ n, n = (numsTo f k).length := ⟨_, rfl⟩
          rw [← hn] at hrow hle
          have HN := hidIt hn
          have HROW := hidIt hrow
          clear hn hst
          cases hfk : f k with
          | true =>
            rw [hfk] at hck
            have HFK := hidIt hfk
            clear hfk
            go_wp2_with (at_builtin; refine wpList_append_own _ rfl _ _ 48 rfl w5.heap.size 3 i3 (.int .i64 0) 1 8 Tryz.underlying48 hi3 hy0 hy1 hy2 rfl (by decide) _ _ _ rfl (hrow.alloc _) ⟨wr.heap.size, 0, none⟩ 1 1 [.int .i64 (k : Nat)] rfl rfl (cell_one_new _ _ _) (by simp [Value.oneCell']) (by unfold maxLen; omega) (by omega) (by simp; omega) ?_; intro v' w3 hown' hgrow _; have hB3 : Below w5.heap.size w5 w3 := (hB.alloc sB _).grown hgrow (by simp; omega) (own_ge hrow))
            go_roundw
            case rel => exact ⟨k + 1, by omega, by go_num, by rw [nums_yes HFK.out, List.length_append, List.map_append, ← HN.out]; exact hown', hB3⟩
            case measure => simp [intOf]; omega
          | false =>
            rw [hfk] at hck
            have HFK := hidIt hfk
            clear hfk
            go_wp2_with fail
            go_roundw
            case rel => exact ⟨k + 1, by omega, by go_num, by rw [nums_no HFK.out, ← HN.out]; exact HROW.out, hB⟩
            case measure => simp [intOf]; omega
        · have hke : k = r := by omega
          subst hke
          obtain ⟨a, c, rfl, hI⟩ := ints_own hrow
          have HI := hidIt hI
          have hle := nums_len f k
          clear hrow hkl hI hst
          go_wp2_with fail
          go_ret
          exact ⟨numsTo f k, a, c, rfl, HPI.out, by omega, HI.out, HST.out.below.trans (hB.mono s5)⟩
theorem rin_any (zs : List Int) (a : Option Addr) (n c : Nat) (z : Int) (w : World) (hn : zs.length = n) (hm : n ≤ 1000) (h : IntsAt w a zs) :
    Calls Tryz.prog 149 #[.slice a n c, .int .i64 z] w fun e w' => e = .returned (.bool (decide (z ∈ zs))) ∧ Below w.heap.size w w' := by
  have HN := hidIt hn
  have H := hidIt h
  clear hn h
  go_enter Tryz.func149, Tryz.ntmps149
  go_wp2_with fail
  go_loopw [5] (fun i wr => ∃ (k : Nat), k ≤ n ∧ i = .int .i64 k ∧ (z ∉ zs.take k) ∧ Below w.heap.size w wr) (fun i _ => n - (intOf i).toNat)
  case atStart => exact ⟨0, Nat.zero_le _, rfl, by simp, Below.refl _ _⟩
  case round =>
    obtain ⟨k, hk, rfl, hno, hB⟩ := hrel
    have HNO := hidIt hno
    clear hno
    by_cases hlt : k < n
    · have hkl : k < zs.length := by rw [HN.out]; exact hlt
      rcases H.out with h | ⟨g, rfl, hg, hx⟩
      · rw [h] at hkl; simp at hkl
      have d1 := (hB.cell (p := ⟨g, k, none⟩) hg).trans (hx k hkl)
      have HKM : Hid (zs[k] ∈ zs) := List.getElem_mem hkl
      have HTK : Hid (zs.take (k + 1) = zs.take k ++ [zs[k]]) := List.take_succ_eq_append_getElem hkl
      obtain ⟨y, hy⟩ : ∃ y, y = zs[k] := ⟨_, rfl⟩
      rw [← hy] at d1 HKM HTK
      have j1 : (0 : Int) ≤ (k : Int) := by omega
      have j2 : (k : Int) < n := by omega
      clear hx hy
      by_cases hyz : y = z
      · subst hyz
        go_wp2_with fail
        go_ret
        exact ⟨ret_bool (by rw [decide_eq_true HKM.out]), hB⟩
      · have hyz' : (y == z) = false := by simpa using hyz
        have HYZ := hidIt hyz
        clear hyz
        go_wp2_with fail
        go_roundw
        case rel => exact ⟨k + 1, by omega, by go_num, by rw [HTK.out, List.mem_append, List.mem_singleton]; exact fun h => h.elim HNO.out (fun e => HYZ.out e.symm), hB⟩
        case measure => simp [intOf]; omega
    · have hke : k = n := by omega
      subst hke
      clear hlt hk
      go_wp2_with fail
      go_ret
      exact ⟨ret_bool (by rw [decide_eq_false]; have := HNO.out; rw [← HN.out, List.take_length] at this; exact this), hB⟩
theorem queuesOf_any (p : PlanD) (a1 a2 a3 : Option Addr) (n1 c1 n2 c2 n3 c3 : Nat) (v : Nat) (key : ByteArray) (w : World) (hp : PlanAt w a1 a2 a3 n1 n2 n3 p) (hr : RightP p) (hv : v < n1) (hk : key.size ≤ 24) :
    Calls Tryz.prog 85 #[.agg #[.slice a1 n1 c1, .slice a2 n2 c2, .slice a3 n3 c3], .int .i64 v, .string key] w fun e w' => ∃ zs a c, e = .returned (.slice a zs.length c) ∧ QueuesIs p key v zs ∧ zs.length ≤ 4 ∧ IntsAt w' a zs ∧ Below w.heap.size w w' := by
  obtain ⟨i3, hi3, hy0, hy1, hy2⟩ := info_parts Tryz.infoInt
  obtain ⟨W1, hW1, hBw, hs1, hbx⟩ := plan_boxed w (.slice a1 n1 c1) (.slice a2 n2 c2) (.slice a3 n3 c3) 26
  have HW1 := hidIt hW1
  have HP1 : Hid (PlanAt W1 a1 a2 a3 n1 n2 n3 p) := hp.keep hBw
  have BX := hidIt hbx
  have HR := hidIt hr
  have h4 : n2 ≤ 4 := by rw [← hp.l2]; exact hr.few.2.1
  have h10 : n3 ≤ 10 := by rw [← hp.l3]; exact hr.few.2.2
  have HL3 : Hid (p.binds.length = n3) := hp.l3
  have HL2 : Hid (p.queues.length = n2) := hp.l2
  have HKS := hidIt hk
  have HVI := hidIt hv
  have s0 := hBw.size
  have hs1' : w.heap.size < W1.heap.size := by omega
  clear hp hr hk hW1 hbx hs1 hv
  go_enter Tryz.func85, Tryz.ntmps85
  go_wp2_with fail
  rw [← HW1.out]
  refine (postsOf_any p _ _ _ _ _ _ _ _ _ v key _ HP1.out HR.out HVI.out HKS.out).mono ?_
  rintro e w5 ⟨ps, ap, cp, rfl, hps, hp4, hpi, hB5⟩
  have HPS := hidIt hps
  have HPI := hidIt hpi
  have HP4 := hidIt hp4
  obtain ⟨F, hF⟩ : ∃ F : Nat → Bool, F = fun q : Nat => goesTo p key ps (q : Int) p.binds.length := ⟨_, rfl⟩
  have HF : Hid (∀ q, F q = goesTo p key ps (q : Int) n3) := fun q => by rw [hF, HL3.out]
  have HQ : Hid (QueuesIs p key v (numsTo F n2)) := by
    have := queues_told HR.out HPS.out
    rw [← hF, HL2.out] at this; exact this
  obtain ⟨mp, hmp⟩ : ∃ mp, mp = ps.length := ⟨_, rfl⟩
  rw [← hmp]
  have HMP := hidIt hmp
  have s5 := hB5.size
  have HB5 := hidIt hB5
  have KEEP : Hid (∀ W, Below w5.heap.size w5 W → Below W1.heap.size W1 W) := fun W hW => hB5.trans (hW.mono s5)
  clear hps hpi hp4 hF hmp hB5
  go_wp2_with fail
  go_loopw [8, 9, 10, 11, 12] (fun u i _ _ _ wr => ∃ (q : Nat), q ≤ n2 ∧ i = .int .i64 q ∧ wr.ownsRow w5.heap.size 3 1 u (numsTo F q).length ((numsTo F q).map (Value.int .i64)) ∧ Below w5.heap.size w5 wr) (fun _ i _ _ _ _ => n2 - (intOf i).toNat)
  case atStart => exact ⟨0, Nat.zero_le _, rfl, World.ownsRow_nil _ _ _ _, Below.refl _ _⟩
  case round =>
    obtain ⟨q, hq, rfl, hrow, hB⟩ := hrel
    obtain ⟨d0, d1, d2⟩ := BX.out wr (KEEP.out _ hB)
    have sB := hB.size
    by_cases hql : q < n2
    · have HQL := hidIt hql
      have hle := nums_len F q
      obtain ⟨n, hn⟩ : ∃ n, n = (numsTo F q).length := ⟨_, rfl⟩
      rw [← hn] at hrow hle
      have HN := hidIt hn
      have HROW := hidIt hrow
      obtain ⟨w6, h6⟩ : ∃ w6, w6 = wr := ⟨_, rfl⟩
      subst h6
      have HB := hidIt hB
      clear hn hrow hB
      go_wp2_with fail
      go_loopw [10, 11, 12] (fun c i _ wr => ∃ (k : Nat), k ≤ n3 ∧ i = .int .i64 k ∧ c = .bool (goesTo p key ps (q : Int) k) ∧ Below w6.heap.size w6 wr) (fun _ i _ _ => n3 - (intOf i).toNat)
      case atStart => exact ⟨0, Nat.zero_le _, rfl, rfl, Below.refl _ _⟩
      case round =>
        obtain ⟨k, hk, rfl, rfl, hBk⟩ := hrel
        have hBK : Below w5.heap.size w5 wr := HB.out.trans (hBk.mono sB)
        clear d0 d1 d2
        obtain ⟨d0, d1, d2⟩ := BX.out wr (KEEP.out _ hBK)
        have hW1r := (KEEP.out _ hBK).size
        have sk : w.heap.size < wr.heap.size := by omega
        have sBk := hBk.size
        by_cases hkl : k < n3
        · have HKL := hidIt hkl
          have hbl : k < p.binds.length := by rw [HL3.out]; exact hkl
          rcases (HP1.out.p3.keep (KEEP.out _ hBK)) with h | ⟨gb, o, ha3, hgb, hbc⟩
          · rw [h] at hbl; simp at hbl
          obtain ⟨r0, r1, r2, r3⟩ := hbc k hbl
          rw [← bAt_get hbl] at r0 r1 r2 r3
          have i1 : (0 : Int) ≤ (k : Int) := by omega
          have i2 : (k : Int) < n3 := by omega
          have HGS := hidIt (goesTo_succ (p := p) (key := key) (ps := ps) (q := (q : Int)) (k := k))
          obtain ⟨x, hx⟩ : ∃ x, x = (bAt p k).src := ⟨_, rfl⟩
          obtain ⟨tp, htp⟩ : ∃ tp, tp = (bAt p k).toPost := ⟨_, rfl⟩
          obtain ⟨y, hy⟩ : ∃ y, y = (bAt p k).dst := ⟨_, rfl⟩
          obtain ⟨pt, hpt⟩ : ∃ pt, pt = (bAt p k).pat := ⟨_, rfl⟩
          obtain ⟨ft, hft⟩ : ∃ ft, ft = fitP p k key := ⟨_, rfl⟩
          obtain ⟨pi, hpi⟩ : ∃ pi, pi = decide (x ∈ ps) := ⟨_, rfl⟩
          obtain ⟨cm, hcm⟩ : ∃ cm, cm = goesTo p key ps (q : Int) k := ⟨_, rfl⟩
          rw [← htp, ← hy, ← hft, ← hcm, ← hx, ← hpi] at HGS
          rw [← hx] at r0
          rw [← htp] at r1
          rw [← hy] at r2
          rw [← hpt] at r3
          rw [← hcm]
          have HFT := hidIt hft
          have HPIN := hidIt hpi
          obtain ⟨W2, hW2⟩ : ∃ W2, W2 = wr.alloc (.cells #[.int .i64 x, .bool tp, .int .i64 y, .string pt] 122) := ⟨_, rfl⟩
          have HW2 := hidIt hW2
          have hB2 : Below wr.heap.size wr W2 := by rw [hW2]; exact (Below.refl _ _).alloc (Nat.le_refl _) _
          have hb2 : W2.heap[wr.heap.size]? = some (.cells #[.int .i64 x, .bool tp, .int .i64 y, .string pt] 122 (0, 0)) := by rw [hW2]; exact World.alloc_heap_new wr _
          have HB2 := hidIt (And.intro hB2 hb2)
          have HBK := hidIt hBK
          have HBk := hidIt hBk
          subst ha3
          clear hx htp hy hpt hft hpi hcm hbl hbc hW2 hB2 hb2 hBK hBk
          cases cm with
          | true =>
            go_wp2_with fail
            rw [← HW2.out]
            go_roundw
            case rel => exact ⟨k + 1, by have := HKL.out; omega, by go_num, by rw [HGS.out]; rfl, HBk.out.trans (HB2.out.1.mono sBk)⟩
            case measure => simp [intOf]; omega
          | false =>
            cases tp with
            | true =>
              go_wp2_with fail
              rw [← HW2.out]
              go_roundw
              case rel => exact ⟨k + 1, by have := HKL.out; omega, by go_num, by rw [HGS.out]; rfl, HBk.out.trans (HB2.out.1.mono sBk)⟩
              case measure => simp [intOf]; omega
            | false =>
              by_cases hyq : y = (q : Int)
              · have hyq1 : (y == (q : Int)) = true := by simpa using hyq
                have HYQ : Hid (decide (y = (q : Int)) = true) := decide_eq_true hyq
                clear hyq
                rw [HYQ.out] at HGS
                go_wp2_with fail
                rw [← HW2.out]
                refine (rin_any ps _ _ _ _ _ HMP.out.symm (by have := HP4.out; rw [HMP.out]; omega) ((HPI.out.keep HBK.out).keep HB2.out.1)).mono ?_
                rintro e w3 ⟨rfl, hB3⟩
                rw [← HPIN.out]
                have hb3 := plan_box_keep HB2.out.2 hB3
                have hB23 := HB2.out.1.trans (hB3.mono HB2.out.1.size)
                have hBK3 := HBK.out.trans (hB23.mono HBK.out.size)
                have hBk3 := HBk.out.trans (hB23.mono sBk)
                clear d0 d1 d2
                obtain ⟨d0, d1, d2⟩ := BX.out w3 (KEEP.out _ hBK3)
                have HK3 := hidIt (And.intro hBK3 hBk3)
                clear hb3 hB23 hBK3 hBk3 hB3
                cases pi with
                | false =>
                  go_wp2_with fail
                  go_roundw
                  case rel => exact ⟨k + 1, by have := HKL.out; omega, by go_num, by rw [HGS.out]; rfl, HK3.out.2⟩
                  case measure => simp [intOf]; omega
                | true =>
                  go_wp2_with fail
                  refine (rfits_any p _ _ _ _ _ _ _ _ _ k key _ (HP1.out.keep (KEEP.out _ HK3.out.1)) HR.out HKL.out HKS.out).mono ?_
                  rintro e w4 ⟨rfl, hB4⟩
                  rw [← HFT.out]
                  have HK4 := hidIt (HK3.out.2.trans (hB4.mono HK3.out.2.size))
                  go_wp2_with fail
                  go_roundw
                  case rel => exact ⟨k + 1, by have := HKL.out; omega, by go_num, by rw [HGS.out]; simp, HK4.out⟩
                  case measure => simp [intOf]; omega
              · have hyq1 : (y == (q : Int)) = false := by simpa using hyq
                have HYQ : Hid (decide (y = (q : Int)) = false) := decide_eq_false hyq
                clear hyq
                rw [HYQ.out] at HGS
                go_wp2_with fail
                rw [← HW2.out]
                go_roundw
                case rel => exact ⟨k + 1, by have := HKL.out; omega, by go_num, by rw [HGS.out]; rfl, HBk.out.trans (HB2.out.1.mono sBk)⟩
                case measure => simp [intOf]; omega
        · have hke : k = n3 := by omega
          subst hke
          have HBK := hidIt hBK
          have hrow := row_keepN HROW.out hBk
          rw [← HF.out]
          clear hkl hk
          cases hfq : F q with
          | true =>
            have HFQ := hidIt hfq
            clear hfq
            go_wp2_with (at_builtin; refine wpList_append_own _ rfl _ _ 48 rfl w5.heap.size 3 i3 (.int .i64 0) 1 8 Tryz.underlying48 hi3 hy0 hy1 hy2 rfl (by decide) _ _ _ rfl (hrow.alloc _) ⟨wr.heap.size, 0, none⟩ 1 1 [.int .i64 (q : Nat)] rfl rfl (cell_one_new _ _ _) (by simp [Value.oneCell']) (by unfold maxLen; omega) (by omega) (by simp; omega) ?_; intro v' w3 hown' hgrow _; have hB3 : Below w5.heap.size w5 w3 := (HBK.out.alloc HBK.out.size _).grown hgrow (by simp; omega) (own_ge hrow))
            go_roundw
            case rel => exact ⟨q + 1, HQL.out, by have := HQL.out; go_num, by rw [nums_yes HFQ.out, List.length_append, List.map_append, ← HN.out]; exact hown', hB3⟩
            case measure => have := HQL.out; simp [intOf]; omega
          | false =>
            have HFQ := hidIt hfq
            have HROW2 := hidIt hrow
            clear hfq hrow
            go_wp2_with fail
            go_roundw
            case rel => exact ⟨q + 1, HQL.out, by have := HQL.out; go_num, by rw [nums_no HFQ.out, ← HN.out]; exact HROW2.out, HBK.out⟩
            case measure => have := HQL.out; simp [intOf]; omega
    · have hqe : q = n2 := by omega
      subst hqe
      obtain ⟨a, c, rfl, hI⟩ := ints_own hrow
      have HI := hidIt hI
      have hle := nums_len F q
      clear hrow hql hI
      go_wp2_with fail
      go_ret
      exact ⟨numsTo F q, a, c, rfl, HQ.out, by omega, HI.out, hBw.trans ((KEEP.out _ hB).mono s0)⟩
end Go.Proofs.YtpoichgodamnkaaGreat
