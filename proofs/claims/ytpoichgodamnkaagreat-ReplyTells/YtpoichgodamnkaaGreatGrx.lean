import Derived.Deep.RegionHeld3
import Derived.Test.YtpoichgodamnkaaGreatGqx
import Derived.Test.YtpoichgodamnkaaGreatGbx
namespace Go.Proofs.YtpoichgodamnkaaGreat
open Go.RowKit Go.Maps
set_option linter.unusedVariables false
set_option maxRecDepth 100000
set_option maxHeartbeats 4000000
theorem stepA_row {L E : TypeId} {size bytes : Nat} (hE : ElemT L E size bytes) {w : World} {ops : Array Oper} {o : Oper} {act : Act} {K : Act → World → Prop} {Q : Exit → Act → World → Prop} {F : Prop} (hw : Region.wanted o (yielded ops act.tmps) = true) (s x : Operand)
  (ho : o.op = .call { callee := .builtin .append, args := #[s, x], argTypes := #[L, L] })
  (base : Nat) (v : Value) (n : Nat) (cs : List Value) (hs : act.eval s = v) (hown : w.ownsRow base E size v n cs)
  (a : Option Addr) (m c : Nat) (ds : List Value) (hx : act.eval x = .slice a m c) (hm : ds.length = m * size) (hz : a = none → c = 0 ∧ m = 0) (hT : RowAt w a ds) (h1 : ∀ u ∈ ds, u.oneCell' = true)
  (hb : n + m ≤ maxLen) (hby : (n + m) * bytes ≤ 140737488355328) (hbase : base ≤ w.heap.size)
  (h : ∀ v' w', w'.ownsRow base E size v' (n + m) (cs ++ ds) → w.grownBy w' v.ownBlock → (v'.ownBlock = v.ownBlock ∨ v'.ownBlock = some w.heap.size) → K (act.put o.dst v') w') :
  if Region.wanted o (yielded ops act.tmps) = true then Oper.wp Tryz.prog o act w K Q else F := by
 rw [if_pos hw]
 exact wp_append_row hE s x ho base v n cs hs hown a m c ds hx hm hz hT h1 hb hby hbase h
theorem dying_any (p : PlanD) (a1 a2 a3 : Option Addr) (n1 c1 n2 c2 n3 c3 : Nat) (q : Nat) (x : ItemD) (w : World) (hp : PlanAt w a1 a2 a3 n1 n2 n3 p) (hc : chkP p = 0) (hq : q < n2) (hx : itemOk x = true) :
  Calls Tryz.prog 101 #[.agg #[.slice a1 n1 c1, .slice a2 n2 c2, .slice a3 n3 c3], .int .i64 q, x.val] w fun e w' => ∃ v, e = .returned v ∧ ArrRes w' w.heap.size v (dieL p q x) ∧ Below w.heap.size w w' := by
 obtain ⟨W2, hW2⟩ : ∃ W2, W2 = (w.alloc (.cells #[.slice a1 n1 c1, .slice a2 n2 c2, .slice a3 n3 c3] 26)).alloc (.cells #[.int .i64 x.seq, .string x.key, .string x.body, .bool x.again, .int .i64 x.deaths] 43) := ⟨_, rfl⟩
 obtain ⟨hz2, hb1, hb2, hB2⟩ := two_heap w _ _ _ hW2
 have HP2 := hidI (hp.keep hB2)
 have HW2 := hidI hW2
 have HB2 := hidI hB2
 have HC := hidI hc
 have HXX := hidI hx
 have HR := hidI (chk_right hc)
 have HNL : Hid (q < p.queues.length) := by show q < p.queues.length; rw [hp.l2]; exact hq
 have hn1 : p.posts.length = n1 := hp.l1
 have HN1 := hidI hn1
 obtain ⟨g, o, hga, hgl, e0, e1, e2⟩ := HP2.out.p2.get (k := q) HNL.out
 have hqd : (p.queues[q]'HNL.out) = qAt p q := (qAt_get HNL.out).symm
 rw [hqd] at e0 e1 e2
 obtain ⟨dd, hdd⟩ : ∃ dd, dd = (qAt p q).dead := ⟨_, rfl⟩
 rw [← hdd] at e2
 have HDD := hidI hdd
 have HZ2 := hidI hz2
 have X1 := hidI hb1
 have X2 := hidI hb2
 subst hga
 have j1 : (0 : Int) ≤ (q : Int) := by omega
 have j2 : (q : Int) < n2 := by omega
 have hd0 : -1 ≤ dd := by rw [hdd]; have h1 := HR.out.queues _ (List.getElem_mem HNL.out); rw [hqd] at h1; omega
 obtain ⟨z0, z1, z2⟩ := pl_cells hb1
 have i0 := coc_ hb2 0
 have i1 := coc_ hb2 1
 have i2 := coc_ hb2 2
 have i3 := coc_ hb2 3
 have i4 := coc_ hb2 4
 simp at i0 i1 i2 i3 i4
 clear hW2 hz2 hb1 hb2 hB2 hc hx hp hdd hqd hn1
 unfold ItemD.val
 go_enter Tryz.func101, Tryz.ntmps101
 go_upto_region 1 with fail
 rw [← HW2.out]
 by_cases hc1 : dd = -1 ∨ 2 ≤ x.deaths
 ·have HDL : Hid (dieL p q x = []) := by show dieL p q x = []; unfold dieL; rw [if_pos (by rw [← HDD.out]; exact hc1)]
  by_cases hc2 : dd = -1
  ·subst hc2
   go_wp2_with fail
   go_ret
   exact ⟨_, rfl, ⟨0, by rw [HDL.out]; exact World.ownsRow_nil _ _ _ _⟩, HB2.out⟩
  ·have hc3 : 2 ≤ x.deaths := by rcases hc1 with h | h; (exact absurd h hc2); exact h
   have q1 : ¬ dd < 0 := by omega
   clear hc1 hc2
   go_wp2_with fail
   go_ret
   exact ⟨_, rfl, ⟨0, by rw [HDL.out]; exact World.ownsRow_nil _ _ _ _⟩, HB2.out⟩
 ·have hc2 : ¬ dd = -1 := fun h => hc1 (.inl h)
  have hc3 : ¬ 2 ≤ x.deaths := fun h => hc1 (.inr h)
  obtain ⟨r1, r2, r3⟩ := die_route HC.out HNL.out HXX.out (by rw [← HDD.out]; exact hc2)
  rw [← HDD.out] at r1 r2
  have HDL : Hid (dieL p q x = arrsOf (qsC p x.key dd.toNat) x.key x.body (x.deaths + 1)) := by show dieL p q x = _; unfold dieL; rw [if_neg (by rw [← HDD.out]; exact hc1), HDD.out]
  have hdn := (itemOk_parts HXX.out).2.2.2.2
  have jd : IntKind.i64.wrap (x.deaths + 1) = x.deaths + 1 := by rw [IntKind.wrap_i64]; omega
  obtain ⟨dn, hdn'⟩ : ∃ dn : Nat, dd = dn := ⟨dd.toNat, by omega⟩
  subst hdn'
  have HRR : Hid (dn < n1) := by have := HN1.out; show dn < n1; omega
  have hks : x.key.size ≤ 24 := by have := (werr_zero (itemOk_parts HXX.out).2.2.1).1; simpa using this
  have HKS := hidI hks
  have q1 : ¬ ((dn : Int) < 0) := by omega
  clear hc1 hc2 r1 r2 r3 hks
  go_wp2_with fail
  refine (queuesOf_any p _ _ _ _ _ _ _ _ _ dn x.key W2 HP2.out HR.out HRR.out HKS.out).mono ?_
  rintro e w4 ⟨zs, az, cz, rfl, hz1, hzl, hzi, k4⟩
  have hzq : zs = qsC p x.key dn := hz1.uniq (qsC_is HR.out (by have := HRR.out; have := HN1.out; omega))
  obtain ⟨nz, hnz⟩ : ∃ nz, nz = zs.length := ⟨_, rfl⟩
  have HNZ := hidI hnz
  rw [← hnz] at hzl ⊢
  have HZQ := hidI hzq
  have HZI := hidI hzi
  have K4 := hidI k4
  have s4 := k4.size
  clear hz1 hzq hzi hnz z0 z1 z2 i0 i1 i2 i3 i4 e0 e1 e2 k4
  go_wp2_with fail
  go_loopw [7, 10] (fun l i wr => ∃ (k : Nat), k ≤ nz ∧ i = .int .i64 k ∧ wr.ownsRow w4.heap.size 101 4 l k (arrCells (arrsOf (zs.take k) x.key x.body (x.deaths + 1))) ∧ Below w4.heap.size w4 wr) (fun _ i _ => nz - (intOf i).toNat)
  case atStart => exact ⟨0, Nat.zero_le _, rfl, World.ownsRow_nil _ _ _ _, Below.refl _ _⟩
  case round =>
   obtain ⟨k, hk, rfl, hown, hB⟩ := hrel
   have HO := hidI hown
   have HB := hidI hB
   have hBs := hB.size
   clear hown
   by_cases hlt : k < nz
   ·have HLT := hidI hlt
    have hkl : k < zs.length := by rw [← HNZ.out]; exact hlt
    obtain ⟨gz, ha, hgz, hcz⟩ : ∃ gz, az = some ⟨gz, 0, none⟩ ∧ gz < w4.heap.size ∧ w4.cell? ⟨gz, k, none⟩ = some (.int .i64 (zs[k]'hkl)) := by
     rcases HZI.out with e | ⟨gz, ha, hg, h⟩
     ·exfalso; rw [e] at hkl; simp at hkl
     ·exact ⟨gz, ha, hg, h k hkl⟩
    have HNX : Hid (arrsOf (zs.take (k + 1)) x.key x.body (x.deaths + 1) = arrsOf (zs.take k) x.key x.body (x.deaths + 1) ++ [⟨zs[k]'hkl, x.key, x.body, (x.deaths + 1)⟩]) := by show arrsOf _ _ _ _ = _; unfold arrsOf; rw [List.take_succ_eq_append_getElem hkl, List.map_append]; rfl
    obtain ⟨z, hzz⟩ : ∃ z, z = zs[k]'hkl := ⟨_, rfl⟩
    rw [← hzz] at hcz HNX
    subst ha
    have SS : Hid (∀ W', Below w4.heap.size w4 W' → (W'.cell? ⟨gz, k, none⟩ = some (.int .i64 z) ∧ W'.cell? ⟨w.heap.size + 1, 1, none⟩ = some (.string x.key) ∧ W'.cell? ⟨w.heap.size + 1, 2, none⟩ = some (.string x.body) ∧ W'.cell? ⟨w.heap.size + 1, 4, none⟩ = some (.int .i64 x.deaths))) := fun W' h => by
     have y := pkp_ (pkp_ X2.out K4.out) h
     exact ⟨(h.cell (p := ⟨gz, k, none⟩) hgz).trans hcz, coc_ y 1, coc_ y 2, coc_ y 4⟩
    have j5 : (0 : Int) ≤ (k : Int) := by omega
    have j6 : (k : Int) < nz := by omega
    clear hzz hcz
    go_wp2_with fail
    refine wp_region_held_drew (S := fun W' => (W'.cell? ⟨gz, k, none⟩ = some (.int .i64 z) ∧ W'.cell? ⟨w.heap.size + 1, 1, none⟩ = some (.string x.key) ∧ W'.cell? ⟨w.heap.size + 1, 2, none⟩ = some (.string x.body) ∧ W'.cell? ⟨w.heap.size + 1, 4, none⟩ = some (.int .i64 x.deaths))) (by kernel_rfl) (SS.out _ HB.out.drew) (fun hHeld => ?_)
    refine tk 0 ?_
    refine tk 1 ?_
    refine tk 2 ?_
    refine tk 3 ?_
    refine tk 4 ?_
    refine tk 5 ?_
    refine tk 6 ?_
    refine tk 7 ?_
    refine tk 8 ?_
    refine tk 9 ?_
    refine tk 10 ?_
    refine tk 11 ?_
    refine tk 12 ?_
    refine rdy 13 (fun K hK => ?_)
    go_simp
    have KA : Below w4.heap.size w4 wr.drew := HB.out.drew
    refine hK.out _ _ (SS.out _ (KA.alloc KA.size _)) (fun _ => ?_)
    clear hK K
    try refine nrm ?_
    obtain ⟨Wb, hWb⟩ : ∃ Wb, Wb = (wr.alloc (.cells #[.int .i64 z, .string x.key, .string x.body, .int .i64 (x.deaths + 1)] 101)).drew := ⟨_, rfl⟩
    rw [← hWb]
    have kb0 : Below wr.heap.size wr Wb := by rw [hWb]; exact ((Below.refl _ _).alloc (Nat.le_refl _) _).drew
    have KQ : Below w4.heap.size w4 Wb := HB.out.trans (kb0.mono HB.out.size)
    have HRQ : RowAt Wb (some ⟨wr.heap.size, 0, none⟩) (arrCells [⟨z, x.key, x.body, x.deaths + 1⟩]) := by rw [hWb]; exact row_lit (w := wr) (cs := [.int .i64 z, .string x.key, .string x.body, .int .i64 (x.deaths + 1)])
    have HOQ := cp2_ HO.out kb0
    clear hWb
    refine rdy 14 (fun K hK => ?_)
    refine stepA_row elemArr (by kernel_rfl) _ _ rfl w4.heap.size _ k (arrCells (arrsOf (zs.take k) x.key x.body (x.deaths + 1))) rfl HOQ (some ⟨wr.heap.size, 0, none⟩) 1 1 (arrCells [⟨z, x.key, x.body, x.deaths + 1⟩]) rfl rfl (fun h => by cases h) HRQ (arrCells_one _) (by unfold maxLen; omega) (by omega) KQ.size ?_
    intro vz wz hoz hgz' _
    rw [← arrCells_append] at hoz
    have KZ : Below w4.heap.size w4 wz := KQ.grown hgz' KQ.size (fun j hj => (HOQ.lt j hj).1)
    refine hK.out _ _ (SS.out _ KZ) (fun _ => ?_)
    clear hK K
    try refine nrm ?_
    refine tk 15 ?_
    refine wpAnyH_done (by kernel_rfl) ?_ _
    have HOZ := hidI hoz
    have HKZ := hidI KZ
    clear hoz hgz' KZ KQ HOQ HRQ
    go_wp2_with fail
    go_roundw
    case rel => exact ⟨k + 1, HLT.out, by have := HLT.out; go_num, by rw [HNX.out]; exact HOZ.out, HKZ.out⟩
    case measure => have := HLT.out; simp [intOf]; omega
   ·have hke : k = nz := by omega
    obtain rfl := hke.symm
    clear hlt hk
    go_wp2_with fail
    go_ret
    refine ⟨_, rfl, ⟨nz, ?_⟩, HB2.out.trans ((K4.out.trans (HB.out.mono s4)).mono (by have := HZ2.out; omega))⟩
    have h1 := HO.out
    rw [List.take_of_length_le (by rw [HNZ.out]; exact Nat.le_refl _), HZQ.out] at h1
    rw [HDL.out]
    exact own_base h1 (by have := HZ2.out; omega)
structure Turn1 (t : Nat) (W W' : World) : Prop where
 os : W'.os = W.os
 tape : W'.tape = W.tape
 output : W'.output = W.output
 size : W.heap.size ≤ W'.heap.size
 block : ∀ k, k < W.heap.size → k ≠ t → W'.heap[k]? = W.heap[k]?
theorem Turn1.of_below {t : Nat} {W W' : World} (h : Below W.heap.size W W') : Turn1 t W W' := ⟨h.os, h.tape, h.output, h.size, fun k h1 _ => h.block k h1⟩
theorem Turn1.setCell {t : Nat} {W W' : World} (h : Turn1 t W W') (i : Nat) (u : Value) : Turn1 t W (W'.setCell ⟨t, i, none⟩ u) := ⟨h.os, h.tape, h.output, by simpa [World.setCell] using h.size, fun k h1 h2 => (Below.heap_setCell W' ⟨t, i, none⟩ u k h2).trans (h.block k h1 h2)⟩
end Go.Proofs.YtpoichgodamnkaaGreat
