import Derived.Test.YtpoichgodamnkaaGreatSUn
import Derived.Test.YtpoichgodamnkaaGreatSLStateHeld
import Derived.Test.YtpoichgodamnkaaGreatGrx
import Derived.Test.YtpoichgodamnkaaGreatGbx
namespace Go.Proofs.YtpoichgodamnkaaGreat
open Go.RowKit Go.Maps
set_option linter.unusedVariables false
set_option maxRecDepth 100000
set_option maxHeartbeats 8000000
def quE (p : PlanD) (s : StateD) (q : Int) : Int := if stE p s ≠ 0 then stE p s else if isNum q p.queues.length = false then 5 else 0
theorem psz_boxed (w : World) (pv sv : Array Value) : ∃ W3, W3 = ((w.alloc (.cells pv 26)).alloc (.cells sv 31)).alloc (.cells #[.slice none 0 0, .slice none 0 0, .slice none 0 0, .int .i64 0, .int .i64 0, .int .i64 0, .int .i64 0, .int .i64 0] 31) ∧ Below w.heap.size w W3 ∧ W3.heap.size = w.heap.size + 3 ∧
  ∀ W, Below W3.heap.size W3 W → W.heap[w.heap.size]? = some (.cells pv 26 (0, 0)) ∧ W.heap[w.heap.size + 1]? = some (.cells sv 31 (0, 0)) ∧ W.heap[w.heap.size + 2]? = some (.cells #[.slice none 0 0, .slice none 0 0, .slice none 0 0, .int .i64 0, .int .i64 0, .int .i64 0, .int .i64 0, .int .i64 0] 31 (0, 0)) := by
 obtain ⟨h1, h2, h3⟩ := allocs_heap [.cells pv 26, .cells sv 31, .cells #[.slice none 0 0, .slice none 0 0, .slice none 0 0, .int .i64 0, .int .i64 0, .int .i64 0, .int .i64 0, .int .i64 0] 31] w
 exact ⟨_, rfl, h3, h1, fun W hW => ⟨pkp_ (h2 0 _ rfl) hW, pkp_ (h2 1 _ rfl) hW, pkp_ (h2 2 _ rfl) hW⟩⟩
structure HeadAt (W : World) (n g j gi oi L cl : Nat) (x : ItemD) (r : List ItemD) : Prop where
 cell : W.cell? ⟨g, j, none⟩ = some (.slice (some ⟨gi, oi, none⟩) (L + 1) cl)
 frz : W.frozen? ⟨g, j, none⟩ = false
 len : L = r.length
 le : L + 1 ≤ cl
 cm : cl ≤ maxLen
 it : ItemCells W gi oi x
 own : n ≤ gi ∧ ∃ cur, W.heap[gi]? = some (.cells cur 43 (0, 0))
 all : ItemsAt W (some ⟨gi, oi, none⟩) (x :: r)
 base : n ≤ g ∧ ∃ cur, W.heap[g]? = some (.cells cur 41 (0, 0))
theorem OwnSt.head {W : World} {n : Nat} {b1 b2 b3 : Option Addr} {m1 d1 m2 d2 m3 d3 : Nat} {s : StateD} (h : OwnSt W n b1 b2 b3 m1 d1 m2 d2 m3 d3 s) {j : Nat} (hj : j < s.ready.length) {x : ItemD} {r : List ItemD} (hl : lineAt s j = x :: r) : ∃ g gi oi L cl, b1 = some ⟨g, 0, none⟩ ∧ HeadAt W n g j gi oi L cl x r := by
 obtain ⟨vs, hr1, hlv⟩ := h.r1
 have hm1 := h.l1
 obtain ⟨g, rfl⟩ : ∃ g, b1 = some ⟨g, 0, none⟩ := by
  rcases hr1.2 with ⟨e, e0⟩ | ⟨g, cap, cur, e, _⟩
  ·omega
  ·cases e; exact ⟨g, rfl⟩
 obtain ⟨v, bl, cl, hv1, hlj⟩ := hlv.get j hj
 have hcell := hr1.cellAt j (by omega)
 rw [hv1, hlj.v] at hcell
 have hsj : s.ready[j]'hj = x :: r := by rw [← lineAt_get hj]; exact hl
 rw [hsj] at hcell hlj
 have hle := hlj.le
 simp only [List.length_cons] at hle hcell
 rcases hlj.own with e | ⟨gi, oi, cur, rfl, hgi, hgh⟩
 ·exfalso; have := hlj.nil e; omega
 ·refine ⟨g, gi, oi, r.length, cl, rfl, hcell, hr1.frozenAt j, rfl, hle, hlj.cm, ?_, ⟨hgi, cur, hgh⟩, hlj.it, own_block hr1⟩
  rcases hlj.it with e | ⟨g', o', e, _, hc⟩
  ·cases e
  ·cases e
   have := hc 0 (by simp)
   simpa only [List.getElem_cons_zero, Nat.zero_mul, Nat.add_zero] using this
theorem HeadAt.rest {W : World} {n g j gi oi L cl : Nat} {x : ItemD} {r : List ItemD} (h : HeadAt W n g j gi oi L cl x r) : LineV W n r (.slice (if cl = 1 then some (⟨gi, oi, none⟩ : Addr) else some ⟨gi, oi + 5, none⟩) L (cl - 1)) (if cl = 1 then some (⟨gi, oi, none⟩ : Addr) else some ⟨gi, oi + 5, none⟩) (cl - 1) := by
 obtain ⟨hn, cur, hg⟩ := h.own
 have hA2 : (if cl = 1 then some (⟨gi, oi, none⟩ : Addr) else some ⟨gi, oi + 5, none⟩) = if cl = 1 then some (⟨gi, oi, none⟩ : Addr) else Option.map (fun y : Addr => y.add (1 * 5)) (some (⟨gi, oi, none⟩ : Addr)) := by rw [Option.map_some, addr_add]
 obtain ⟨oA, hoA⟩ : ∃ oA, (if cl = 1 then some (⟨gi, oi, none⟩ : Addr) else some ⟨gi, oi + 5, none⟩) = some ⟨gi, oA, none⟩ := by split <;> exact ⟨_, rfl⟩
 have hle := h.le
 have hcm := h.cm
 refine ⟨by rw [h.len], by have := h.len; omega, by omega, (fun e => by rw [hoA] at e; cases e), ?_, .inr ⟨gi, oA, cur, hoA, hn, hg⟩⟩
 have := h.all.drop 1 cl (by have := h.len; simp; omega)
 rw [List.drop_one, List.tail_cons, ← hA2] at this
 exact this
def shedS (p : PlanD) (s : StateD) (q : Nat) : StateD := { s with ready := s.ready.set q (putL p q (lineAt s q)), dropped := s.dropped + putD p q (lineAt s q) }
theorem Keep2.of_below {W W' : World} (h : Below W.heap.size W W') : Keep2 W W' := fun k cur T hk _ _ => h.block k (lth_ hk)
theorem Keep2.trans {A B C : World} (h : Keep2 A B) (k : Keep2 B C) : Keep2 A C := fun i cur T hk h1 h2 => (k i cur T ((h i cur T hk h1 h2).trans hk) h1 h2).trans (h i cur T hk h1 h2)
theorem Keep2.of_typeI {A B : World} (h : TypeT 41 A B) : Keep2 A B := fun i cur T hk h1 h2 => h.block i cur T hk h2
theorem Keep2.of_typeS {A B : World} (h : TypeT 31 A B) : Keep2 A B := fun i cur T hk h1 h2 => h.block i cur T hk h1
theorem Keep2.row {W W' : World} {base n : Nat} {v : Value} {cs : List Value} (k : Keep2 W W') (h : W.ownsRow base 101 4 v n cs) : W'.ownsRow base 101 4 v n cs := row_keep h (fun i hi => by
 rcases h.2 with ⟨rfl, _⟩ | ⟨g, cap, cur, rfl, hb, hg, _⟩
 ·cases hi
 ·cases hi; exact k g cur _ hg (by decide) (by decide))
theorem shedAt_any (p : PlanD) (a1 a2 a3 : Option Addr) (n1 c1 n2 c2 n3 c3 : Nat) (s : StateD) (q : Nat) (n t : Nat) (w0 w : World) (hp : PlanAt w0 a1 a2 a3 n1 n2 n3 p) (h0 : Below w0.heap.size w0 w) (ht : w0.heap.size ≤ t) (hn0 : w0.heap.size ≤ n) (hnw : n ≤ w.heap.size) (hc : chkP p = 0) (hq : q < n2) (hsr : s.ready.length = n2) (hl : lineOk (lineAt s q) = true) (hd : 0 ≤ s.dropped ∧ s.dropped ≤ 10000000) (hbx : StBox w n t s) :
  Calls Tryz.prog 100 #[.agg #[.slice a1 n1 c1, .slice a2 n2 c2, .slice a3 n3 c3], .pointer (some ⟨t, 0, none⟩), .int .i64 q] w fun e w' => ∃ v, e = .returned v ∧ ArrRes w' w.heap.size v (putA p q (lineAt s q)) ∧ StBox w' n t (shedS p s q) ∧ FrameT n t w w' ∧ Keep2 w w' := by
 obtain ⟨W1, hW1⟩ : ∃ W1, W1 = w.alloc (.cells #[.slice a1 n1 c1, .slice a2 n2 c2, .slice a3 n3 c3] 26) := ⟨_, rfl⟩
 have k1 : Below w.heap.size w W1 := by rw [hW1]; exact (Below.refl _ _).alloc (Nat.le_refl _) _
 have b1' : W1.heap[w.heap.size]? = some (.cells #[.slice a1 n1 c1, .slice a2 n2 c2, .slice a3 n3 c3] 26 (0, 0)) := by rw [hW1]; exact World.alloc_heap_new w _
 have hz1 : W1.heap.size = w.heap.size + 1 := by rw [hW1]; simp
 have hs0 := h0.size
 have hlt : t < w.heap.size := by obtain ⟨_, _, _, _, _, _, _, _, _, h, _⟩ := hbx; exact lth_ h
 have HBX0 := hidI hbx
 obtain ⟨b1, b2, b3, m1, d1, m2, d2, m3, d3, hb, ho⟩ := hbx.keep k1
 have hql : q < s.ready.length := by rw [hsr]; exact hq
 have hm1 : m1 = n2 := by rw [← ho.l1, hsr]
 have hp1 := hp.keep (h0.trans (k1.mono hs0))
 obtain ⟨gq, oq, hga, hgl, e0, e1, e2⟩ := hp1.p2.get (k := q) (by rw [hp.l2]; exact hq)
 have hqd : (p.queues[q]'(by rw [hp.l2]; exact hq)) = qAt p q := (qAt_get (by rw [hp.l2]; exact hq)).symm
 rw [hqd] at e0 e1 e2
 have hlim := (chk_right hc).queues _ (List.getElem_mem (show q < p.queues.length by rw [hp.l2]; exact hq))
 rw [hqd] at hlim
 have hlim1 : 1 ≤ (qAt p q).limit ∧ (qAt p q).limit ≤ 6 := ⟨hlim.1, hlim.2.1⟩
 obtain ⟨lim, hlimd⟩ : ∃ lim, lim = (qAt p q).limit := ⟨_, rfl⟩
 rw [← hlimd] at e1 hlim1
 subst hga
 obtain ⟨vs, hr1, hlv⟩ := ho.r1
 obtain ⟨g, hgv⟩ : ∃ g, b1 = some ⟨g, 0, none⟩ := by
  rcases hr1.2 with ⟨e, e0⟩ | ⟨g, cap, cur, e, _⟩
  ·exfalso; omega
  ·cases e; exact ⟨g, rfl⟩
 subst hgv
 obtain ⟨v, bl, cl, hv1, hlj⟩ := hlv.get q hql
 have hcell := hr1.cellAt q (by omega)
 rw [hv1, hlj.v] at hcell
 have hsj : s.ready[q]'hql = lineAt s q := (lineAt_get hql).symm
 rw [hsj] at hcell hlj
 obtain ⟨L, hL⟩ : ∃ L, L = (lineAt s q).length := ⟨_, rfl⟩
 rw [← hL] at hcell
 have hgl2 : g < W1.heap.size := (hr1.lt g rfl).2
 have hgn : n ≤ g := (hr1.lt g rfl).1
 have HSS : Hid (∀ W', Below W1.heap.size W1 W' → (W'.cell? ⟨t, 0, none⟩ = some (.slice (some ⟨g, 0, none⟩) m1 d1) ∧ W'.cell? ⟨g, q, none⟩ = some (.slice bl L cl) ∧ W'.cell? ⟨w.heap.size, 1, none⟩ = some (.slice (some ⟨gq, oq, none⟩) n2 c2) ∧ W'.cell? ⟨gq, oq + q * 3 + 1, none⟩ = some (.int .i64 lim))) := fun W' h => ⟨coc_ (pkp_ hb h) 0, (h.cell (p := ⟨g, q, none⟩) hgl2).trans hcell, coc_ (pkp_ b1' h) 1, (h.cell (p := ⟨gq, oq + q * 3 + 1, none⟩) hgl).trans e1⟩
 have HL := hidI hL
 have HLIM := hidI hlimd
 have HHL := hidI hl
 have HHB := hidI hb
 have HHO := hidI ho
 have HQL := hidI hql
 have HW1 := hidI hW1
 have K1 := hidI k1
 have HC := hidI hc
 have HP1 := hidI hp1
 have HP := hidI hp
 have H0 := hidI h0
 have HX1 := hidI b1'
 have HZ1 := hidI hz1
 have HG : Hid (g < W1.heap.size ∧ n ≤ g) := ⟨hgl2, hgn⟩
 have j1 : (0 : Int) ≤ (q : Int) := by omega
 have j2 : (q : Int) < m1 := by omega
 have j3 : (q : Int) < n2 := by omega
 clear hW1 k1 b1' hz1 hb ho hp hp1 h0 hc hbx hqd hlim hlimd hr1 hlv hv1 hlj hsj hcell e0 e1 e2 hL hl
 go_enter Tryz.func100, Tryz.ntmps100
 go_upto_region 1 with fail
 rw [← HW1.out]
 refine wp_region_held_drew (S := fun W' => (W'.cell? ⟨t, 0, none⟩ = some (.slice (some ⟨g, 0, none⟩) m1 d1) ∧ W'.cell? ⟨g, q, none⟩ = some (.slice bl L cl) ∧ W'.cell? ⟨w.heap.size, 1, none⟩ = some (.slice (some ⟨gq, oq, none⟩) n2 c2) ∧ W'.cell? ⟨gq, oq + q * 3 + 1, none⟩ = some (.int .i64 lim))) (by kernel_rfl) (HSS.out _ (Below.refl _ _).drew) (fun hHeld => ?_)
 refine tk 0 ?_
 refine tk 1 ?_
 refine tk 2 ?_
 refine tk 3 ?_
 refine tk 4 ?_
 refine tk 5 ?_
 refine tk 6 ?_
 refine tk 7 ?_
 refine tk 8 ?_
 refine tk 9 ?_
 refine tk 10 ?_
 refine tk 11 ?_
 refine tk 12 ?_
 refine tk 13 ?_
 refine tk 14 ?_
 refine wpAnyH_done (by kernel_rfl) ?_ _
 clear hHeld
 have kd : Below w.heap.size w W1.drew := K1.out.drew
 by_cases hc1 : (L : Int) ≤ lim
 ·have HA : Hid (putA p q (lineAt s q) = []) := by show putA p q (lineAt s q) = []; unfold putA; rw [if_pos (by rw [← HL.out, ← HLIM.out]; exact hc1)]
  have HS : Hid (shedS p s q = s) := by
   show shedS p s q = s
   unfold shedS putL putD
   rw [if_pos (by rw [← HL.out, ← HLIM.out]; exact hc1), if_pos (by rw [← HL.out, ← HLIM.out]; exact hc1), lineAt_get HQL.out, List.set_getElem_self]
   simp
  have HKD := hidI kd
  clear kd
  go_wp2_with fail
  go_ret
  exact ⟨_, rfl, ⟨0, by rw [HA.out]; exact World.ownsRow_nil _ _ _ _⟩, by rw [HS.out]; exact HBX0.out.keep HKD.out, FrameT.of_below HKD.out hnw, Keep2.of_below HKD.out⟩
 ·obtain ⟨x, r, hxr⟩ : ∃ x r, lineAt s q = x :: r := by
   cases h : lineAt s q with
   | nil => exfalso; have := HL.out; rw [h] at this; simp at this; omega
   | cons x r => exact ⟨x, r, rfl⟩
  have HXR := hidI hxr
  obtain ⟨V1, hV1⟩ : ∃ V1, V1 = W1.drew := ⟨_, rfl⟩
  rw [← hV1] at kd ⊢
  have kd1 : Below W1.heap.size W1 V1 := by rw [hV1]; exact (Below.refl _ _).drew
  have hov := HHO.out.keep kd1
  obtain ⟨g', gi, oi, L', cl', hgg, hh⟩ := hov.head HQL.out hxr
  cases hgg
  have hxo : itemOk x = true := (lineOk_iff.1 (by have := HHL.out; rw [hxr] at this; exact this)).1 x List.mem_cons_self
  have HA : Hid (putA p q (lineAt s q) = dieL p q x) := by show putA p q (lineAt s q) = _; unfold putA; rw [if_neg (by rw [← HL.out, ← HLIM.out]; exact hc1), hxr]
  have HS : Hid (shedS p s q = { s with ready := s.ready.set q r, dropped := s.dropped + 1 }) := by
   show shedS p s q = _
   unfold shedS putL putD
   rw [if_neg (by rw [← HL.out, ← HLIM.out]; exact hc1), if_neg (by rw [← HL.out, ← HLIM.out]; exact hc1), hxr]
   rfl
  have hbv := pkp_ HHB.out kd1
  obtain ⟨y0, y1, y2, y3, y4, y5, y6, y7⟩ := st_cells hbv
  have c0 := hh.cell
  obtain ⟨i0, i1, i2, i3, i4⟩ := hh.it
  have hcl := hh.le
  have u0 : (0 : Int) < ((L' + 1 : Nat) : Int) := by omega
  have HHH := hidI hh
  have HXO := hidI hxo
  have HBV := hidI hbv
  have HOV := hidI hov
  have KD := hidI kd
  have KD1 := hidI kd1
  have HC1 := hidI hc1
  have jlim : ¬ (L : Int) ≤ lim := hc1
  clear hV1 hov hh hxr hxo hbv kd kd1
  go_upto_region 4 with fail
  obtain ⟨V2, hV2⟩ : ∃ V2, V2 = V1.alloc (.cells #[.int .i64 x.seq, .string x.key, .string x.body, .bool x.again, .int .i64 x.deaths] 43) := ⟨_, rfl⟩
  rw [← hV2]
  have l2 : Below V1.heap.size V1 V2 := by rw [hV2]; exact (Below.refl _ _).alloc (Nat.le_refl _) _
  have x2 : V2.heap[V1.heap.size]? = some (.cells #[.int .i64 x.seq, .string x.key, .string x.body, .bool x.again, .int .i64 x.deaths] 43 (0, 0)) := by rw [hV2]; exact World.alloc_heap_new V1 _
  have hgl' : g < V1.heap.size := by obtain ⟨_, cu, hc⟩ := HHH.out.base; exact lth_ hc
  have c8 := (l2.cell (p := ⟨g, q, none⟩) hgl').trans HHH.out.cell
  have f8 := (l2.frozen (p := ⟨g, q, none⟩) hgl').trans HHH.out.frz
  have hb2 := pkp_ HBV.out l2
  have HO2 := hidI (HOV.out.keep l2)
  have HLV := hidI (HHH.out.rest.keep l2)
  have X2 := hidI x2
  have B2 := hidI hb2
  have L2 := hidI l2
  clear y0 y1 y2 y3 y4 y5 y6 y7 c0 i0 i1 i2 i3 i4 hV2 x2 l2
  obtain ⟨y0, y1, y2, y3, y4, y5, y6, y7⟩ := st_cells hb2
  have hcm := HHH.out.cm
  unfold maxLen at hcm
  have u1 : (1 : Int) ≤ ((L' + 1 : Nat) : Int) := by omega
  have u2 : ((L' + 1 : Nat) : Int) ≤ (cl' : Int) := by omega
  have u3 : (1 : Int) ≤ (cl' : Int) := by omega
  have u4 : (1 : Int) ≤ (L' : Int) + 1 := by omega
  have u5 : (L' : Int) + 1 ≤ (cl' : Int) := by omega
  clear hb2
  go_region
  obtain ⟨A, hA⟩ : ∃ A, A = if cl' = 1 then some (⟨gi, oi, none⟩ : Addr) else some ⟨gi, oi + 5, none⟩ := ⟨_, rfl⟩
  rw [← hA] at HLV ⊢
  obtain ⟨V3, hV3⟩ : ∃ V3, V3 = (V2.setCell ⟨g, q, none⟩ (.slice A L' (cl' - 1))).drew := ⟨_, rfl⟩
  rw [← hV3]
  have kt3 : TypeT 41 V2 (V2.setCell ⟨g, q, none⟩ (.slice A L' (cl' - 1))) := by
   obtain ⟨_, cu, hc⟩ := own_block HO2.out.r1.choose_spec.1
   exact TypeT.setCell hc _
  have ho3 : OwnSt V3 n (some ⟨g, 0, none⟩) b2 b3 m1 d1 m2 d2 m3 d3 { s with ready := s.ready.set q r } := by rw [hV3]; exact (HO2.out.line HQL.out HLV.out rfl).keep (Below.refl _ _).drew
  have b3' : V3.heap[t]? = some (.cells #[.slice (some ⟨g, 0, none⟩) m1 d1, .slice b2 m2 d2, .slice b3 m3 d3, .int .i64 s.nextSeq, .int .i64 s.nextTag, .int .i64 s.came, .int .i64 s.acked, .int .i64 s.dropped] 31 (0, 0)) := by rw [hV3]; exact (kt3.block t _ _ B2.out (by decide)).trans B2.out
  have x3 : V3.heap[V1.heap.size]? = some (.cells #[.int .i64 x.seq, .string x.key, .string x.body, .bool x.again, .int .i64 x.deaths] 43 (0, 0)) := by rw [hV3]; exact (kt3.block V1.heap.size _ _ X2.out (by decide)).trans X2.out
  have p3 : V3.heap[w.heap.size]? = some (.cells #[.slice a1 n1 c1, .slice (some ⟨gq, oq, none⟩) n2 c2, .slice a3 n3 c3] 26 (0, 0)) := by
   have h := pkp_ (pkp_ HX1.out KD1.out) L2.out
   rw [hV3]; exact (kt3.block w.heap.size _ _ h (by decide)).trans h
  have F3 : FrameT n t w V3 := by
   have h1 : FrameT n t w V2 := (FrameT.of_below KD.out hnw).trans (FrameT.of_below L2.out (by have := KD.out.size; omega))
   rw [hV3]
   exact (h1.typeSet HG.out.2 _).trans (FrameT.of_below (Below.refl _ _).drew (by have := h1.size; simp; omega))
  have hbx3 : StBox V3 n t { s with ready := s.ready.set q r } := ⟨_, _, _, _, _, _, _, _, _, b3', ho3⟩
  obtain ⟨V4, hV4⟩ : ∃ V4, V4 = V3.setCell ⟨t, 7, none⟩ (.int .i64 (s.dropped + 1)) := ⟨_, rfl⟩
  have hbx4 : StBox V4 n t { s with ready := s.ready.set q r, dropped := s.dropped + 1 } := by rw [hV4]; exact hbx3.field7 _
  have t4 : TurnB t V3 V4 := by rw [hV4]; exact sct_ _ _ _ _
  have F4 : FrameT n t w V4 := F3.turnB t4 (by have := F3.size; omega)
  have xlt := lth_ x3
  have x4 := (t4.block _ xlt (by have := KD.out.size; omega)).trans x3
  have p4 := (t4.block _ (by have := F3.size; have := lth_ p3; omega) (by omega)).trans p3
  have B4 : Below w.heap.size V4 V4 := Below.refl _ _
  have HKP : Hid (Keep2 w V4) := ((Keep2.of_below (KD.out.trans (L2.out.mono KD.out.size))).trans (Keep2.of_typeI kt3)).trans (((Keep2.of_below (by rw [hV3]; exact (Below.refl _ _).drew) : Keep2 _ V3)).trans (by rw [hV4]; exact Keep2.of_typeS (TypeT.setCell b3' _)))
  have HD := hidI (dying_any p a1 (some ⟨gq, oq, none⟩) a3 n1 c1 n2 c2 n3 c3 q x V4 (HP.out.keep (H0.out.trans (F4.below (by omega) ht))) HC.out hq HXO.out)
  have HBX4 := hidI hbx4
  have HF4 := hidI F4
  have HV4 := hidI hV4
  obtain ⟨e0, e1, e2, e3, e4, e5, e6, e7⟩ := st_cells b3'
  have f7 := foc_ b3' 7
  have jw : IntKind.i64.wrap (s.dropped + 1) = s.dropped + 1 := by rw [IntKind.wrap_i64]; omega
  have s4 := F4.size
  have X4 := hidI x4
  have P4 := hidI p4
  clear y0 y1 y2 y3 y4 y5 y6 y7 u0 u1 u2 u3 u4 u5 c8 f8 hA hV3 hV4 kt3 ho3 b3' x3 p3 F3 hbx3 hbx4 t4 F4 x4 p4 B4
  unfold ItemD.val at HD
  go_upto_region 6 with fail
  rw [← HV4.out]
  clear e0 e1 e2 e3 e4 e5 e6 e7 f7 jw
  obtain ⟨z0, z1, z2⟩ := pl_cells P4.out
  have i0 := coc_ X4.out 0
  have i1 := coc_ X4.out 1
  have i2 := coc_ X4.out 2
  have i3 := coc_ X4.out 3
  have i4 := coc_ X4.out 4
  simp at i0 i1 i2 i3 i4
  go_wp2_with fail
  refine HD.out.mono ?_
  rintro e w6 ⟨v6, rfl, ⟨m6, ho6⟩, k6⟩
  have K6 := hidI k6
  have HO6 := hidI ho6
  clear k6 ho6 z0 z1 z2 i0 i1 i2 i3 i4
  go_wp2_with fail
  go_ret
  exact ⟨v6, rfl, ⟨m6, by rw [HA.out]; exact own_base HO6.out s4⟩, by rw [HS.out]; exact HBX4.out.keep K6.out, HF4.out.trans (FrameT.of_below K6.out (by omega)), HKP.out.trans (Keep2.of_below K6.out)⟩
end Go.Proofs.YtpoichgodamnkaaGreat
