import Derived.Test.YtpoichgodamnkaaGreatGix
import Derived.Deep.RegionWith
namespace Go.Proofs.YtpoichgodamnkaaGreat
open Go.RowKit Go.Maps
set_option linter.unusedVariables false
set_option maxRecDepth 100000
set_option maxHeartbeats 4000000
def PlV (W : World) (v : Value) (p : PlanD) : Prop := ∃ a1 a2 a3 n1 c1 n2 c2 n3 c3, v = .agg #[.slice a1 n1 c1, .slice a2 n2 c2, .slice a3 n3 c3] ∧ PlanAt W a1 a2 a3 n1 n2 n3 p
def StV (W : World) (v : Value) (s : StateD) : Prop := ∃ b1 b2 b3 m1 d1 m2 d2 m3 d3, v = .agg #[.slice b1 m1 d1, .slice b2 m2 d2, .slice b3 m3 d3, .int .i64 s.nextSeq, .int .i64 s.nextTag, .int .i64 s.came, .int .i64 s.acked, .int .i64 s.dropped] ∧ StateAt W b1 b2 b3 m1 m2 m3 s ∧ (b2 = none → d2 = 0) ∧ (b3 = none → d3 = 0)
def OwV (W : World) (n : Nat) (v : Value) (s : StateD) : Prop := ∃ b1 b2 b3 m1 d1 m2 d2 m3 d3, v = .agg #[.slice b1 m1 d1, .slice b2 m2 d2, .slice b3 m3 d3, .int .i64 s.nextSeq, .int .i64 s.nextTag, .int .i64 s.came, .int .i64 s.acked, .int .i64 s.dropped] ∧ OwnSt W n b1 b2 b3 m1 d1 m2 d2 m3 d3 s
theorem PlV.keep {W W' : World} {v : Value} {p : PlanD} (h : PlV W v p) (hB : Below W.heap.size W W') : PlV W' v p := by
 obtain ⟨a1, a2, a3, n1, c1, n2, c2, n3, c3, h1, h2⟩ := h
 exact ⟨a1, a2, a3, n1, c1, n2, c2, n3, c3, h1, h2.keep hB⟩
theorem StV.keep {W W' : World} {v : Value} {s : StateD} (h : StV W v s) (hB : Below W.heap.size W W') : StV W' v s := by
 obtain ⟨b1, b2, b3, m1, d1, m2, d2, m3, d3, h1, h2, h3⟩ := h
 exact ⟨b1, b2, b3, m1, d1, m2, d2, m3, d3, h1, h2.keep hB, h3⟩
theorem OwV.keep {W W' : World} {n : Nat} {v : Value} {s : StateD} (h : OwV W n v s) (hB : Below W.heap.size W W') : OwV W' n v s := by
 obtain ⟨b1, b2, b3, m1, d1, m2, d2, m3, d3, h1, h2⟩ := h
 exact ⟨b1, b2, b3, m1, d1, m2, d2, m3, d3, h1, h2.keep hB⟩
theorem OwV.lower {W : World} {n n' : Nat} {v : Value} {s : StateD} (h : OwV W n v s) (hn : n' ≤ n) : OwV W n' v s := by
 obtain ⟨b1, b2, b3, m1, d1, m2, d2, m3, d3, h1, h2⟩ := h
 exact ⟨b1, b2, b3, m1, d1, m2, d2, m3, d3, h1, h2.lower hn⟩
theorem OwnSt.nils {W : World} {n : Nat} {b1 b2 b3 : Option Addr} {m1 d1 m2 d2 m3 d3 : Nat} {s : StateD} (h : OwnSt W n b1 b2 b3 m1 d1 m2 d2 m3 d3 s) : (b2 = none → d2 = 0) ∧ (b3 = none → d3 = 0) :=
 ⟨fun e => ((own_le h.r2).2.2 e).1, fun e => ((own_le h.r3).2.2 e).1⟩
theorem OwV.st {W : World} {n : Nat} {v : Value} {s : StateD} (h : OwV W n v s) : StV W v s := by
 obtain ⟨b1, b2, b3, m1, d1, m2, d2, m3, d3, h1, h2⟩ := h
 exact ⟨b1, b2, b3, m1, d1, m2, d2, m3, d3, h1, h2.state, h2.nils⟩
theorem copyItem_any (xs : List ItemD) (a : Option Addr) (n c : Nat) (w : World) (hn : (itemCells xs).length = n * 5) (hb : n ≤ 100000000) (hz : a = none → c = 0 ∧ n = 0) (hp : RowAt w a (itemCells xs)) :
  Calls Tryz.prog 177 #[.slice a n c] w fun e w' => ∃ v, e = .returned v ∧ w'.ownsRow w.heap.size 43 5 v n (itemCells xs) ∧ Below w.heap.size w w' := by
 have HN := hidI hn
 have HP := hidI hp
 have HZ := hidI hz
 clear hn hp hz
 go_enter Tryz.func177, Tryz.ntmps177
 go_wp2_with (at_builtin; refine append_row elemItem (by kernel_rfl) _ _ rfl w.heap.size (.slice none 0 0) 0 [] rfl (World.ownsRow_nil _ _ _ _) a n c (itemCells xs) rfl HN.out HZ.out HP.out (itemCells_one xs) (by unfold maxLen; omega) (by omega) (Nat.le_refl _) ?_; intro v' w3 hown3 hgrow3 hblk)
 go_ret
 exact ⟨v', rfl, by simpa using hown3, (Below.refl _ _).grown hgrow3 (Nat.le_refl _) (by simp [Value.ownBlock])⟩
theorem copyOut_any (xs : List OutD) (a : Option Addr) (n c : Nat) (w : World) (hn : (outCells xs).length = n * 8) (hb : n ≤ 100000000) (hz : a = none → c = 0 ∧ n = 0) (hp : RowAt w a (outCells xs)) :
  Calls Tryz.prog 178 #[.slice a n c] w fun e w' => ∃ v, e = .returned v ∧ w'.ownsRow w.heap.size 91 8 v n (outCells xs) ∧ Below w.heap.size w w' := by
 have HN := hidI hn
 have HP := hidI hp
 have HZ := hidI hz
 clear hn hp hz
 go_enter Tryz.func178, Tryz.ntmps178
 go_wp2_with (at_builtin; refine append_row elemOut (by kernel_rfl) _ _ rfl w.heap.size (.slice none 0 0) 0 [] rfl (World.ownsRow_nil _ _ _ _) a n c (outCells xs) rfl HN.out HZ.out HP.out (outCells_one xs) (by unfold maxLen; omega) (by omega) (Nat.le_refl _) ?_; intro v' w3 hown3 hgrow3 hblk)
 go_ret
 exact ⟨v', rfl, by simpa using hown3, (Below.refl _ _).grown hgrow3 (Nat.le_refl _) (by simp [Value.ownBlock])⟩
theorem copyTaker_any (xs : List TakerD) (a : Option Addr) (n c : Nat) (w : World) (hn : (tkC_ xs).length = n * 2) (hb : n ≤ 100000000) (hz : a = none → c = 0 ∧ n = 0) (hp : RowAt w a (tkC_ xs)) :
  Calls Tryz.prog 179 #[.slice a n c] w fun e w' => ∃ v, e = .returned v ∧ w'.ownsRow w.heap.size 93 2 v n (tkC_ xs) ∧ Below w.heap.size w w' := by
 have HN := hidI hn
 have HP := hidI hp
 have HZ := hidI hz
 clear hn hp hz
 go_enter Tryz.func179, Tryz.ntmps179
 go_wp2_with (at_builtin; refine append_row elemTaker (by kernel_rfl) _ _ rfl w.heap.size (.slice none 0 0) 0 [] rfl (World.ownsRow_nil _ _ _ _) a n c (tkC_ xs) rfl HN.out HZ.out HP.out (takerCells_one xs) (by unfold maxLen; omega) (by omega) (Nat.le_refl _) ?_; intro v' w3 hown3 hgrow3 hblk)
 go_ret
 exact ⟨v', rfl, by simpa using hown3, (Below.refl _ _).grown hgrow3 (Nat.le_refl _) (by simp [Value.ownBlock])⟩
theorem letterS_any (q : Int) (b : ByteArray) (w : World) :
  Calls Tryz.prog 134 #[.int .i64 q, .string b] w fun e w' => e = .returned (.agg #[.int .i64 q, .string ⟨#[120, 46, 121]⟩, .string b, .bool false, .int .i64 0]) ∧ Below w.heap.size w w' := by
 go_enter Tryz.func134, Tryz.ntmps134
 go_wp2
 exact bodyPost_ret (v := .agg #[.int .i64 q, .string ⟨#[120, 46, 121]⟩, .string b, .bool false, .int .i64 0]) (by simp [results, Tryz.results134, go_sem]) rfl ⟨rfl, (by repeat (first | exact Below.refl _ _ | assumption | refine Below.drew ?_ | refine Below.alloc ?_ (by first | (simp; done) | (simp; omega) | omega) _ | refine Below.setCell ?_ (by first | (simp; done) | (simp; omega) | omega) _))⟩
theorem two_heap (w W : World) (A B : Obj) (h : W = (w.alloc A).alloc B) : W.heap.size = w.heap.size + 2 ∧ W.heap[w.heap.size]? = some A ∧ W.heap[w.heap.size + 1]? = some B ∧ Below w.heap.size w W := by
 subst h
 have hB := World.alloc_heap_new (w.alloc A) B
 simp only [World.size_alloc] at hB
 refine ⟨by simp only [World.size_alloc], ?_, hB, ((Below.refl _ _).alloc (Nat.le_refl _) _).alloc (by simp) _⟩
 rw [Below.heap_alloc _ _ _ (by simp only [World.size_alloc]; omega)]; exact World.alloc_heap_new w A
def bLine : List ItemD := [⟨2, ⟨#[120, 46, 121]⟩, ⟨#[116, 119, 111]⟩, false, 0⟩, ⟨3, ⟨#[120, 46, 121]⟩, ⟨#[116, 104, 114, 101, 101]⟩, false, 0⟩]
def busyS (o : OutD) (t0 t1 : TakerD) (ak : Int) : StateD := ⟨[bLine, [], []], [o], [t0, t1], 4, 6, 4, ak, 0⟩
def bOut (q : Int) : OutD := ⟨5, 1, 0, ⟨q, ⟨#[120, 46, 121]⟩, ⟨#[111, 110, 101]⟩, false, 0⟩⟩
structure BusyAt (W : World) (gI gR gO gT : Nat) (o : OutD) (t0 t1 : TakerD) : Prop where
 i : W.heap[gI]? = some (.cells #[.int .i64 2, .string ⟨#[120, 46, 121]⟩, .string ⟨#[116, 119, 111]⟩, .bool false, .int .i64 0, .int .i64 3, .string ⟨#[120, 46, 121]⟩, .string ⟨#[116, 104, 114, 101, 101]⟩, .bool false, .int .i64 0] 43 (0, 0))
 r : W.heap[gR]? = some (.cells #[.slice (some ⟨gI, 0, none⟩) 2 2, .slice none 0 0, .slice none 0 0] 41 (0, 0))
 o : W.heap[gO]? = some (.cells #[.int .i64 o.tag, .int .i64 o.taker, .int .i64 o.queue, .int .i64 o.item.seq, .string o.item.key, .string o.item.body, .bool o.item.again, .int .i64 o.item.deaths] 91 (0, 0))
 t : W.heap[gT]? = some (.cells #[.int .i64 t0.queue, .int .i64 t0.most, .int .i64 t1.queue, .int .i64 t1.most] 93 (0, 0))
theorem BusyAt.keep {W W' : World} {gI gR gO gT : Nat} {o : OutD} {t0 t1 : TakerD} (h : BusyAt W gI gR gO gT o t0 t1) (hB : Below W.heap.size W W') : BusyAt W' gI gR gO gT o t0 t1 := ⟨pkp_ h.i hB, pkp_ h.r hB, pkp_ h.o hB, pkp_ h.t hB⟩
theorem BusyAt.state {W : World} {gI gR gO gT : Nat} {o : OutD} {t0 t1 : TakerD} (h : BusyAt W gI gR gO gT o t0 t1) (ak : Int) : StateAt W (some ⟨gR, 0, none⟩) (some ⟨gO, 0, none⟩) (some ⟨gT, 0, none⟩) 3 1 2 (busyS o t0 t1 ak) := by
 refine ⟨rfl, rfl, rfl, by unfold maxLen; omega, by omega, by unfold maxLen; omega, ?_, ?_, ?_⟩
 ·refine .inr ⟨gR, 0, rfl, lth_ h.r, fun i hi => ?_⟩
  have hi3 : i < 3 := hi
  have hit : ItemsAt W (some ⟨gI, 0, none⟩) bLine := by
   refine .inr ⟨gI, 0, rfl, lth_ h.i, fun j hj => ?_⟩
   have hj2 : j < 2 := hj
   match j, hj2 with
   | 0, _ => exact ⟨coc_ h.i 0, coc_ h.i 1, coc_ h.i 2, coc_ h.i 3, coc_ h.i 4⟩
   | 1, _ => exact ⟨coc_ h.i 5, coc_ h.i 6, coc_ h.i 7, coc_ h.i 8, coc_ h.i 9⟩
  match i, hi3 with
  | 0, _ => exact ⟨some ⟨gI, 0, none⟩, 2, coc_ h.r 0, Nat.le_refl _, by unfold maxLen; omega, (fun e => by cases e), hit⟩
  | 1, _ => exact ⟨none, 0, coc_ h.r 1, Nat.le_refl _, by unfold maxLen; omega, fun _ => rfl, .inl rfl⟩
  | 2, _ => exact ⟨none, 0, coc_ h.r 2, Nat.le_refl _, by unfold maxLen; omega, fun _ => rfl, .inl rfl⟩
 ·refine .inr ⟨gO, 0, rfl, lth_ h.o, fun i hi => ?_⟩
  have hi1 : i < 1 := hi
  match i, hi1 with
  | 0, _ => exact ⟨coc_ h.o 0, coc_ h.o 1, coc_ h.o 2, coc_ h.o 3, coc_ h.o 4, coc_ h.o 5, coc_ h.o 6, coc_ h.o 7⟩
 ·refine .inr ⟨gT, 0, rfl, lth_ h.t, fun i hi => ?_⟩
  have hi2 : i < 2 := hi
  match i, hi2 with
  | 0, _ => exact ⟨coc_ h.t 0, coc_ h.t 1⟩
  | 1, _ => exact ⟨coc_ h.t 2, coc_ h.t 3⟩
theorem busy_any (w : World) : Calls Tryz.prog 69 #[] w fun e w' => ∃ gI gR gO gT, e = .returned (.agg #[.slice (some ⟨gR, 0, none⟩) 3 3, .slice (some ⟨gO, 0, none⟩) 1 1, .slice (some ⟨gT, 0, none⟩) 2 2, .int .i64 4, .int .i64 6, .int .i64 4, .int .i64 1, .int .i64 0]) ∧ BusyAt w' gI gR gO gT (bOut 1) ⟨-1, 1⟩ ⟨0, 2⟩ ∧ (w.heap.size ≤ gI ∧ w.heap.size ≤ gR ∧ w.heap.size ≤ gO ∧ w.heap.size ≤ gT) ∧ (gI ≠ gO ∧ gR ≠ gO ∧ gT ≠ gO ∧ gI ≠ gT ∧ gR ≠ gT) ∧ Below w.heap.size w w' := by
 obtain ⟨W0, hW0, hB0, hs0, hbx⟩ := s_boxed w #[.slice none 0 0, .slice none 0 0, .slice none 0 0, .int .i64 0, .int .i64 0, .int .i64 0, .int .i64 0, .int .i64 0]
 have HW0 := hidI hW0
 have BX := hidI hbx
 have s0 := hB0.size
 have hs0' : w.heap.size < W0.heap.size := by omega
 clear hW0 hbx hs0
 go_enter Tryz.func69, Tryz.ntmps69
 go_wp2_with fail
 rw [← HW0.out]
 refine (letterS_any _ _ _).mono ?_
 rintro e w1 ⟨rfl, k1⟩
 go_wp2_with fail
 refine (letterS_any _ _ _).mono ?_
 rintro e w2 ⟨rfl, k2'⟩
 have k2 := k1.trans (k2'.mono k1.size)
 have s2 := k2.size
 obtain ⟨W4, hW4⟩ : ∃ W4, W4 = (w2.alloc (.cells #[.int .i64 2, .string ⟨#[120, 46, 121]⟩, .string ⟨#[116, 119, 111]⟩, .bool false, .int .i64 0, .int .i64 3, .string ⟨#[120, 46, 121]⟩, .string ⟨#[116, 104, 114, 101, 101]⟩, .bool false, .int .i64 0] 43)).alloc (.cells #[.slice (some ⟨w2.heap.size, 0, none⟩) 2 2, .slice none 0 0, .slice none 0 0] 41) := ⟨_, rfl⟩
 obtain ⟨z4, hi4, hr4, k4'⟩ := two_heap w2 W4 _ _ hW4
 have HI4 := hidI hi4
 have HR4 := hidI hr4
 have HW4 := hidI hW4
 have k4 := k2.trans (k4'.mono s2)
 have HZ4 := hidI z4
 clear hW4 z4 k1 k2' hi4 hr4
 go_wp2_with fail
 rw [← HW4.out]
 refine (letterS_any _ _ _).mono ?_
 rintro e w5 ⟨rfl, k5'⟩
 have k5 := k4.trans (k5'.mono k4.size)
 have s5 := k5.size
 have s45 := k5'.size
 have q5 := BX.out w5 k5
 obtain ⟨y0, y1, y2, y3, y4, y5, y6, y7⟩ := st_cells q5
 have f0 := foc_ q5 0
 have f1 := foc_ q5 1
 have f2 := foc_ q5 2
 have f3 := foc_ q5 3
 have f4 := foc_ q5 4
 have f5 := foc_ q5 5
 have f6 := foc_ q5 6
 have f7 := foc_ q5 7
 have hlt5 : w.heap.size < w5.heap.size := by omega
 have HQ5 := hidI q5
 have HI5 := hidI (pkp_ HI4.out k5')
 have HR5 := hidI (pkp_ HR4.out k5')
 clear q5
 go_wp2_with fail
 generalize hW6 : World.setCell (World.setCell (World.setCell (World.setCell (World.setCell (World.setCell (World.setCell (World.setCell w5 _ _) _ _) _ _) _ _) _ _) _ _) _ _) _ _ = W6
 obtain ⟨b6, t6⟩ := store8 HQ5.out hW6
 have z6 : W6.heap.size = w5.heap.size := by rw [← hW6]; simp
 generalize hW7 : World.alloc (World.alloc W6 _) _ = W7
 obtain ⟨z7, ho7, ht7, k7'⟩ := two_heap W6 W7 _ _ hW7.symm
 rw [z6] at ho7 ht7
 have s6 := t6.size
 obtain ⟨x0, x1, x2, x3, x4, x5, x6, x7⟩ := st_cells (pkp_ b6 k7')
 have hz4 := HZ4.out
 have l8 : Below w.heap.size w W7 := ((hB0.trans (k5.mono s0)).trans (t6.below (by omega) (Nat.le_refl _))).trans (k7'.mono (by omega))
 have tb : ∀ k o, w5.heap[k]? = some o → k ≠ w.heap.size → W7.heap[k]? = some o := fun k o h hne => (k7'.block k (by have := lth_ h; omega)).trans ((t6.block k (lth_ h) hne).trans h)
 refine bodyPost_ret (v := .agg #[.slice (some ⟨w2.heap.size + 1, 0, none⟩) 3 3, .slice (some ⟨w5.heap.size, 0, none⟩) 1 1, .slice (some ⟨w5.heap.size + 1, 0, none⟩) 2 2, .int .i64 4, .int .i64 6, .int .i64 4, .int .i64 1, .int .i64 0]) (by simp [results, Tryz.results69, go_sem, x0, x1, x2, x3, x4, x5, x6, x7]) rfl ⟨w2.heap.size, w2.heap.size + 1, w5.heap.size, w5.heap.size + 1, rfl, ⟨?_, ?_, ?_, ?_⟩, by omega, by omega, l8⟩
 ·exact tb _ _ HI5.out (by omega)
 ·exact tb _ _ HR5.out (by omega)
 ·exact ho7
 ·exact ht7
structure LinesTo (W : World) (n : Nat) (xss : List (List ItemD)) (k : Nat) (vs : List Value) : Prop where
 len : vs.length = xss.length
 get : ∀ i (h : i < xss.length), i < k → ∃ v b c, vs[i]? = some v ∧ LineV W n xss[i] v b c
theorem LinesTo.keepT {W W' : World} {n k : Nat} {xss : List (List ItemD)} {vs : List Value} (h : LinesTo W n xss k vs) (hk : KeepI n W W') : LinesTo W' n xss k vs := by
 refine ⟨h.len, fun i hi hik => ?_⟩
 obtain ⟨v, b, c, h1, h2⟩ := h.get i hi hik
 exact ⟨v, b, c, h1, h2.keepT hk⟩
theorem LinesTo.set {W : World} {n k : Nat} {xss : List (List ItemD)} {vs : List Value} (h : LinesTo W n xss k vs) (hk : k < xss.length) {v : Value} {b : Option Addr} {c : Nat} (hv : LineV W n xss[k] v b c) : LinesTo W n xss (k + 1) (vs.set k v) := by
 refine ⟨by rw [List.length_set]; exact h.len, fun i hi hik => ?_⟩
 by_cases e : i = k
 ·subst e
  exact ⟨v, b, c, by rw [List.getElem?_set, if_pos rfl, if_pos (by rw [h.len]; exact hi)], hv⟩
 ·obtain ⟨u, b', c', h1, h2⟩ := h.get i hi (by omega)
  exact ⟨u, b', c', by rw [List.getElem?_set, if_neg (fun e' => e e'.symm)]; exact h1, h2⟩
theorem LinesTo.all {W : World} {n k : Nat} {xss : List (List ItemD)} {vs : List Value} (h : LinesTo W n xss k vs) (hk : xss.length ≤ k) : LinesV W n xss vs := ⟨h.len, fun i hi => h.get i hi (by omega)⟩
theorem line_of_own {W : World} {base n : Nat} {v : Value} {xs : List ItemD} {m : Nat} (h : W.ownsRow base 43 5 v m (itemCells xs)) (hn : n ≤ base) : ∃ b c, LineV W n xs v b c ∧ m = xs.length := by
 obtain ⟨e, a, c, h1, h2, h3, h4, h5⟩ := own_items h
 refine ⟨a, c, ⟨by rw [h1, e], by omega, h3, fun z => (h4 z).1, h5, ?_⟩, e⟩
 rcases h.2 with ⟨rfl, _⟩ | ⟨g, cap, cur, rfl, hb, hg, _⟩
 ·cases h1; exact .inl rfl
 ·cases h1; exact .inr ⟨g, 0, cur, rfl, by omega, hg⟩
theorem copiedS_any (s : StateD) (b1 b2 b3 : Option Addr) (m1 d1 m2 d2 m3 d3 : Nat) (w : World) (hs : StateAt w b1 b2 b3 m1 m2 m3 s) (hn2 : b2 = none → d2 = 0) (hn3 : b3 = none → d3 = 0) (h1 : m1 ≤ 100) (hl : ∀ l ∈ s.ready, l.length ≤ 100) (h2 : m2 ≤ 1000) (h3 : m3 ≤ 100) :
  Calls Tryz.prog 130 #[.agg #[.slice b1 m1 d1, .slice b2 m2 d2, .slice b3 m3 d3, .int .i64 s.nextSeq, .int .i64 s.nextTag, .int .i64 s.came, .int .i64 s.acked, .int .i64 s.dropped]] w fun e w' => ∃ v, e = .returned v ∧ OwV w' w.heap.size v s ∧ Below w.heap.size w w' := by
 obtain ⟨i0, hi, hz0, hz1, hz2⟩ := info_parts Tryz.infoLine
 obtain ⟨W2, hW2, hs2, hb0, hb1, hBw⟩ : ∃ W2, W2 = (w.alloc (.cells #[.slice b1 m1 d1, .slice b2 m2 d2, .slice b3 m3 d3, .int .i64 s.nextSeq, .int .i64 s.nextTag, .int .i64 s.came, .int .i64 s.acked, .int .i64 s.dropped] 31)).alloc (.cells #[.slice none 0 0, .slice none 0 0, .slice none 0 0, .int .i64 0, .int .i64 0, .int .i64 0, .int .i64 0, .int .i64 0] 31) ∧ W2.heap.size = w.heap.size + 2 ∧ W2.heap[w.heap.size]? = some (.cells #[.slice b1 m1 d1, .slice b2 m2 d2, .slice b3 m3 d3, .int .i64 s.nextSeq, .int .i64 s.nextTag, .int .i64 s.came, .int .i64 s.acked, .int .i64 s.dropped] 31 (0, 0)) ∧ W2.heap[w.heap.size + 1]? = some (.cells #[.slice none 0 0, .slice none 0 0, .slice none 0 0, .int .i64 0, .int .i64 0, .int .i64 0, .int .i64 0, .int .i64 0] 31 (0, 0)) ∧ Below w.heap.size w W2 := by
  obtain ⟨h1, h2, h3, h4⟩ := two_heap w _ _ _ rfl
  exact ⟨_, rfl, h1, h2, h3, h4⟩
 have HW2 := hidI hW2
 have HB0 := hidI hb0
 have HB1 := hidI hb1
 have HBW := hidI hBw
 have HS := hidI (hs.keep hBw)
 have HM1 : Hid (s.ready.length = m1) := hs.l1
 have HM2 : Hid (s.outs.length = m2) := hs.l2
 have HM3 : Hid (s.takers.length = m3) := hs.l3
 have HS2 : Hid (W2.heap.size = w.heap.size + 2) := hs2
 have HN2 := hidI hn2
 have HN3 := hidI hn3
 have HL := hidI hl
 have s0 := hBw.size
 obtain ⟨y0, y1, y2, y3, y4, y5, y6, y7⟩ := st_cells hb0
 clear hW2 hb0 hb1 hs hs2 hn2 hn3 hl hBw
 go_enter Tryz.func130, Tryz.ntmps130
 go_wp2_with (at_make; rw [← HW2.out]; refine wpList_make_full _ rfl _ _ 27 rfl W2.heap.size 41 i0 (.slice none 0 0) 1 Tryz.underlying27 hi hz0 hz1 _ _ _ _ m1 rfl rfl rfl rfl (by rw [hz2]; omega) (by unfold maxLen; omega) (Nat.le_refl _) ?_; intro w3 hown3 hgrow3; have q3 := (hgrow3.block w.heap.size (by have := HS2.out; omega) (by simp)).trans HB0.out; clear y0 y1 y2 y3 y4 y5 y6 y7; obtain ⟨y0, y1, y2, y3, y4, y5, y6, y7⟩ := st_cells q3)
 clear q3
 have HB3 : Hid (Below W2.heap.size W2 w3) := (Below.refl _ _).grown hgrow3 (Nat.le_refl _) (by simp)
 have HO3 := hidI hown3
 clear hown3 hgrow3 y0 y1 y2 y3 y4 y5 y6 y7
 go_loopw [4, 5, 13] (fun _ _ i wr => ∃ (k : Nat) (vs : List Value), k ≤ m1 ∧ i = .int .i64 k ∧ wr.ownsRow W2.heap.size 41 1 (.slice (some ⟨W2.heap.size, 0, none⟩) m1 m1) m1 vs ∧ LinesTo wr W2.heap.size s.ready k vs ∧ Below W2.heap.size W2 wr) (fun _ _ i _ => m1 - (intOf i).toNat)
 case atStart => exact ⟨0, _, Nat.zero_le _, rfl, HO3.out, ⟨by rw [made_lines, List.length_replicate]; exact HM1.out.symm, fun i hi h => absurd h (Nat.not_lt_zero _)⟩, HB3.out⟩
 case round =>
  obtain ⟨k, vs, hk, rfl, hown, hlt0, hB⟩ := hrel
  have HO := hidI hown
  have HLT0 := hidI hlt0
  have HB := hidI hB
  have hBs := hB.size
  obtain ⟨y0, y1, y2, y3, y4, y5, y6, y7⟩ := st_cells ((hB.block _ (by have := HS2.out; omega)).trans HB0.out)
  clear hown hlt0
  by_cases hlt : k < m1
  ·have HLT := hidI hlt
   have hkl : k < s.ready.length := by rw [HM1.out]; exact hlt
   obtain ⟨g, o, b, c, ha, hg, hl⟩ := (HS.out.q1.keep hB).get hkl
   subst ha
   have c1 := hl.cell
   have HLC := hidI hl
   have HKL := hidI hkl
   obtain ⟨n, hn⟩ : ∃ n, n = (s.ready[k]'hkl).length := ⟨_, rfl⟩
   have HNN := hidI hn
   rw [← hn] at c1
   have hn100 : n ≤ 100 := by rw [hn]; exact HL.out _ (List.getElem_mem hkl)
   have j1 : (0 : Int) ≤ (k : Int) := by omega
   have j2 : (k : Int) < m1 := by omega
   clear hl hn
   go_wp2_with fail
   refine (copyItem_any (s.ready[k]'HKL.out) b n c wr (by rw [itemCells_len, HNN.out]) (by omega) (fun e => ⟨HLC.out.nil e, by have := HLC.out.nil e; have := HLC.out.le; have := HNN.out; omega⟩) (items_row.1 HLC.out.it)).mono ?_
   rintro e w5 ⟨v, rfl, hown5, hB5⟩
   obtain ⟨b5, c5, hv5, hn5⟩ := line_of_own hown5 (Nat.le_trans hBs (Nat.le_refl _))
   have hve := hv5.v
   have HV5 := hidI hv5
   have hO5 := cp2_ HO.out hB5
   have hf5 := hO5.frozenAt k
   have hc5 := hO5.cellAt k (by omega)
   have HO5 := hidI hO5
   have HB5 := hidI hB5
   have s5 := hB5.size
   have hvs : vs[k]? = some (vs[k]'(by rw [HLT0.out.len]; exact HKL.out)) := List.getElem?_eq_getElem _
   rw [hvs] at hc5
   subst hve
   clear hv5 hO5 hB5 hown5 hn5 hvs
   go_wp2_with fail
   go_roundw
   case rel =>
    have hst := HO5.out.stored k (.slice b5 (s.ready[k]'HKL.out).length c5)
    refine ⟨k + 1, vs.set k (.slice b5 (s.ready[k]'HKL.out).length c5), HLT.out, by have := HLT.out; go_num, hst.1, ?_, ?_⟩
    ·have hki := KeepI.row (n := W2.heap.size) HO5.out (by decide) k (.slice b5 (s.ready[k]'HKL.out).length c5)
     exact LinesTo.set ((HLT0.out.keepT (KeepI.of_below HB5.out)).keepT hki) HKL.out (HV5.out.keepT hki)
    ·exact (HB.out.trans (HB5.out.mono hBs)).setCell (p := ⟨W2.heap.size, k, none⟩) (Nat.le_refl _) _
   case measure => have := HLT.out; simp [intOf]; omega
  ·have hke : m1 = k := by omega
   subst hke
   clear hlt hk
   have hO0 := (hB.block _ (by have := HS2.out; omega)).trans HB0.out
   have HOD : Hid (∀ W, Below wr.heap.size wr.drew W → W.heap[w.heap.size]? = some (.cells #[.slice b1 m1 d1, .slice b2 m2 d2, .slice b3 m3 d3, .int .i64 s.nextSeq, .int .i64 s.nextTag, .int .i64 s.came, .int .i64 s.acked, .int .i64 s.dropped] 31 (0, 0))) := fun W hW => (hW.block _ (by have := HS2.out; omega)).trans hO0
   have HRD : Hid (∀ W, Below wr.heap.size wr.drew W → W.heap[w.heap.size + 1]? = some (.cells #[.slice none 0 0, .slice none 0 0, .slice none 0 0, .int .i64 0, .int .i64 0, .int .i64 0, .int .i64 0, .int .i64 0] 31 (0, 0))) := fun W hW => (hW.block _ (by have := HS2.out; omega)).trans ((hB.block _ (by have := HS2.out; omega)).trans HB1.out)
   have HST := hidI (HS.out.keep hB)
   have hm2 : b2 = none → d2 = 0 ∧ m2 = 0 := fun e => ⟨HN2.out e, by
    rcases HST.out.q2 with h | ⟨_, _, h, _⟩
    ·rw [← HM2.out, h]; rfl
    ·rw [e] at h; cases h⟩
   have hm3 : b3 = none → d3 = 0 ∧ m3 = 0 := fun e => ⟨HN3.out e, by
    rcases HST.out.q3 with h | ⟨_, _, h, _⟩
    ·rw [← HM3.out, h]; rfl
    ·rw [e] at h; cases h⟩
   have CO := hidI (copyOut_any s.outs b2 m2 d2 wr.drew (by rw [outCells, flat_length (k := 8) (fun _ => rfl), HM2.out]) (by omega) hm2 (outs_row.1 HST.out.q2))
   have CT : Hid (∀ W, Below wr.heap.size wr.drew W → Calls Tryz.prog 179 #[.slice b3 m3 d3] W fun e w' => ∃ v, e = .returned v ∧ w'.ownsRow W.heap.size 93 2 v m3 (tkC_ s.takers) ∧ Below W.heap.size W w') := fun W hW => copyTaker_any s.takers b3 m3 d3 W (by rw [tkC_, flat_length (k := 2) (fun _ => rfl), HM3.out]) (by omega) hm3 ((takers_row.1 HST.out.q3).keep (bud_ hW))
   clear hm2 hm3 hO0
   go_wp2_with fail
   go_region_with (first
    | (go_at_call 178; refine CO.out.mono ?_; rintro e w6 ⟨v6, rfl, hown6, hB6⟩; obtain ⟨a6, c6, rfl, l6, l6', l6n, r6⟩ := own_row hown6; have HO6 := hidI hown6; have HB6 := hidI hB6; obtain ⟨z0, z1, z2, z3, z4, z5, z6, z7⟩ := st_cells (HOD.out _ hB6); clear hown6 hB6 l6 l6' l6n r6)
    | (go_at_call 179; refine (CT.out _ HB6.out).mono ?_; rintro e w7 ⟨v7, rfl, hown7, hB7⟩; obtain ⟨a7, c7, rfl, l7, l7', l7n, r7⟩ := own_row hown7; have HO7 := hidI hown7; have HB7 := hidI hB7; have k7 := HB6.out.trans (hB7.mono HB6.out.size); have q7 := HOD.out _ k7; have K7 := hidI k7; obtain ⟨u0, u1, u2, u3, u4, u5, u6, u7⟩ := st_cells q7; have f0 := foc_ q7 0; have f1 := foc_ q7 1; have f2 := foc_ q7 2; have Q7 := hidI q7; have r7b := HRD.out _ K7.out; have R7 := hidI r7b; obtain ⟨x0, x1, x2, x3, x4, x5, x6, x7⟩ := st_cells r7b; have e0 := foc_ r7b 0; have e1 := foc_ r7b 1; have e2 := foc_ r7b 2; have e3 := foc_ r7b 3; have e4 := foc_ r7b 4; have e5 := foc_ r7b 5; have e6 := foc_ r7b 6; have e7 := foc_ r7b 7; clear r7b hown7 hB7 l7 l7' l7n r7 q7 k7))
   all_goals
    go_wp2_with fail
    generalize hX : World.setCell (World.setCell (World.setCell w7 _ _) _ _) _ _ = X
    generalize hW4 : World.setCell (World.setCell (World.setCell (World.setCell (World.setCell (World.setCell (World.setCell (World.setCell X _ _) _ _) _ _) _ _) _ _) _ _) _ _) _ _ = W4
    have tX : TurnB w.heap.size w7 X := by rw [← hX]; exact ((sct_ _ _ _ _).trans (sct_ _ _ _ _)).trans (sct_ _ _ _ _)
    have hRX : X.heap[w.heap.size + 1]? = _ := (tX.block _ (lth_ R7.out) (by omega)).trans R7.out
    obtain ⟨b4, t4⟩ := store8 hRX hW4
    obtain ⟨z0, z1, z2, z3, z4, z5, z6, z7⟩ := st_cells b4
    exact bodyPost_ret (v := .agg #[.slice (some ⟨W2.heap.size, 0, none⟩) m1 m1, .slice a6 m2 c6, .slice a7 m3 c7, .int .i64 s.nextSeq, .int .i64 s.nextTag, .int .i64 s.came, .int .i64 s.acked, .int .i64 s.dropped]) (by simp [results, Tryz.results130, go_sem, z0, z1, z2, z3, z4, z5, z6, z7]) rfl (by
     have T4 : ∀ k, W2.heap.size ≤ k → k < w7.heap.size → W4.heap[k]? = w7.heap[k]? := fun k h1 h2 => (t4.block k (Nat.lt_of_lt_of_le h2 tX.size) (by have := HS2.out; omega)).trans (tX.block k h2 (by have := HS2.out; omega))
     have hsz : w7.heap.size ≤ W4.heap.size := Nat.le_trans tX.size t4.size
     have g6 : W2.heap.size ≤ wr.heap.size := hBs
     have g7 : wr.heap.size ≤ w6.heap.size := HB6.out.size
     have B7 : Below wr.heap.size wr w7 := bud_ K7.out
     have r1 := cp2_ HO.out B7
     have KI : KeepI w.heap.size w7 W4 := ⟨hsz, fun g cur hn hg => by
      by_cases hge : W2.heap.size ≤ g
      ·exact T4 g hge (lth_ hg)
      ·exfalso
       have : g = w.heap.size ∨ g = w.heap.size + 1 := by have := HS2.out; omega
       rcases this with rfl | rfl
       ·rw [Q7.out] at hg; cases hg
       ·rw [R7.out] at hg; cases hg⟩
     have KR : ∀ {T : TypeId} {size n : Nat} {v : Value} {cs : List Value} {base : Nat}, w7.ownsRow base T size v n cs → W2.heap.size ≤ base → W4.ownsRow w.heap.size T size v n cs := fun h hb => own_base (row_keep h (fun k hk => by have := h.lt k hk; exact T4 k (by omega) this.2)) (by omega)
     refine ⟨_, rfl, ⟨_, _, _, _, _, _, _, _, _, rfl, HM1.out, HM2.out, HM3.out, by omega, ⟨vs, KR r1 (Nat.le_refl _), ?_⟩, KR (cp2_ HO6.out HB7.out) g6, KR HO7.out (by omega)⟩, ?_⟩
     ·exact (((HLT0.out.all (by rw [HM1.out]; exact Nat.le_refl _)).lower (by omega)).keepT (KeepI.of_below B7)).keepT KI
     ·exact HBW.out.trans (((hB.trans (B7.mono hBs)).mono s0).trans ((tX.below (by have := B7.size; omega) (Nat.le_refl _)).trans (t4.below (by have := tX.size; have := B7.size; omega) (by omega)))))
def StBox (W : World) (n t : Nat) (s : StateD) : Prop := ∃ b1 b2 b3 m1 d1 m2 d2 m3 d3, W.heap[t]? = some (.cells #[.slice b1 m1 d1, .slice b2 m2 d2, .slice b3 m3 d3, .int .i64 s.nextSeq, .int .i64 s.nextTag, .int .i64 s.came, .int .i64 s.acked, .int .i64 s.dropped] 31 (0, 0)) ∧ OwnSt W n b1 b2 b3 m1 d1 m2 d2 m3 d3 s
def zerS : Value := .agg #[.slice none 0 0, .slice none 0 0, .slice none 0 0, .int .i64 0, .int .i64 0, .int .i64 0, .int .i64 0, .int .i64 0]
theorem OwnSt.turn {W W' : World} {n t : Nat} {b1 b2 b3 : Option Addr} {m1 d1 m2 d2 m3 d3 : Nat} {s : StateD} {cur : Array Value} {T : TypeId} (h : OwnSt W n b1 b2 b3 m1 d1 m2 d2 m3 d3 s) (ht : W.heap[t]? = some (.cells cur T (0, 0))) (hT : T ≠ 43 ∧ T ≠ 91 ∧ T ≠ 93 ∧ T ≠ 41) (k : TurnB t W W') : OwnSt W' n b1 b2 b3 m1 d1 m2 d2 m3 d3 s := by
 obtain ⟨vs, h1, h2⟩ := h.r1
 have KR : ∀ {T' : TypeId} {size m : Nat} {v : Value} {cs : List Value}, W.ownsRow n T' size v m cs → T' ≠ T → W'.ownsRow n T' size v m cs := fun h hne => row_keep h (fun j hj => k.block j (h.lt j hj).2 (fun e => row_other h ht hne (by rw [hj, e])))
 refine ⟨h.l1, h.l2, h.l3, h.x2, ⟨vs, KR h1 (fun e => hT.2.2.2 e.symm), h2.keepT ⟨k.size, fun g cur' _ hg => k.block g (lth_ hg) (fun e => ?_)⟩⟩, KR h.r2 (fun e => hT.2.1 e.symm), KR h.r3 (fun e => hT.2.2.1 e.symm)⟩
 rw [e, ht] at hg
 cases hg; exact hT.1 rfl
def StRes (W : World) (n : Nat) (v : Value) (E : Int) (s : StateD) : Prop := (E = 0 → OwV W n v s) ∧ (E ≠ 0 → v = zerS)
theorem StRes.keep {W W' : World} {n : Nat} {v : Value} {E : Int} {s : StateD} (h : StRes W n v E s) (hB : Below W.heap.size W W') : StRes W' n v E s := ⟨fun e => (h.1 e).keep hB, h.2⟩
theorem StRes.lower {W : World} {n n' : Nat} {v : Value} {E : Int} {s : StateD} (h : StRes W n v E s) (hn : n' ≤ n) : StRes W n' v E s := ⟨fun e => (h.1 e).lower hn, h.2⟩
def Does (f : FuncId) (cap : Array Value) (w : World) (s : StateD) (E N : Int) (S' : StateD) : Prop :=
 ∀ (W : World) (n t : Nat), Below w.heap.size w W → w.heap.size ≤ t → t < n → n ≤ W.heap.size → StBox W n t s →
  Calls Tryz.prog f (#[.pointer (some ⟨t, 0, none⟩)] ++ cap) W fun e W' => FrameT n t W W' ∧ ((E ≠ 0 ∧ e = panE E) ∨ (E = 0 ∧ e = .returned (.int .i64 N) ∧ StBox W' n t S'))
theorem small_state {p : PlanD} {s : StateD} (h : RightX p s 0) : s.ready.length ≤ 100 ∧ (∀ l ∈ s.ready, l.length ≤ 100) ∧ s.outs.length ≤ 1000 ∧ s.takers.length ≤ 100 := by
 have h1 := h.rp.few.2.1
 have h2 := h.len
 have h3 := h.tk
 refine ⟨by omega, fun l hl => by have := h.line6 hl; omega, ?_, by omega⟩
 have hall : sumH s s.takers.length = s.outs.length := sumH_all h.outs
 have hk : ∀ k, k ≤ s.takers.length → sumH s k ≤ k * 4 := by
  intro k
  induction k with
  | zero => intro _; exact Nat.le_refl _
  | succ k ih =>
   intro hk
   have a := ih (by omega)
   have b := h.hold k (by omega)
   have hm : (s.takers.getD k ⟨0, 0⟩).most ≤ 4 := by
    rw [List.getD_eq_getElem?_getD, List.getElem?_eq_getElem (by omega)]
    have := h.tok _ (List.getElem_mem (show k < s.takers.length by omega))
    unfold takerOk at this
    simp only [Bool.and_eq_true, decide_eq_true_eq] at this
    exact this.2.2
   show sumH s k + heldN s k ≤ (k + 1) * 4
   omega
 have := hk s.takers.length (Nat.le_refl _)
 omega
theorem StateAt.small {W : World} {b1 b2 b3 : Option Addr} {m1 m2 m3 : Nat} {s : StateD} {p : PlanD} (h : StateAt W b1 b2 b3 m1 m2 m3 s) (hr : RightX p s 0) : m1 ≤ 100 ∧ (∀ l ∈ s.ready, l.length ≤ 100) ∧ m2 ≤ 1000 ∧ m3 ≤ 100 := by
 have := small_state hr
 rw [h.l1, h.l2, h.l3] at this
 exact this
theorem told1_any (p : PlanD) (a1 a2 a3 : Option Addr) (n1 c1 n2 c2 n3 c3 : Nat) (s : StateD) (b1 b2 b3 : Option Addr) (m1 d1 m2 d2 m3 d3 : Nat) (f : FuncId) (hf : Goes f) (cap : Array Value) (w0 : World) (E N : Int) (S' : StateD) (hE0 : stE p s ≠ 0 → E = stE p s) (hdo : stE p s = 0 → Does f cap w0 s E N S')
  (B : Nat) (hB0 : w0.heap.size ≤ B) (w : World) (h0 : Below w0.heap.size w0 w) (hw : B + 6 < w.heap.size) (hp : PlanAt w a1 a2 a3 n1 n2 n3 p) (hs : StateAt w b1 b2 b3 m1 m2 m3 s) (hn2 : b2 = none → d2 = 0) (hn3 : b3 = none → d3 = 0)
  (x0 : w.heap[B]? = some (.cells #[.slice a1 n1 c1, .slice a2 n2 c2, .slice a3 n3 c3] 26 (0, 0))) (x1 : w.heap[B + 1]? = some (.cells #[.slice b1 m1 d1, .slice b2 m2 d2, .slice b3 m3 d3, .int .i64 s.nextSeq, .int .i64 s.nextTag, .int .i64 s.came, .int .i64 s.acked, .int .i64 s.dropped] 31 (0, 0))) (x2 : w.heap[B + 2]? = some (.cells #[.func (.func f) #[] cap] 102 (0, 0))) (x4 : w.heap[B + 4]? = some (.cells #[.slice none 0 0, .slice none 0 0, .slice none 0 0, .int .i64 0, .int .i64 0, .int .i64 0, .int .i64 0, .int .i64 0] 31 (0, 0))) (x5 : w.heap[B + 5]? = some (.cells #[.int .i64 0] 3 (0, 0))) :
  Calls Tryz.prog 129 #[.pointer (some ⟨B, 0, none⟩), .pointer (some ⟨B + 1, 0, none⟩), .pointer (some ⟨B + 4, 0, none⟩), .pointer (some ⟨B + 2, 0, none⟩), .pointer (some ⟨B + 5, 0, none⟩)] w fun e w' =>
   e = askE E ∧ w.heap.size ≤ w'.heap.size ∧ (∀ k, k < w.heap.size → k ≠ B + 4 → k ≠ B + 5 → w'.heap[k]? = w.heap[k]?) ∧ w'.os = w.os ∧ w'.tape = w.tape ∧ w'.output = w.output ∧ (E = 0 → (∃ n, w.heap.size ≤ n ∧ StBox w' n (B + 4) S') ∧ w'.heap[B + 5]? = some (.cells #[.int .i64 N] 3 (0, 0))) := by
 obtain ⟨E0, hE0'⟩ : ∃ E0, E0 = stE p s := ⟨_, rfl⟩
 have HE0 := hidI hE0'
 have HEE := hidI hE0
 have HDO := hidI hdo
 have HP := hidI hp
 have HS := hidI hs
 have HN2 := hidI hn2
 have HN3 := hidI hn3
 have H0 := hidI h0
 have X0 := hidI x0
 have X1 := hidI x1
 have X2 := hidI x2
 have X4 := hidI x4
 have X5 := hidI x5
 have hf' : ∀ (args : Array Value) (w : World), Sem.run Tryz.prog (callFunc f args) w = .ok (.enter f args) w := hf
 obtain ⟨p0, p1, p2⟩ := pl_cells x0
 obtain ⟨y0, y1, y2, y3, y4, y5, y6, y7⟩ := st_cells x1
 clear hE0' hE0 hdo hp hs hn2 hn3 h0 x0 x1 x2 x4 x5 hf
 go_enter Tryz.func129, Tryz.ntmps129
 go_wp2_with fail
 refine (scheck_any p _ _ _ _ _ _ _ _ _ s _ _ _ _ _ _ _ _ _ _ HP.out HS.out).mono ?_
 rintro e w1 ⟨rfl, k1⟩
 rw [← HE0.out]
 have s1 := k1.size
 have k1' := k1.alloc s1 (.cells #[.int .i64 E0] 33)
 have s1' := k1'.size
 clear p0 p1 p2 y0 y1 y2 y3 y4 y5 y6 y7
 by_cases hz : E0 = 0
 ·subst hz
  go_wp2_with (go_at_call 72; refine (ok_no _ _ (one_new _ _ _) (by simp)).mono ?_; rintro e w2 ⟨rfl, hB2⟩; have k2 := k1'.trans (hB2.mono s1'); have K2 := hidI k2; obtain ⟨y0, y1, y2, y3, y4, y5, y6, y7⟩ := st_cells (pkp_ X1.out k2); clear hB2)
  have hR := right_of HE0.out.symm
  obtain ⟨q1, q2, q3, q4⟩ := HS.out.small hR
  refine (copiedS_any s _ _ _ _ _ _ _ _ _ w2 (HS.out.keep K2.out) HN2.out HN3.out q1 q2 q3 q4).mono ?_
  rintro e w3 ⟨v3, rfl, hv3, k3'⟩
  have k3 := K2.out.trans (k3'.mono K2.out.size)
  obtain ⟨g1, g2, g3, l1, r1, l2, r2, l3, r3, rfl, ho⟩ := hv3
  have HO := hidI ho
  have K3 := hidI k3
  have K3' := hidI k3'
  have q4b := pkp_ X4.out k3
  have Q4 := hidI q4b
  obtain ⟨z0, z1, z2, z3, z4, z5, z6, z7⟩ := st_cells q4b
  have f0 := foc_ q4b 0
  have f1 := foc_ q4b 1
  have f2 := foc_ q4b 2
  have f3 := foc_ q4b 3
  have f4 := foc_ q4b 4
  have f5 := foc_ q4b 5
  have f6 := foc_ q4b 6
  have f7 := foc_ q4b 7
  have c2 := coc_ (pkp_ X2.out k3) 0
  simp at c2
  clear y0 y1 y2 y3 y4 y5 y6 y7 q4b k3 k3' ho k2
  go_wp2_with fail
  generalize hW4 : World.setCell (World.setCell (World.setCell (World.setCell (World.setCell (World.setCell (World.setCell (World.setCell w3 _ _) _ _) _ _) _ _) _ _) _ _) _ _) _ _ = W4
  obtain ⟨b4, t4⟩ := store8 Q4.out hW4
  have kW4 : FrameT w.heap.size (B + 4) w W4 := (FrameT.of_below K3.out (Nat.le_refl _)).trans ⟨t4.os, t4.tape, t4.output, t4.size, fun k h1 h2 => t4.block k (by have := K3.out.size; omega) h2⟩
  have hdo := HDO.out HE0.out.symm W4 w2.heap.size (B + 4) (H0.out.trans (kW4.below H0.out.size (by omega))) (by omega) (by have := K2.out.size; omega) (by have := K3'.out.size; have := t4.size; omega) ⟨_, _, _, _, _, _, _, _, _, b4, HO.out.turn Q4.out (by decide) t4⟩
  refine hdo.mono ?_
  rintro e w5 ⟨hF, hc⟩
  have hF' : FrameT w.heap.size (B + 4) w w5 := kW4.trans ⟨hF.os, hF.tape, hF.output, hF.size, fun k h1 h2 => hF.block k (by have := K2.out.size; omega) h2⟩
  have HF := hidI hF'
  clear z0 z1 z2 z3 z4 z5 z6 z7 f0 f1 f2 f3 f4 f5 f6 f7 c2
  rcases hc with ⟨hne, rfl⟩ | ⟨rfl, rfl, hbx⟩
  ·unfold panE
   exact ⟨rfl, by rw [askE_pan hne]; rfl, HF.out.size, fun k h1 h2 _ => HF.out.block k h1 h2, HF.out.os, HF.out.tape, HF.out.output, fun h => absurd h hne⟩
  ·have q5 : w5.heap[B + 5]? = _ := (HF.out.block (B + 5) (by omega) (by omega)).trans X5.out
   have Q5 := hidI q5
   have HBX := hidI hbx
   have c0 := coc_ q5 0
   simp at c0
   have f0 := foc_ q5 0
   clear q5 hbx hF hF' hdo
   go_wp2_with fail
   go_end0
   have hT5 := sct_ w5 (B + 5) 0 (.int .i64 N)
   refine ⟨by rw [askE_ok]; rfl, Nat.le_trans HF.out.size hT5.size, fun k h1 h2 h3 => (hT5.block k (by have := HF.out.size; omega) h3).trans (HF.out.block k h1 h2), HF.out.os, HF.out.tape, HF.out.output, ⟨w2.heap.size, K2.out.size, ?_⟩, ?_⟩
   ·obtain ⟨e1, e2, e3, i1, j1, i2, j2, i3, j3, hh, ho⟩ := HBX.out
    exact ⟨e1, e2, e3, i1, j1, i2, j2, i3, j3, (hT5.block _ (lth_ hh) (by omega)).trans hh, ho.turn Q5.out (by decide) hT5⟩
   ·exact scb_ Q5.out (j := 0) (.int .i64 N)
 ·have HZ := hidI hz
  have hE : E = E0 := by rw [HEE.out (by rw [← HE0.out]; exact hz), HE0.out]
  go_wp2_with (go_at_call 72; refine (ok_yes E0 _ _ (one_new _ _ _) (by simp) HZ.out).mono ?_; rintro e w2 ⟨rfl, hB2⟩)
  have k2 := k1'.trans (hB2.mono s1')
  subst hE
  exact ⟨rfl, by rw [askE_pan HZ.out]; rfl, k2.size, fun k h1 _ _ => k2.block k h1, k2.os, k2.tape, k2.output, fun h => absurd h HZ.out⟩
theorem allocs_heap : ∀ (os : List Obj) (w : World), (os.foldl World.alloc w).heap.size = w.heap.size + os.length ∧ (∀ i o, os[i]? = some o → (os.foldl World.alloc w).heap[w.heap.size + i]? = some o) ∧ Below w.heap.size w (os.foldl World.alloc w)
 | [], w => ⟨by simp, fun i o h => by simp at h, Below.refl _ _⟩
 | x :: r, w => by
  obtain ⟨h1, h2, h3⟩ := allocs_heap r (w.alloc x)
  rw [List.foldl_cons]
  have hb : Below w.heap.size w (w.alloc x) := (Below.refl _ _).alloc (Nat.le_refl _) _
  refine ⟨by rw [h1, World.size_alloc, List.length_cons]; omega, fun i o ho => ?_, hb.trans (h3.mono (by simp))⟩
  cases i with
  | zero =>
   simp at ho
   subst ho
   rw [Nat.add_zero, h3.block _ (by simp)]
   exact World.alloc_heap_new w _
  | succ i =>
   have := h2 i o (by simpa using ho)
   rw [World.size_alloc] at this
   rw [show w.heap.size + (i + 1) = w.heap.size + 1 + i by omega]
   exact this
theorem told_any (p : PlanD) (a1 a2 a3 : Option Addr) (n1 c1 n2 c2 n3 c3 : Nat) (s : StateD) (b1 b2 b3 : Option Addr) (m1 d1 m2 d2 m3 d3 : Nat) (f : FuncId) (hf : Goes f) (cap : Array Value) (E N : Int) (S' : StateD) (w : World) (hp : PlanAt w a1 a2 a3 n1 n2 n3 p) (hs : StateAt w b1 b2 b3 m1 m2 m3 s) (hn2 : b2 = none → d2 = 0) (hn3 : b3 = none → d3 = 0) (hE0 : stE p s ≠ 0 → E = stE p s) (hdo : stE p s = 0 → Does f cap w s E N S') :
  Calls Tryz.prog 61 #[.agg #[.slice a1 n1 c1, .slice a2 n2 c2, .slice a3 n3 c3], .agg #[.slice b1 m1 d1, .slice b2 m2 d2, .slice b3 m3 d3, .int .i64 s.nextSeq, .int .i64 s.nextTag, .int .i64 s.came, .int .i64 s.acked, .int .i64 s.dropped], .func (.func f) #[] cap] w fun e w' => ∃ v, e = .returned (.tuple #[v, .int .i64 (if E = 0 then N else 0), .int .i64 E]) ∧ StRes w' w.heap.size v E S' ∧ Below w.heap.size w w' := by
 obtain ⟨hz6, hg6, hB6⟩ := allocs_heap [.cells #[.slice a1 n1 c1, .slice a2 n2 c2, .slice a3 n3 c3] 26, .cells #[.slice b1 m1 d1, .slice b2 m2 d2, .slice b3 m3 d3, .int .i64 s.nextSeq, .int .i64 s.nextTag, .int .i64 s.came, .int .i64 s.acked, .int .i64 s.dropped] 31, .cells #[.func (.func f) #[] cap] 102, .cells #[.slice none 0 0, .slice none 0 0, .slice none 0 0, .int .i64 0, .int .i64 0, .int .i64 0, .int .i64 0, .int .i64 0] 31, .cells #[.slice none 0 0, .slice none 0 0, .slice none 0 0, .int .i64 0, .int .i64 0, .int .i64 0, .int .i64 0, .int .i64 0] 31, .cells #[.int .i64 0] 3] w
 obtain ⟨W6, hW6⟩ : ∃ W6, W6 = List.foldl World.alloc w [.cells #[.slice a1 n1 c1, .slice a2 n2 c2, .slice a3 n3 c3] 26, .cells #[.slice b1 m1 d1, .slice b2 m2 d2, .slice b3 m3 d3, .int .i64 s.nextSeq, .int .i64 s.nextTag, .int .i64 s.came, .int .i64 s.acked, .int .i64 s.dropped] 31, .cells #[.func (.func f) #[] cap] 102, .cells #[.slice none 0 0, .slice none 0 0, .slice none 0 0, .int .i64 0, .int .i64 0, .int .i64 0, .int .i64 0, .int .i64 0] 31, .cells #[.slice none 0 0, .slice none 0 0, .slice none 0 0, .int .i64 0, .int .i64 0, .int .i64 0, .int .i64 0, .int .i64 0] 31, .cells #[.int .i64 0] 3] := ⟨_, rfl⟩
 rw [← hW6] at hz6 hg6 hB6
 have x0 := hg6 0 _ rfl
 have x1 := hg6 1 _ rfl
 have x2 := hg6 2 _ rfl
 have x3 := hg6 3 _ rfl
 have x4 := hg6 4 _ rfl
 have x5 := hg6 5 _ rfl
 have hz6' : W6.heap.size = w.heap.size + 6 := by rw [hz6]; rfl
 have l7 : Below W6.heap.size W6 (W6.alloc (.cells #[.int .i64 0] 33)) := (Below.refl _ _).alloc (Nat.le_refl _) _
 have x6 := World.alloc_heap_new W6 (.cells #[.int .i64 0] 33)
 have T1 := told1_any p a1 a2 a3 n1 c1 n2 c2 n3 c3 s b1 b2 b3 m1 d1 m2 d2 m3 d3 f hf cap w E N S' hE0 hdo w.heap.size (Nat.le_refl _) (W6.alloc (.cells #[.int .i64 0] 33)) (hB6.trans (l7.mono hB6.size)) (by rw [World.size_alloc]; omega) ((hp.keep hB6).keep l7) ((hs.keep hB6).keep l7) hn2 hn3 (pkp_ x0 l7) (pkp_ x1 l7) (pkp_ x2 l7) (pkp_ x4 l7) (pkp_ x5 l7)
 have TR := tried_any 129 (fun _ _ => rfl) #[.pointer (some ⟨w.heap.size, 0, none⟩), .pointer (some ⟨w.heap.size + 1, 0, none⟩), .pointer (some ⟨w.heap.size + 4, 0, none⟩), .pointer (some ⟨w.heap.size + 2, 0, none⟩), .pointer (some ⟨w.heap.size + 5, 0, none⟩)]
  (fun D w1 => D = E ∧ W6.heap.size + 1 ≤ w1.heap.size ∧ (∀ k, k < W6.heap.size + 1 → k ≠ w.heap.size + 4 → k ≠ w.heap.size + 5 → w1.heap[k]? = (W6.alloc (.cells #[.int .i64 0] 33)).heap[k]?) ∧ w1.os = w.os ∧ w1.tape = w.tape ∧ w1.output = w.output ∧ (E = 0 → (∃ n, W6.heap.size + 1 ≤ n ∧ StBox w1 n (w.heap.size + 4) S') ∧ w1.heap[w.heap.size + 5]? = some (.cells #[.int .i64 N] 3 (0, 0)))) W6
  (T1.mono (by
   rintro e w' ⟨rfl, g1, g2, g3, g4, g5, g6⟩
   rw [World.size_alloc] at g1 g2 g6
   exact ⟨E, rfl, ⟨rfl, g1, g2, g3.trans hB6.os, g4.trans hB6.tape, g5.trans hB6.output, g6⟩, (g2 _ (Nat.lt_succ_self _) (by omega) (by omega)).trans x6⟩))
 have HW6 : Hid (W6 = ((((((w.alloc (.cells #[.slice a1 n1 c1, .slice a2 n2 c2, .slice a3 n3 c3] 26)).alloc (.cells #[.slice b1 m1 d1, .slice b2 m2 d2, .slice b3 m3 d3, .int .i64 s.nextSeq, .int .i64 s.nextTag, .int .i64 s.came, .int .i64 s.acked, .int .i64 s.dropped] 31)).alloc (.cells #[.func (.func f) #[] cap] 102)).alloc (.cells #[.slice none 0 0, .slice none 0 0, .slice none 0 0, .int .i64 0, .int .i64 0, .int .i64 0, .int .i64 0, .int .i64 0] 31)).alloc (.cells #[.slice none 0 0, .slice none 0 0, .slice none 0 0, .int .i64 0, .int .i64 0, .int .i64 0, .int .i64 0, .int .i64 0] 31)).alloc (.cells #[.int .i64 0] 3))) := hW6
 have HTR := hidI TR
 have HB6 := hidI hB6
 have X3 := hidI x3
 have HZ6 := hidI hz6'
 have hmf : ∀ (fn : Fn) (first cap : Array Value) (w : World), (Instr.makeFunc fn first cap).run Tryz.prog w = .ok (.func fn first cap) w := fun _ _ _ _ => rfl
 clear T1 TR hW6 hz6 hz6' hg6 hB6 x0 x1 x2 x3 x4 x5 x6 l7 hE0 hdo hf hp hs hn2 hn3
 go_enter Tryz.func61, Tryz.ntmps61
 go_wp2_with fail
 rw [← HW6.out]
 refine HTR.out.mono ?_
 rintro e w7 ⟨D, w1, rfl, ⟨rfl, g1, g2, g3, g4, g5, g6⟩, hb, rfl⟩
 have r1 : w1.heap[w.heap.size + 3]? = _ := (g2 _ (by have := HZ6.out; omega) (by omega) (by omega)).trans (((Below.refl W6.heap.size W6).alloc (Nat.le_refl _) (.cells #[.int .i64 0] 33)).block _ (by have := HZ6.out; omega) |>.trans X3.out)
 have t7 := sct_ w1 W6.heap.size 0 (.int .i64 D)
 have r7 := (t7.block _ (lth_ r1) (by have := HZ6.out; omega)).trans r1
 generalize hw7 : w1.setCell ⟨W6.heap.size, 0, none⟩ (.int .i64 D) = w7 at t7 r7
 have hB7 : Below w.heap.size w w7 := by
  refine ⟨t7.os.trans g3, t7.tape.trans g4, t7.output.trans g5, ?_, fun k hk => ?_⟩
  ·have := t7.size; have := HZ6.out; omega
  ·rw [t7.block k (by have := HZ6.out; omega) (by have := HZ6.out; omega), g2 k (by have := HZ6.out; omega) (by omega) (by omega), Below.heap_alloc _ _ _ (by have := HZ6.out; omega), HB6.out.block k hk]
 have HB7 := hidI hB7
 have R7 := hidI r7
 obtain ⟨x0, x1, x2, x3, x4, x5, x6, x7⟩ := st_cells r7
 have e0 := foc_ r7 0
 have e1 := foc_ r7 1
 have e2 := foc_ r7 2
 have e3 := foc_ r7 3
 have e4 := foc_ r7 4
 have e5 := foc_ r7 5
 have e6 := foc_ r7 6
 have e7 := foc_ r7 7
 by_cases hD : D = 0
 ·subst hD
  obtain ⟨⟨n, hn, g1', g2', g3', l1, r1', l2, r2, l3, r3, hbx, ho⟩, hnb⟩ := g6 rfl
  have hbx7 := (t7.block _ (lth_ hbx) (by have := HZ6.out; omega)).trans hbx
  have hnb7 := (t7.block _ (lth_ hnb) (by have := HZ6.out; omega)).trans hnb
  have ho7 := ho.turn hb (by decide) t7
  have HO7 := hidI ho7
  obtain ⟨y0, y1, y2, y3, y4, y5, y6, y7⟩ := st_cells hbx7
  have cn := coc_ hnb7 0
  simp at cn
  have HN := hidI hn
  clear g1 g2 g3 g4 g5 g6 hb r1 t7 r7 hw7 hB7 hbx hnb ho hbx7 hnb7 ho7 hn
  go_wp2_with fail
  go_region
  generalize hW4 : World.setCell (World.setCell (World.setCell (World.setCell (World.setCell (World.setCell (World.setCell (World.setCell _ _ _) _ _) _ _) _ _) _ _) _ _) _ _) _ _ = W4
  obtain ⟨b4, t4⟩ := store8 R7.out hW4
  obtain ⟨z0, z1, z2, z3, z4, z5, z6, z7⟩ := st_cells b4
  go_wp2_with fail
  exact bodyPost_ret (v := .tuple #[.agg #[.slice g1' l1 r1', .slice g2' l2 r2, .slice g3' l3 r3, .int .i64 S'.nextSeq, .int .i64 S'.nextTag, .int .i64 S'.came, .int .i64 S'.acked, .int .i64 S'.dropped], .int .i64 N, .int .i64 0]) (by simp [results, Tryz.results61, go_sem, z0, z1, z2, z3, z4, z5, z6, z7]) rfl ⟨_, by first | rfl | rw [if_pos rfl], ⟨fun _ => ⟨_, _, _, _, _, _, _, _, _, rfl, ((HO7.out.turn R7.out (by decide) t4).lower (by have := HN.out; have := HZ6.out; omega)).keep (Below.refl _ _).drew⟩, fun h => absurd rfl h⟩, HB7.out.trans (t4.below (by have := HB7.out.size; omega) (by omega)).drew⟩
 ·have hD' : (D != 0) = true := bne_iff_ne.2 hD
  have HDN := hidI hD
  clear g1 g2 g3 g4 g5 g6 hb r1 t7 r7 hw7 hB7 hD
  go_wp2_with fail
  generalize hW4 : World.setCell (World.setCell (World.setCell (World.setCell (World.setCell (World.setCell (World.setCell (World.setCell w7 _ _) _ _) _ _) _ _) _ _) _ _) _ _) _ _ = W4
  obtain ⟨b4, t4⟩ := store8 R7.out hW4
  obtain ⟨z0, z1, z2, z3, z4, z5, z6, z7⟩ := st_cells b4
  exact bodyPost_ret (v := .tuple #[zerS, .int .i64 0, .int .i64 D]) (by simp [results, Tryz.results61, go_sem, z0, z1, z2, z3, z4, z5, z6, z7, zerS]) rfl ⟨zerS, by first | rfl | rw [if_neg HDN.out], ⟨fun h => absurd h HDN.out, fun _ => rfl⟩, HB7.out.trans (t4.below (by have := HB7.out.size; omega) (by omega))⟩
structure OutFine (ts : List TakerD) (nt : Int) (o : OutD) : Prop where
 tag : o.tag < nt
 rng : 0 ≤ o.taker ∧ o.taker < ts.length
 tk : ∃ t, ts[o.taker.toNat]? = some t ∧ t.queue ≠ -1 ∧ t.queue = o.queue
 item : itemOk o.item = true
theorem outOk_iff {ts : List TakerD} {nt l : Int} {o : OutD} : outOk ts nt l o = true ↔ l < o.tag ∧ OutFine ts nt o := by
 unfold outOk
 simp only [Bool.and_eq_true, decide_eq_true_eq]
 constructor
 ·rintro ⟨⟨⟨⟨h1, h2⟩, h3⟩, h4⟩, h5⟩
  refine ⟨h1, h2, isNum_iff.1 h3, ?_, h5⟩
  cases ht : ts[o.taker.toNat]? with
  | none => rw [ht] at h4; cases h4
  | some t => rw [ht] at h4; simp only [Bool.and_eq_true, decide_eq_true_eq] at h4; exact ⟨t, rfl, h4.1, h4.2⟩
 ·rintro ⟨h1, h2⟩
  refine ⟨⟨⟨⟨h1, h2.tag⟩, isNum_iff.2 h2.rng⟩, ?_⟩, h2.item⟩
  obtain ⟨t, ht, h3, h4⟩ := h2.tk
  rw [ht]; simp only [Bool.and_eq_true, decide_eq_true_eq]; exact ⟨h3, h4⟩
theorem outsFrom_iff {ts : List TakerD} {nt : Int} : ∀ {xs : List OutD} {l : Int}, outsFrom ts nt l xs = true ↔ (∀ o ∈ xs, l < o.tag ∧ OutFine ts nt o) ∧ xs.Pairwise (fun a b => a.tag < b.tag)
 | [], l => by simp [outsFrom]
 | x :: r, l => by
  unfold outsFrom
  rw [Bool.and_eq_true, outOk_iff, outsFrom_iff]
  constructor
  ·rintro ⟨h1, h2, h3⟩
   refine ⟨fun o ho => ?_, List.pairwise_cons.2 ⟨fun b hb => (h2 b hb).1, h3⟩⟩
   rcases List.mem_cons.1 ho with rfl | ho
   ·exact h1
   ·have := h2 o ho; exact ⟨by have := h1.1; omega, this.2⟩
  ·rintro ⟨h1, h2⟩
   obtain ⟨h3, h4⟩ := List.pairwise_cons.1 h2
   exact ⟨h1 x List.mem_cons_self, fun o ho => ⟨h3 o ho, (h1 o (List.mem_cons_of_mem _ ho)).2⟩, h4⟩
theorem RightX.fine {p : PlanD} {s : StateD} {n : Int} (h : RightX p s n) {o : OutD} (ho : o ∈ s.outs) : 0 ≤ o.tag ∧ OutFine s.takers s.nextTag o := by
 have := (outsFrom_iff.1 h.outs).1 o ho; exact ⟨by omega, this.2⟩
theorem RightX.rise {p : PlanD} {s : StateD} {n : Int} (h : RightX p s n) : s.outs.Pairwise (fun a b => a.tag < b.tag) := (outsFrom_iff.1 h.outs).2
theorem takerOk_iff {nq : Nat} {t : TakerD} : takerOk nq t = true ↔ (t.queue = -1 ∨ 0 ≤ t.queue ∧ t.queue < nq) ∧ 1 ≤ t.most ∧ t.most ≤ 4 := by
 unfold takerOk isNum; simp
theorem heldN_app (s : StateD) (o : OutD) (t : Int) : heldN { s with outs := s.outs ++ [o] } t = heldN s t + if o.taker = t then 1 else 0 := by
 unfold heldN; simp only; rw [List.filter_append]; by_cases h : o.taker = t <;> simp [h]
def goneIdx (ts : List TakerD) : Nat := ts.findIdx (fun t => decide (t.queue = -1))
def joinX (nq : Nat) (s : StateD) (q most : Int) : Int := if isNum q nq = false then 5 else if inR most 1 4 = false then 3 else if goneIdx s.takers = s.takers.length ∧ 4 ≤ s.takers.length then 2 else 0
def joinE (p : PlanD) (s : StateD) (q most : Int) : Int := if stE p s ≠ 0 then stE p s else joinX p.queues.length s q most
def joinT (ts : List TakerD) (q most : Int) : List TakerD := if goneIdx ts < ts.length then ts.set (goneIdx ts) ⟨q, most⟩ else ts ++ [⟨q, most⟩]
def joinS (s : StateD) (q most : Int) : StateD := { s with takers := joinT s.takers q most }
def tAt (s : StateD) (k : Nat) : TakerD := s.takers.getD k ⟨0, 0⟩
def freeT (s : StateD) (q : Int) (k : Nat) : Bool := decide ((tAt s k).queue = q) && decide ((heldN s k : Int) < (tAt s k).most)
def lbTo (s : StateD) (q : Int) : Nat → Int × Int
 | 0 => (-1, 4)
 | k + 1 => if freeT s q k = true ∧ (heldN s k : Int) < (lbTo s q k).2 then ((k : Int), (heldN s k : Int)) else lbTo s q k
def nextK (s : StateD) (q : Int) : Int := (lbTo s q s.takers.length).1
def nextE (p : PlanD) (s : StateD) (q : Int) : Int :=
 if stE p s ≠ 0 then stE p s else if isNum q p.queues.length = false then 5 else if lineAt s q.toNat = [] then 8 else if nextK s q = -1 then 9 else 0
structure Least (s : StateD) (q : Int) (n k : Nat) : Prop where
 lt : k < n
 free : freeT s q k = true
 few : heldN s k < 4
 least : ∀ j, j < n → freeT s q j = true → heldN s k ≤ heldN s j
 first : ∀ j, j < k → freeT s q j = true → heldN s k < heldN s j
theorem RightX.few {p : PlanD} {s : StateD} {n : Int} (h : RightX p s n) {q : Int} {j : Nat} (hj : j < s.takers.length) (hf : freeT s q j = true) : heldN s j < 4 := by
 unfold freeT tAt at hf
 simp only [Bool.and_eq_true, decide_eq_true_eq] at hf
 rw [List.getD_eq_getElem?_getD, List.getElem?_eq_getElem hj] at hf
 have := (takerOk_iff.1 (h.tok _ (List.getElem_mem hj))).2
 have h2 := hf.2
 simp only [Option.getD_some] at h2
 omega
theorem Least.uniq {s : StateD} {q : Int} {n k j : Nat} (h : Least s q n k) (g : Least s q n j) : k = j := by
 rcases Nat.lt_trichotomy k j with e | e | e
 ·have := g.first k e h.free; have := h.least j g.lt g.free; omega
 ·exact e
 ·have := h.first j e g.free; have := g.least k h.lt h.free; omega
def delE (p : PlanD) (s : StateD) (q : Int) : Int := if nextE p s q ≠ 0 then nextE p s q else if s.nextTag = 1048576 then 2 else 0
def iDef : ItemD := ⟨0, ⟨#[]⟩, ⟨#[]⟩, false, 0⟩
def delO (s : StateD) (q : Int) : OutD := ⟨s.nextTag, nextK s q, q, (lineAt s q.toNat).headD iDef⟩
def delS (s : StateD) (q : Int) : StateD := { s with ready := s.ready.set q.toNat (lineAt s q.toNat).tail, outs := s.outs ++ [delO s q], nextTag := s.nextTag + 1 }
structure Delivers (p : PlanD) (s : StateD) (q : Int) (k : Nat) (x : ItemD) (r : List ItemD) : Prop where
 right : RightX p s 0
 q0 : 0 ≤ q
 ql : q.toNat < s.ready.length
 line : lineAt s q.toNat = x :: r
 key : nextK s q = k
 least : Least s q s.takers.length k
 tag : s.nextTag < 1048576
theorem Delivers.out {p : PlanD} {s : StateD} {q : Int} {k : Nat} {x : ItemD} {r : List ItemD} (h : Delivers p s q k x r) : delO s q = ⟨s.nextTag, (k : Int), q, x⟩ := by
 unfold delO; rw [h.key, h.line]; rfl
theorem seqs_del {p : PlanD} {s : StateD} {q : Int} {k : Nat} {x : ItemD} {r : List ItemD} (h : Delivers p s q k x r) : (seqsOf (delS s q)).Perm (seqsOf s) := by
 obtain ⟨A, B, h1, h2⟩ := flat_set (fun l => l.map ItemD.seq) h.ql r
 have e : s.ready[q.toNat]'h.ql = x :: r := by rw [← lineAt_get h.ql]; exact h.line
 have e1 : seqsOf s = A ++ (x.seq :: (r.map ItemD.seq ++ (B ++ s.outs.map fun o => o.item.seq))) := by
  unfold seqsOf; rw [h1, e]; simp only [List.map_cons, List.append_assoc, List.cons_append]
 have e2 : seqsOf (delS s q) = A ++ (r.map ItemD.seq ++ (B ++ s.outs.map fun o => o.item.seq)) ++ [x.seq] := by
  have : seqsOf (delS s q) = ((s.ready.set q.toNat (lineAt s q.toNat).tail).flatMap fun l => l.map ItemD.seq) ++ (s.outs ++ [delO s q]).map fun o => o.item.seq := rfl
  rw [this, h.line, List.tail_cons, h2, h.out, List.map_append]; simp only [List.map_cons, List.map_nil, List.append_assoc]
 rw [e1, e2]
 refine List.perm_append_comm.trans ?_
 rw [List.singleton_append]
 exact List.perm_middle.symm
theorem Delivers.done {p : PlanD} {s : StateD} {q : Int} {k : Nat} {x : ItemD} {r : List ItemD} (h : Delivers p s q k x r) : RightX p (delS s q) 0 := by
 have hR := h.right
 have hp := seqs_del h
 have hlx := hR.line _ (lineAt_mem h.ql)
 rw [h.line] at hlx
 obtain ⟨l1, l2⟩ := lineOk_iff.1 hlx
 have hfree := h.least.free
 unfold freeT at hfree
 simp only [Bool.and_eq_true, decide_eq_true_eq] at hfree
 have htk : s.takers[k]? = some (tAt s k) := by unfold tAt; rw [List.getD_eq_getElem?_getD, List.getElem?_eq_getElem h.least.lt]; rfl
 have hkl := h.least.lt
 refine ⟨hR.pl, hR.tk, by simpa [delS] using hR.len, ?_, hR.tok, ?_, hR.ns, ?_, hR.ak, hR.dr, hp.nodup_iff.2 hR.nodup, fun z hz => hR.lt z (hp.mem_iff.1 hz), ?_, ?_, ?_, hR.cs⟩
 ·intro l hl
  rcases List.mem_or_eq_of_mem_set hl with h' | h'
  ·exact hR.line l h'
  ·rw [h', h.line, List.tail_cons]
   exact lineOk_iff.2 ⟨fun z hz => l1 z (List.mem_cons_of_mem _ hz), (List.pairwise_cons.1 l2).2⟩
 ·show outsFrom s.takers (s.nextTag + 1) (-1) (s.outs ++ [delO s q]) = true
  rw [h.out]
  refine outsFrom_iff.2 ⟨fun o ho => ?_, ?_⟩
  ·rcases List.mem_append.1 ho with ho | ho
   ·obtain ⟨g1, g2⟩ := hR.fine ho
    exact ⟨by omega, by have := g2.tag; omega, g2.rng, g2.tk, g2.item⟩
   ·rw [List.mem_singleton.1 ho]
    refine ⟨by have := hR.nt; simp only; omega, by simp only; omega, by simp only; omega, ⟨tAt s k, by simp only [Int.toNat_natCast]; exact htk, by rw [hfree.1]; have := h.q0; omega, hfree.1⟩, l1 x List.mem_cons_self⟩
  ·rw [List.pairwise_append]
   exact ⟨hR.rise, by simp, fun a ha b hb => by rw [List.mem_singleton.1 hb]; exact (hR.fine ha).2.tag⟩
 ·show 0 ≤ s.nextTag + 1 ∧ s.nextTag + 1 ≤ 1048576; have := hR.nt; have := h.tag; omega
 ·intro j hj
  have hj' : j < s.ready.length := by simpa [delS] using hj
  have : lineAt (delS s q) j = if j = q.toNat then (lineAt s q.toNat).tail else lineAt s j := lineAt_set (s := s) h.ql (lineAt s q.toNat).tail 0
  rw [this]
  split
  ·rename_i e; subst e; have := hR.room q.toNat hj'; rw [List.length_tail]; omega
  ·exact hR.room j hj'
 ·intro j hj
  show (heldN { s with outs := s.outs ++ [delO s q] } j : Int) ≤ (s.takers.getD j ⟨0, 0⟩).most
  rw [heldN_app, h.out]
  by_cases e : k = j
  ·subst e
   have := hfree.2
   unfold tAt at this
   simp only [if_true]; omega
  ·rw [if_neg (by simp only; omega)]; exact hR.hold j hj
 ·show s.came = _
  have := hR.sum
  rw [hp.length_eq]; exact this
def TakerD.val (x : TakerD) : Value := .agg #[.int .i64 x.queue, .int .i64 x.most]
def OutD.val (o : OutD) : Value := .agg #[.int .i64 o.tag, .int .i64 o.taker, .int .i64 o.queue, .int .i64 o.item.seq, .string o.item.key, .string o.item.body, .bool o.item.again, .int .i64 o.item.deaths]
def idxF {α : Type} (P : α → Bool) (xs : List α) : Int := if xs.findIdx P < xs.length then (xs.findIdx P : Int) else -1
theorem idxF_hit {α : Type} {P : α → Bool} {xs : List α} {k : Nat} (hk : k < xs.length) (ha : ∀ x ∈ xs.take k, P x = false) (hx : P xs[k] = true) : idxF P xs = k := by
 have e : xs.findIdx P = k := by
  rw [List.findIdx_eq hk]
  exact ⟨hx, fun j hj => ha _ (by rw [List.mem_take_iff_getElem]; exact ⟨j, by omega, rfl⟩)⟩
 unfold idxF; rw [e, if_pos hk]
theorem idxF_none {α : Type} {P : α → Bool} {xs : List α} (ha : ∀ x ∈ xs, P x = false) : idxF P xs = -1 := by
 have e : xs.findIdx P = xs.length := List.findIdx_eq_length.2 ha
 unfold idxF; rw [e, if_neg (Nat.lt_irrefl _)]
theorem indexOut_any (f : FuncId) (hf : Goes f) (cap : Array Value) (P : OutD → Bool) (xs : List OutD) (a : Option Addr) (n c : Nat) (w : World) (hn : xs.length = n) (hm : n ≤ 100000000) (hp : OutsAt w a xs)
  (hcl : ∀ (x : OutD) (W : World), Below w.heap.size w W → Calls Tryz.prog f (#[x.val] ++ cap) W fun e w' => e = .returned (.bool (P x)) ∧ Below W.heap.size W w') :
  Calls Tryz.prog 157 #[.slice a n c, .func (.func f) #[] cap] w fun e w' => e = .returned (.int .i64 (idxF P xs)) ∧ Below w.heap.size w w' := by
 have HN := hidI hn
 have HP := hidI hp
 have HCL := hidI hcl
 have hf' : ∀ (args : Array Value) (w : World), Sem.run Tryz.prog (callFunc f args) w = .ok (.enter f args) w := hf
 clear hn hp hcl hf
 go_enter Tryz.func157, Tryz.ntmps157
 go_wp2
 go_loopw [8] (fun i wr => ∃ (k : Nat), k ≤ n ∧ i = .int .i64 k ∧ (∀ x ∈ xs.take k, P x = false) ∧ Below w.heap.size w wr) (fun i _ => n - (intOf i).toNat)
 case atStart => exact ⟨0, Nat.zero_le _, rfl, by simp, Below.refl _ _⟩
 case round =>
  obtain ⟨k, hk, rfl, ha, hBl⟩ := hrel
  have HA := hidI ha
  have hBs := hBl.size
  clear ha
  by_cases hlt : k < n
  ·have hkl : k < xs.length := by rw [HN.out]; exact hlt
   obtain ⟨g, o, rfl, hg, hc⟩ := (HP.out.keep hBl).get hkl
   have HX : Hid (P xs[k] = true → idxF P xs = k) := fun h => idxF_hit hkl HA.out h
   have HT : Hid (P xs[k] = false → ∀ x ∈ xs.take (k + 1), P x = false) := fun h x hx => by
    rw [List.take_succ_eq_append_getElem hkl, List.mem_append, List.mem_singleton] at hx
    rcases hx with hx | rfl
    ·exact HA.out x hx
    ·exact h
   have HCX := hidI (HCL.out xs[k] wr hBl)
   obtain ⟨x, hxx⟩ : ∃ x, x = xs[k] := ⟨_, rfl⟩
   rw [← hxx] at hc HX HT HCX
   obtain ⟨y, hy⟩ : ∃ y, y = P x := ⟨_, rfl⟩
   rw [← hy] at HX HT HCX
   clear hxx hy HA
   obtain ⟨c0, c1, c2, c3, c4, c5, c6, c7⟩ := hc
   have j1 : (0 : Int) ≤ (k : Int) := by omega
   have j2 : (k : Int) < n := by omega
   cases y with
   | true =>
    go_wp2_with fail
    refine HCX.out.mono ?_
    rintro e w2 ⟨rfl, hB2⟩
    go_wp2_with fail
    go_ret
    exact ⟨ret_int (HX.out (by first | rfl | trivial)).symm, hBl.trans (hB2.mono hBs)⟩
   | false =>
    go_wp2_with fail
    refine HCX.out.mono ?_
    rintro e w2 ⟨rfl, hB2⟩
    go_wp2_with fail
    go_roundw
    case rel => exact ⟨k + 1, by omega, by go_num, HT.out (by first | rfl | trivial), hBl.trans (hB2.mono hBs)⟩
    case measure => simp [intOf]; omega
  ·have HF : Hid (idxF P xs = -1) := idxF_none (fun x hx => HA.out x (by rw [List.take_of_length_le (by rw [HN.out]; omega)]; exact hx))
   go_wp2
   go_ret
   exact ⟨ret_int HF.out.symm, hBl⟩
end Go.Proofs.YtpoichgodamnkaaGreat
