import Derived.Test.YtpoichgodamnkaaXb
import Derived.Deep.RegionHeld3
import Derived.Laws.StructEq
import Derived.Test.YtpoichgodamnkaaTt
import Derived.Test.YtpoichgodamnkaaXa
/- Ug -/
namespace Go.Proofs.Ytpoichgodamnkaa
set_option linter.unusedVariables false
set_option maxRecDepth 100000
open Go.RowKit Go.Maps

def TakerD.val (x : TakerD) : Value := .agg #[.int .i64 x.queue, .int .i64 x.most]
def OutD.val (o : OutD) : Value := .agg #[.int .i64 o.tag, .int .i64 o.taker, .int .i64 o.queue, .int .i64 o.item.seq, .string o.item.key, .string o.item.body, .bool o.item.again, .int .i64 o.item.deaths]
/-- Where the first one of these is; -1: none. -/
def idxF {α : Type} (P : α → Bool) (xs : List α) : Int := if xs.findIdx P < xs.length then (xs.findIdx P : Int) else -1
theorem idxF_hit {α : Type} {P : α → Bool} {xs : List α} {k : Nat} (hk : k < xs.length) (ha : ∀ x ∈ xs.take k, P x = false) (hx : P xs[k] = true) : idxF P xs = k := by
  have e : xs.findIdx P = k := by
    rw [List.findIdx_eq hk]
    exact ⟨hx, fun j hj => ha _ (by rw [List.mem_take_iff_getElem]; exact ⟨j, by omega, rfl⟩)⟩
  unfold idxF; rw [e, if_pos hk]
theorem idxF_none {α : Type} {P : α → Bool} {xs : List α} (ha : ∀ x ∈ xs, P x = false) : idxF P xs = -1 := by
  have e : xs.findIdx P = xs.length := List.findIdx_eq_length.2 ha
  unfold idxF; rw [e, if_neg (Nat.lt_irrefl _)]

set_option maxHeartbeats 2000000 in
theorem indexTaker_any (f : FuncId) (hf : Goes f) (cap : Array Value) (P : TakerD → Bool) (xs : List TakerD) (a : Option Addr) (n c : Nat) (w : World) (hn : xs.length = n) (hm : n ≤ 100000000) (hp : TakersAt w a xs)
    (hcl : ∀ (x : TakerD) (W : World), Below w.heap.size w W → Calls Try.prog f (#[x.val] ++ cap) W fun e w' => e = .returned (.bool (P x)) ∧ Below W.heap.size W w') :
    Calls Try.prog 58 #[.slice a n c, .func (.func f) #[] cap] w fun e w' => e = .returned (.int .i64 (idxF P xs)) ∧ Below w.heap.size w w' := by
  have HN := hidI hn
  have HP := hidI hp
  have HCL := hidI hcl
  have hf' : ∀ (args : Array Value) (w : World), Sem.run Try.prog (callFunc f args) w = .ok (.enter f args) w := hf
  clear hn hp hcl hf
  go_enter Try.func58, Try.ntmps58
  go_wp2
  go_loopw [8] (fun i wr => ∃ (k : Nat), k ≤ n ∧ i = .int .i64 k ∧ (∀ x ∈ xs.take k, P x = false) ∧ Below w.heap.size w wr) (fun i _ => n - (intOf i).toNat)
  case atStart => exact ⟨0, Nat.zero_le _, rfl, by simp, Below.refl _ _⟩
  case round =>
    obtain ⟨k, hk, rfl, ha, hBl⟩ := hrel
    have HA := hidI ha
    have hBs := hBl.size
    clear ha
    by_cases hlt : k < n
    · have hkl : k < xs.length := by rw [HN.out]; exact hlt
      obtain ⟨g, o, rfl, hg, hc⟩ := (HP.out.keep hBl).get hkl
      have HX : Hid (P xs[k] = true → idxF P xs = k) := fun h => idxF_hit hkl HA.out h
      have HT : Hid (P xs[k] = false → ∀ x ∈ xs.take (k + 1), P x = false) := fun h x hx => by
        rw [List.take_succ_eq_append_getElem hkl, List.mem_append, List.mem_singleton] at hx
        rcases hx with hx | rfl
        · exact HA.out x hx
        · exact h
      have HCX := hidI (HCL.out xs[k] wr hBl)
      obtain ⟨x, hxx⟩ : ∃ x, x = xs[k] := ⟨_, rfl⟩
      rw [← hxx] at hc HX HT HCX
      obtain ⟨y, hy⟩ : ∃ y, y = P x := ⟨_, rfl⟩
      rw [← hy] at HX HT HCX
      clear hxx hy HA
      obtain ⟨c0, c1⟩ := hc
      have j1 : (0 : Int) ≤ (k : Int) := by omega
      have j2 : (k : Int) < n := by omega
      cases y with
      | true =>
        go_wp2_with fail
        refine HCX.out.mono ?_
        rintro e w2 ⟨rfl, hB2⟩
        go_wp2_with fail
        go_ret
        exact ⟨ret_int (HX.out (by first | rfl | trivial)).symm, hBl.trans (hB2.mono hBs)⟩
      | false =>
        go_wp2_with fail
        refine HCX.out.mono ?_
        rintro e w2 ⟨rfl, hB2⟩
        go_wp2_with fail
        go_roundw
        case rel => exact ⟨k + 1, by omega, by go_num, HT.out (by first | rfl | trivial), hBl.trans (hB2.mono hBs)⟩
        case measure => simp [intOf]; omega
    · have HF : Hid (idxF P xs = -1) := idxF_none (fun x hx => HA.out x (by rw [List.take_of_length_le (by rw [HN.out]; omega)]; exact hx))
      go_wp2
      go_ret
      exact ⟨ret_int HF.out.symm, hBl⟩

set_option maxHeartbeats 1000000 in
theorem askQueue_any (p : PlanD) (a1 a2 a3 : Option Addr) (n1 c1 n2 c2 n3 c3 : Nat) (q : Int) (w : World) (hp : PlanAt w a1 a2 a3 n1 n2 n3 p) :
    Calls Try.prog 57 #[.agg #[.slice a1 n1 c1, .slice a2 n2 c2, .slice a3 n3 c3], .int .i64 q] w fun e w' => e = askE (if isNum q n2 = false then 5 else 0) ∧ Below w.heap.size w w' := by
  obtain ⟨E, hE⟩ : ∃ E : Int, E = if isNum q n2 = false then 5 else 0 := ⟨_, rfl⟩
  rw [← hE]
  obtain ⟨W1, hW1, hBw, hs1, hbx⟩ := plan_boxed w (.slice a1 n1 c1) (.slice a2 n2 c2) (.slice a3 n3 c3) 26
  have HW1 := hidI hW1
  have HE := hidI hE
  have HS1 := hidI hs1
  have s0 := hBw.size
  obtain ⟨x0, x1, x2⟩ := hbx W1 (Below.refl _ _)
  clear hW1 hbx hE hs1
  go_enter Try.func57, Try.ntmps57
  go_wp2_with fail
  rw [← HW1.out]
  by_cases h : 0 ≤ q ∧ q < n2
  · have HE0 : Hid (E = 0) := by show E = 0; rw [HE.out, if_neg (by rw [isNum_iff.2 h]; decide)]
    refine (never_no 5 [decide (q < 0), decide ((n2 : Int) ≤ q)] _ _ (by simp) (bools_newG W1 _ HS1.out.symm) (by simp; omega)).mono ?_
    rintro e w2 ⟨rfl, rfl⟩
    go_wp2_with fail
    go_end0
    exact ⟨by rw [HE0.out]; rfl, hBw.trans ((Below.refl _ _).alloc s0 _)⟩
  · have HE0 : Hid (E = 5) := by show E = 5; rw [HE.out, if_pos (isNum_no.2 h)]
    refine (never_yes 5 [decide (q < 0), decide ((n2 : Int) ≤ q)] _ _ (by simp) (bools_newG W1 _ HS1.out.symm) (by simp; omega)).mono ?_
    rintro e w2 ⟨rfl, rfl⟩
    exact ⟨rfl, by rw [HE0.out]; rfl, hBw.trans ((Below.refl _ _).alloc s0 _)⟩

end Go.Proofs.Ytpoichgodamnkaa

/- Uh -/
namespace Go.Proofs.Ytpoichgodamnkaa
set_option linter.unusedVariables false
set_option maxRecDepth 100000
open Go.RowKit Go.Maps

/-- Only blocks of one type have turned. -/
structure TypeT (T : TypeId) (W W' : World) : Prop where
  size : W.heap.size ≤ W'.heap.size
  block : ∀ (k : Nat) (cur : Array Value) (T' : TypeId), W.heap[k]? = some (Obj.cells cur T' (0, 0)) → T' ≠ T → W'.heap[k]? = W.heap[k]?
theorem TypeT.of_below {T : TypeId} {W W' : World} (h : Below W.heap.size W W') : TypeT T W W' := ⟨h.size, fun k cur T' hk _ => h.block k (lt_of_heap hk)⟩
theorem TypeT.trans {T : TypeId} {A B C : World} (h : TypeT T A B) (k : TypeT T B C) : TypeT T A C := ⟨Nat.le_trans h.size k.size, fun i cur T' hi hT => (k.block i cur T' ((h.block i cur T' hi hT).trans hi) hT).trans (h.block i cur T' hi hT)⟩
theorem TypeT.setCell {T : TypeId} {W : World} {B i : Nat} {cur : Array Value} (hB : W.heap[B]? = some (.cells cur T (0, 0))) (u : Value) : TypeT T W (W.setCell ⟨B, i, none⟩ u) :=
  ⟨by simp [World.setCell], fun k cur' T' hk hT => heap_setCell_other _ _ _ _ (fun e => by
    have e' : k = B := e
    rw [e', hB] at hk
    cases hk; exact hT rfl)⟩
theorem TypeT.grown {T : TypeId} {W W' : World} {base size n : Nat} {v : Value} {cs : List Value} (h : W.ownsRow base T size v n cs) (hg : W.grownBy W' v.ownBlock) : TypeT T W W' :=
  ⟨hg.size, fun k cur' T' hk hT => hg.block k (lt_of_heap hk) (fun e => row_other h hk (fun e => hT e.symm) e.symm)⟩
theorem TypeT.row {T T' : TypeId} {W W' : World} {base size n : Nat} {v : Value} {cs : List Value} (k : TypeT T W W') (h : W.ownsRow base T' size v n cs) (hT : T' ≠ T) : W'.ownsRow base T' size v n cs := by
  refine ⟨h.1, ?_⟩
  rcases h.2 with h | ⟨g, cap, cur, h1, h2, h3, h4⟩
  · exact .inl h
  · exact .inr ⟨g, cap, cur, h1, h2, (k.block g cur T' h3 hT).trans h3, h4⟩
theorem TypeT.keepI {T : TypeId} {n : Nat} {W W' : World} (k : TypeT T W W') (hT : 51 ≠ T) : KeepI n W W' := ⟨k.size, fun g cur _ hg => k.block g cur _ hg hT⟩
theorem OwnSt.typeT {T : TypeId} {W W' : World} {n : Nat} {b1 b2 b3 : Option Addr} {m1 d1 m2 d2 m3 d3 : Nat} {s : StateD} (h : OwnSt W n b1 b2 b3 m1 d1 m2 d2 m3 d3 s) (k : TypeT T W W') (hT : 51 ≠ T ∧ 53 ≠ T ∧ 56 ≠ T ∧ 49 ≠ T) : OwnSt W' n b1 b2 b3 m1 d1 m2 d2 m3 d3 s := by
  obtain ⟨vs, h1, h2⟩ := h.r1
  exact ⟨h.l1, h.l2, h.l3, h.x2, ⟨vs, k.row h1 hT.2.2.2, h2.keepT (k.keepI hT.1)⟩, k.row h.r2 hT.2.1, k.row h.r3 hT.2.2.1⟩
theorem takerCells_len (xs : List TakerD) : (takerCells xs).length = xs.length * 2 := flat_length (f := TakerD.cells) (fun _ => rfl) xs
theorem outCells_len (xs : List OutD) : (outCells xs).length = xs.length * 8 := flat_length (f := OutD.cells) (fun _ => rfl) xs
theorem takerCells_append (xs ys : List TakerD) : takerCells (xs ++ ys) = takerCells xs ++ takerCells ys := by unfold takerCells; rw [List.flatMap_append]
theorem outCells_append (xs ys : List OutD) : outCells (xs ++ ys) = outCells xs ++ outCells ys := by unfold outCells; rw [List.flatMap_append]
/-- Other takers. -/
theorem OwnSt.takers {W W' : World} {n : Nat} {b1 b2 b3 b3' : Option Addr} {m1 d1 m2 d2 m3 d3 m3' d3' : Nat} {s : StateD} {ts : List TakerD} (h : OwnSt W n b1 b2 b3 m1 d1 m2 d2 m3 d3 s) (k : TypeT 56 W W') (r : W'.ownsRow n 56 2 (.slice b3' m3' d3') m3' (takerCells ts)) : OwnSt W' n b1 b2 b3' m1 d1 m2 d2 m3' d3' { s with takers := ts } := by
  obtain ⟨vs, h1, h2⟩ := h.r1
  refine ⟨h.l1, h.l2, ?_, h.x2, ⟨vs, k.row h1 (by decide), h2.keepT (k.keepI (by decide))⟩, k.row h.r2 (by decide), r⟩
  have := r.1
  rw [takerCells_len] at this
  show ts.length = m3'
  omega
/-- Other Outs. -/
theorem OwnSt.outs {W W' : World} {n : Nat} {b1 b2 b3 b2' : Option Addr} {m1 d1 m2 d2 m3 d3 m2' d2' : Nat} {s : StateD} {os : List OutD} (h : OwnSt W n b1 b2 b3 m1 d1 m2 d2 m3 d3 s) (k : TypeT 53 W W') (hx : m2' ≤ 100000000) (r : W'.ownsRow n 53 8 (.slice b2' m2' d2') m2' (outCells os)) : OwnSt W' n b1 b2' b3 m1 d1 m2' d2' m3 d3 { s with outs := os } := by
  obtain ⟨vs, h1, h2⟩ := h.r1
  refine ⟨h.l1, ?_, h.l3, hx, ⟨vs, k.row h1 (by decide), h2.keepT (k.keepI (by decide))⟩, r, k.row h.r3 (by decide)⟩
  have := r.1
  rw [outCells_len] at this
  show os.length = m2'
  omega
/-- Another line. -/
theorem OwnSt.line {W W' : World} {n g : Nat} {b2 b3 : Option Addr} {m1 d1 m2 d2 m3 d3 : Nat} {s : StateD} (h : OwnSt W n (some ⟨g, 0, none⟩) b2 b3 m1 d1 m2 d2 m3 d3 s) {q : Nat} (hq : q < s.ready.length) {xs : List ItemD} {v : Value} {b : Option Addr} {c : Nat} (hv : LineV W n xs v b c) (hW : W' = W.setCell ⟨g, q, none⟩ v) : OwnSt W' n (some ⟨g, 0, none⟩) b2 b3 m1 d1 m2 d2 m3 d3 { s with ready := s.ready.set q xs } := by
  obtain ⟨vs, h1, h2⟩ := h.r1
  obtain ⟨_, cur, hg⟩ := own_block h1
  have k : TypeT 49 W W' := by rw [hW]; exact TypeT.setCell hg v
  have hs := h1.stored q v
  have ki : KeepI n W W' := k.keepI (by decide)
  refine ⟨by show (s.ready.set q xs).length = m1; rw [List.length_set]; exact h.l1, h.l2, h.l3, h.x2, ⟨vs.set q v, by rw [hW]; exact hs.1, ?_⟩, k.row h.r2 (by decide), k.row h.r3 (by decide)⟩
  refine ⟨by show (vs.set q v).length = (s.ready.set q xs).length; rw [List.length_set, List.length_set]; exact h2.len, fun i hi => ?_⟩
  have hi' : i < s.ready.length := by simpa using hi
  by_cases e : i = q
  · subst e
    refine ⟨v, b, c, by rw [List.getElem?_set, if_pos rfl, if_pos (by rw [h2.len]; exact hi')], ?_⟩
    have : (s.ready.set i xs)[i]'hi = xs := List.getElem_set_self _
    rw [this]
    exact hv.keepT ki
  · obtain ⟨u, b', c', e1, e2⟩ := h2.get i hi'
    refine ⟨u, b', c', by rw [List.getElem?_set, if_neg (fun e' => e e'.symm)]; exact e1, ?_⟩
    have : (s.ready.set q xs)[i]'hi = s.ready[i] := List.getElem_set_ne (fun e' => e e'.symm) _
    rw [this]
    exact e2.keepT ki
theorem takerCells_set {xs : List TakerD} {k : Nat} (hk : k < xs.length) (x : TakerD) : ((takerCells xs).set (k * 2) (.int .i64 x.queue)).set (k * 2 + 1) (.int .i64 x.most) = takerCells (xs.set k x) := by
  apply List.ext_getElem?
  intro j
  rw [List.getElem?_set, List.getElem?_set]
  rcases Nat.lt_or_ge j (xs.length * 2) with h | h
  · obtain ⟨h1, h2, h3⟩ := flat_div (k := 2) (by omega) h
    have e1 := flat_at (f := TakerD.cells) (k := 2) (fun _ => rfl) xs _ h1 _ h2
    have e2 := flat_at (f := TakerD.cells) (k := 2) (fun _ => rfl) (xs.set k x) (j / 2) (by rw [List.length_set]; exact h1) _ h2
    rw [h3] at e1 e2
    have e3 : (takerCells (xs.set k x))[j]? = _ := e2
    have e4 : (takerCells xs)[j]? = _ := e1
    have hl : j < (takerCells xs).length := by rw [takerCells_len]; exact h
    have hl2 : j < ((takerCells xs).set (k * 2) (.int .i64 x.queue)).length := by rw [List.length_set]; exact hl
    rw [e3, e4]
    by_cases c1 : k * 2 + 1 = j
    · have a1 : j / 2 = k := by omega
      have a2 : j % 2 = 1 := by omega
      rw [if_pos c1, if_pos (by rw [c1]; exact hl2)]
      simp [a1, a2, TakerD.cells]
    · rw [if_neg c1]
      by_cases c2 : k * 2 = j
      · have a1 : j / 2 = k := by omega
        have a2 : j % 2 = 0 := by omega
        rw [if_pos c2, if_pos (by rw [c2]; exact hl)]
        simp [a1, a2, TakerD.cells]
      · rw [if_neg c2]
        have a1 : j / 2 ≠ k := by omega
        rw [List.getElem_set_ne (fun e => a1 e.symm)]
  · have hl : (takerCells xs).length ≤ j := by rw [takerCells_len]; exact h
    rw [if_neg (by omega), if_neg (by omega), List.getElem?_eq_none hl, List.getElem?_eq_none (by rw [takerCells_len, List.length_set]; exact h)]
/-- Another taker at one place. -/
theorem OwnSt.taker {W W' : World} {n g : Nat} {b1 b2 : Option Addr} {m1 d1 m2 d2 m3 d3 : Nat} {s : StateD} (h : OwnSt W n b1 b2 (some ⟨g, 0, none⟩) m1 d1 m2 d2 m3 d3 s) {k : Nat} (hk : k < s.takers.length) (x : TakerD) (hW : W' = (W.setCell ⟨g, k * 2, none⟩ (.int .i64 x.queue)).setCell ⟨g, k * 2 + 1, none⟩ (.int .i64 x.most)) : OwnSt W' n b1 b2 (some ⟨g, 0, none⟩) m1 d1 m2 d2 m3 d3 { s with takers := s.takers.set k x } ∧ TypeT 56 W W' ∧ n ≤ g := by
  obtain ⟨hn, cur, hg⟩ := own_block h.r3
  have s1 := h.r3.stored (k * 2) (.int .i64 x.queue)
  obtain ⟨_, cur1, hg1⟩ := own_block s1.1
  have s2 := s1.1.stored (k * 2 + 1) (.int .i64 x.most)
  have kt : TypeT 56 W W' := by rw [hW]; exact (TypeT.setCell hg _).trans (TypeT.setCell hg1 _)
  refine ⟨h.takers kt ?_, kt, hn⟩
  rw [hW, ← takerCells_set hk]
  exact s2.1
theorem StBox.keep {W W' : World} {n t : Nat} {s : StateD} (h : StBox W n t s) (hB : Below W.heap.size W W') : StBox W' n t s := by
  obtain ⟨b1, b2, b3, m1, d1, m2, d2, m3, d3, h1, h2⟩ := h
  exact ⟨b1, b2, b3, m1, d1, m2, d2, m3, d3, plan_keep h1 hB, h2.keep hB⟩
theorem StBox.drew {W : World} {n t : Nat} {s : StateD} (h : StBox W n t s) : StBox W.drew n t s := h.keep (Below.refl _ _).drew
theorem FrameT.drew {n t : Nat} {A B : World} (h : FrameT n t A B) : FrameT n t A B.drew := ⟨h.os, h.tape, h.output, h.size, h.block⟩
theorem FrameT.typeSet {n t : Nat} {A B : World} (h : FrameT n t A B) {g i : Nat} (hg : n ≤ g) (u : Value) : FrameT n t A (B.setCell ⟨g, i, none⟩ u) := h.setCell (p := ⟨g, i, none⟩) (.inl hg) u
theorem StRes.turn {W W' : World} {n t : Nat} {v : Value} {E : Int} {s : StateD} {cur : Array Value} (h : StRes W n v E s) (ht : W.heap[t]? = some (.cells cur 31 (0, 0))) (k : TurnB t W W') : StRes W' n v E s := by
  refine ⟨fun e => ?_, h.2⟩
  obtain ⟨b1, b2, b3, m1, d1, m2, d2, m3, d3, h1, h2⟩ := h.1 e
  exact ⟨b1, b2, b3, m1, d1, m2, d2, m3, d3, h1, h2.turn ht (by decide) k⟩
theorem StRes.shape {W : World} {n : Nat} {v : Value} {E : Int} {s : StateD} (h : StRes W n v E s) : ∃ (x1 x2 x3 : Option Addr) (k1 e1 k2 e2 k3 e3 : Nat) (i1 i2 i3 i4 i5 : Int), v = .agg #[.slice x1 k1 e1, .slice x2 k2 e2, .slice x3 k3 e3, .int .i64 i1, .int .i64 i2, .int .i64 i3, .int .i64 i4, .int .i64 i5] := by
  by_cases hE : E = 0
  · obtain ⟨_, _, _, _, _, _, _, _, _, rfl, _⟩ := h.1 hE; exact ⟨_, _, _, _, _, _, _, _, _, _, _, _, _, _, rfl⟩
  · rw [h.2 hE]; exact ⟨_, _, _, _, _, _, _, _, _, _, _, _, _, _, rfl⟩
theorem OwnSt.same {W : World} {n : Nat} {b1 b2 b3 : Option Addr} {m1 d1 m2 d2 m3 d3 : Nat} {s s' : StateD} (h : OwnSt W n b1 b2 b3 m1 d1 m2 d2 m3 d3 s) (h1 : s'.ready = s.ready) (h2 : s'.outs = s.outs) (h3 : s'.takers = s.takers) : OwnSt W n b1 b2 b3 m1 d1 m2 d2 m3 d3 s' := by
  refine ⟨by rw [h1]; exact h.l1, by rw [h2]; exact h.l2, by rw [h3]; exact h.l3, h.x2, by rw [h1]; exact h.r1, by rw [h2]; exact h.r2, by rw [h3]; exact h.r3⟩

end Go.Proofs.Ytpoichgodamnkaa

/- Um -/
namespace Go.Proofs.Ytpoichgodamnkaa
set_option linter.unusedVariables false
set_option maxRecDepth 100000
open Go.RowKit Go.Maps

set_option maxRecDepth 100000 in
set_option maxHeartbeats 4000000 in
theorem same_states (s : StateD) (b1 b2 b3 e1 e2 e3 : Option Addr) (m1 d1 m2 d2 m3 d3 f1 f2 f3 : Nat) (w : World) (ha : StateAt w b1 b2 b3 m1 m2 m3 s) (hb : StateAt w e1 e2 e3 m1 m2 m3 s) :
    Calls Try.prog 17 #[.agg #[.slice b1 m1 d1, .slice b2 m2 d2, .slice b3 m3 d3, .int .i64 s.nextSeq, .int .i64 s.nextTag, .int .i64 s.came, .int .i64 s.acked, .int .i64 s.dropped], .agg #[.slice e1 m1 f1, .slice e2 m2 f2, .slice e3 m3 f3, .int .i64 s.nextSeq, .int .i64 s.nextTag, .int .i64 s.came, .int .i64 s.acked, .int .i64 s.dropped]] w fun e w' => e = .returned (.bool true) ∧ Below w.heap.size w w' := by
  obtain ⟨W2, hW2, hBw, hs2, hbx⟩ := ss_boxed w #[.slice b1 m1 d1, .slice b2 m2 d2, .slice b3 m3 d3, .int .i64 s.nextSeq, .int .i64 s.nextTag, .int .i64 s.came, .int .i64 s.acked, .int .i64 s.dropped] #[.slice e1 m1 f1, .slice e2 m2 f2, .slice e3 m3 f3, .int .i64 s.nextSeq, .int .i64 s.nextTag, .int .i64 s.came, .int .i64 s.acked, .int .i64 s.dropped]
  have HW2 := hidI hW2
  have BX := hidI hbx
  have HA := hidI (ha.keep hBw)
  have HB := hidI (hb.keep hBw)
  have HBW := hidI hBw
  have HM1 : Hid (s.ready.length = m1) := ha.l1
  have HM2 : Hid (s.outs.length = m2) := ha.l2
  have HM3 : Hid (s.takers.length = m3) := ha.l3
  have hx1 := ha.x1
  have hx2 := ha.x2
  have hx3 := ha.x3
  unfold maxLen at hx1 hx3
  have s0 := hBw.size
  have g1 : ((m1 : Int) != (m1 : Int)) = false := by simp
  have g2 : ((m2 : Int) != (m2 : Int)) = false := by simp
  have g3 : ((m3 : Int) != (m3 : Int)) = false := by simp
  have g4 : (s.nextSeq != s.nextSeq) = false := by simp
  have g5 : (s.nextTag != s.nextTag) = false := by simp
  have g6 : (s.came != s.came) = false := by simp
  have g7 : (s.acked != s.acked) = false := by simp
  have g8 : (s.dropped != s.dropped) = false := by simp
  obtain ⟨y0, y1, y2, y3, y4, y5, y6, y7⟩ := st_cells (hbx W2 (Below.refl _ _)).1
  obtain ⟨z0, z1, z2, z3, z4, z5, z6, z7⟩ := st_cells (hbx W2 (Below.refl _ _)).2
  clear hW2 hbx hs2 ha hb hBw
  go_enter Try.func17, Try.ntmps17
  go_wp2_with fail
  rw [← HW2.out]
  clear y0 y1 y2 y3 y4 y5 y6 y7 z0 z1 z2 z3 z4 z5 z6 z7 g1 g2 g3 g4 g5 g6 g7 g8
  go_loopw [5] (fun i wr => ∃ k : Nat, k ≤ m1 ∧ i = .int .i64 k ∧ Below W2.heap.size W2 wr) (fun i _ => m1 - (intOf i).toNat)
  case atStart => exact ⟨0, Nat.zero_le _, rfl, Below.refl _ _⟩
  case round =>
    obtain ⟨k, hk, rfl, hB⟩ := hrel
    have hBs := hB.size
    have HBl := hidI hB
    obtain ⟨y0, y1, y2, y3, y4, y5, y6, y7⟩ := st_cells (BX.out wr hB).1
    obtain ⟨z0, z1, z2, z3, z4, z5, z6, z7⟩ := st_cells (BX.out wr hB).2
    by_cases hlt : k < m1
    · have HLT := hidI hlt
      have hkl : k < s.ready.length := by rw [HM1.out]; exact hlt
      obtain ⟨g, o, b, c, ha, hg, hl⟩ := (HA.out.q1.keep hB).get hkl
      obtain ⟨g', o', b', c', ha', hg', hl'⟩ := (HB.out.q1.keep hB).get hkl
      subst ha ha'
      have c1 := hl.cell
      have c2 := hl'.cell
      obtain ⟨n, hn⟩ : ∃ n, n = (s.ready[k]'hkl).length := ⟨_, rfl⟩
      rw [← hn] at c1 c2
      have SI := hidI (same_items (s.ready[k]'hkl) b b' n c c' wr.drew hn.symm (by rw [hn]; exact Nat.le_trans hl.le hl.cm) (hl.it.keep (Below.refl _ _).drew) (hl'.it.keep (Below.refl _ _).drew))
      have j1 : (0 : Int) ≤ (k : Int) := by omega
      have j2 : (k : Int) < m1 := by omega
      have SS : Hid (∀ W', Below wr.heap.size wr W' → (W'.cell? ⟨w.heap.size, 0, none⟩ = some (.slice (some ⟨g, o, none⟩) m1 d1) ∧ W'.cell? ⟨w.heap.size + 1, 0, none⟩ = some (.slice (some ⟨g', o', none⟩) m1 f1) ∧ W'.cell? ⟨g, o + k, none⟩ = some (.slice b n c) ∧ W'.cell? ⟨g', o' + k, none⟩ = some (.slice b' n c'))) := fun W' hW' => by
        have q := BX.out W' (HBl.out.trans (hW'.mono hBs))
        exact ⟨cell_of_cells q.1 0, cell_of_cells q.2 0, (hW'.cell (p := ⟨g, o + k, none⟩) hg).trans c1, (hW'.cell (p := ⟨g', o' + k, none⟩) hg').trans c2⟩
      clear hl hl' hn
      go_wp2_with fail
      refine wp_region_held_drew (S := fun W' => (W'.cell? ⟨w.heap.size, 0, none⟩ = some (.slice (some ⟨g, o, none⟩) m1 d1) ∧ W'.cell? ⟨w.heap.size + 1, 0, none⟩ = some (.slice (some ⟨g', o', none⟩) m1 f1) ∧ W'.cell? ⟨g, o + k, none⟩ = some (.slice b n c) ∧ W'.cell? ⟨g', o' + k, none⟩ = some (.slice b' n c'))) (by kernel_rfl) (SS.out _ (Below.refl _ _).drew) (fun hHeld => ?_)
      (refine wpAnyH_take (i := 0) (v := ?_) rfl (by kernel_rfl) (by kernel_rfl) (by kernel_rfl) (fun _ _ _ h => h) (Or.inl ⟨by kernel_rfl, ?_⟩) (by assumption) ?_; rotate_left; (focus (intro w hSw; (try dsimp only at hSw); go_simp; (try with_reducible rfl))); (try simp only [Act.put, List.getElem_toArray, List.getElem_cons_zero, List.setIfInBounds_toArray, List.set_cons_zero, List.set_cons_succ]))
      (refine wpAnyH_take (i := 1) (v := ?_) rfl (by kernel_rfl) (by kernel_rfl) (by kernel_rfl) (fun _ _ _ h => h) (Or.inl ⟨by kernel_rfl, ?_⟩) (by assumption) ?_; rotate_left; (focus (intro w hSw; (try dsimp only at hSw); go_simp; (try with_reducible rfl))); (try simp only [Act.put, List.getElem_toArray, List.getElem_cons_succ, List.getElem_cons_zero, List.setIfInBounds_toArray, List.set_cons_zero, List.set_cons_succ]))
      (refine wpAnyH_take (i := 2) (v := ?_) rfl (by kernel_rfl) (by kernel_rfl) (by kernel_rfl) (fun _ _ _ h => h) (Or.inl ⟨by kernel_rfl, ?_⟩) (by assumption) ?_; rotate_left; (focus (intro w hSw; (try dsimp only at hSw); go_simp; (try with_reducible rfl))); (try simp only [Act.put, List.getElem_toArray, List.getElem_cons_succ, List.getElem_cons_zero, List.setIfInBounds_toArray, List.set_cons_zero, List.set_cons_succ]))
      (refine wpAnyH_take (i := 3) (v := ?_) rfl (by kernel_rfl) (by kernel_rfl) (by kernel_rfl) (fun _ _ _ h => h) (Or.inl ⟨by kernel_rfl, ?_⟩) (by assumption) ?_; rotate_left; (focus (intro w hSw; (try dsimp only at hSw); go_simp; (try with_reducible rfl))); (try simp only [Act.put, List.getElem_toArray, List.getElem_cons_succ, List.getElem_cons_zero, List.setIfInBounds_toArray, List.set_cons_zero, List.set_cons_succ]))
      (refine wpAnyH_take (i := 4) (v := ?_) rfl (by kernel_rfl) (by kernel_rfl) (by kernel_rfl) (fun _ _ _ h => h) (Or.inl ⟨by kernel_rfl, ?_⟩) (by assumption) ?_; rotate_left; (focus (intro w hSw; (try dsimp only at hSw); go_simp; (try with_reducible rfl))); (try simp only [Act.put, List.getElem_toArray, List.getElem_cons_succ, List.getElem_cons_zero, List.setIfInBounds_toArray, List.set_cons_zero, List.set_cons_succ]))
      (refine wpAnyH_take (i := 5) (v := ?_) rfl (by kernel_rfl) (by kernel_rfl) (by kernel_rfl) (fun _ _ _ h => h) (Or.inl ⟨by kernel_rfl, ?_⟩) (by assumption) ?_; rotate_left; (focus (intro w hSw; (try dsimp only at hSw); go_simp; (try with_reducible rfl))); (try simp only [Act.put, List.getElem_toArray, List.getElem_cons_succ, List.getElem_cons_zero, List.setIfInBounds_toArray, List.set_cons_zero, List.set_cons_succ]))
      (refine wpAnyH_take (i := 6) (v := ?_) rfl (by kernel_rfl) (by kernel_rfl) (by kernel_rfl) (fun _ _ _ h => h) (Or.inl ⟨by kernel_rfl, ?_⟩) (by assumption) ?_; rotate_left; (focus (intro w hSw; (try dsimp only at hSw); go_simp; (try with_reducible rfl))); (try simp only [Act.put, List.getElem_toArray, List.getElem_cons_succ, List.getElem_cons_zero, List.setIfInBounds_toArray, List.set_cons_zero, List.set_cons_succ]))
      (refine wpAnyH_take (i := 7) (v := ?_) rfl (by kernel_rfl) (by kernel_rfl) (by kernel_rfl) (fun _ _ _ h => h) (Or.inl ⟨by kernel_rfl, ?_⟩) (by assumption) ?_; rotate_left; (focus (intro w hSw; (try dsimp only at hSw); go_simp; (try with_reducible rfl))); (try simp only [Act.put, List.getElem_toArray, List.getElem_cons_succ, List.getElem_cons_zero, List.setIfInBounds_toArray, List.set_cons_zero, List.set_cons_succ]))
      (refine wpAnyH_take (i := 8) (v := ?_) rfl (by kernel_rfl) (by kernel_rfl) (by kernel_rfl) (fun _ _ _ h => h) (Or.inl ⟨by kernel_rfl, ?_⟩) (by assumption) ?_; rotate_left; (focus (intro w hSw; (try dsimp only at hSw); go_simp; (try with_reducible rfl))); (try simp only [Act.put, List.getElem_toArray, List.getElem_cons_succ, List.getElem_cons_zero, List.setIfInBounds_toArray, List.set_cons_zero, List.set_cons_succ]))
      (refine wpAnyH_take (i := 9) (v := ?_) rfl (by kernel_rfl) (by kernel_rfl) (by kernel_rfl) (fun _ _ _ h => h) (Or.inl ⟨by kernel_rfl, ?_⟩) (by assumption) ?_; rotate_left; (focus (intro w hSw; (try dsimp only at hSw); go_simp; (try with_reducible rfl))); (try simp only [Act.put, List.getElem_toArray, List.getElem_cons_succ, List.getElem_cons_zero, List.setIfInBounds_toArray, List.set_cons_zero, List.set_cons_succ]))
      refine wpAnyH_ready (rs := [10]) (by kernel_rfl) (by simp) ?_
      refine AllReadyH.cons rfl (fun K hK => ?_) AllReadyH.nil
      go_simp
      refine SI.out.mono ?_
      rintro e w3 ⟨rfl, k3'⟩
      have k3 : Below wr.heap.size wr w3 := below_undrew k3'
      refine hK.out _ _ (SS.out _ k3) (fun hHeld2 => ?_)
      clear hHeld hK K k3'
      try simp only [Act.put, List.getElem_toArray, List.getElem_cons_succ, List.getElem_cons_zero, List.setIfInBounds_toArray, List.set_cons_zero, List.set_cons_succ]
      (refine wpAnyH_take (i := 11) (v := ?_) rfl (by kernel_rfl) (by kernel_rfl) (by kernel_rfl) (fun _ _ _ h => h) (Or.inl ⟨by kernel_rfl, ?_⟩) (by assumption) ?_; rotate_left; (focus (intro w hSw; (try dsimp only at hSw); go_simp; (try with_reducible rfl))); (try simp only [Act.put, List.getElem_toArray, List.getElem_cons_succ, List.getElem_cons_zero, List.setIfInBounds_toArray, List.set_cons_zero, List.set_cons_succ]))
      refine wpAnyH_done (by kernel_rfl) ?_ _
      clear hHeld2
      go_wp2_with fail
      go_roundw
      case rel => exact ⟨k + 1, HLT.out, by have := HLT.out; go_num, HBl.out.trans (k3.mono hBs)⟩
      case measure => have := HLT.out; simp [intOf]; omega
    · have hke : m1 = k := by omega
      subst hke
      clear hlt hk
      go_wp2_with fail
      clear y0 y1 y2 y3 y4 y5 y6 y7 z0 z1 z2 z3 z4 z5 z6 z7
      go_loopw [6] (fun i wr => ∃ k : Nat, k ≤ m2 ∧ i = .int .i64 k ∧ Below W2.heap.size W2 wr) (fun i _ => m2 - (intOf i).toNat)
      case atStart => exact ⟨0, Nat.zero_le _, rfl, hB⟩
      case round =>
        clear hB hBs HBl
        obtain ⟨k, hk, rfl, hB⟩ := hrel
        have hBs := hB.size
        have HBl := hidI hB
        obtain ⟨y0, y1, y2, y3, y4, y5, y6, y7⟩ := st_cells (BX.out wr hB).1
        obtain ⟨z0, z1, z2, z3, z4, z5, z6, z7⟩ := st_cells (BX.out wr hB).2
        by_cases hlt : k < m2
        · have HLT := hidI hlt
          have hkl : k < s.outs.length := by rw [HM2.out]; exact hlt
          obtain ⟨g, o, ha, hg, c0, c1, c2, c3, c4, c5, c6, c7⟩ := (HA.out.q2.keep hB).get hkl
          obtain ⟨g', o', ha', hg', c0', c1', c2', c3', c4', c5', c6', c7'⟩ := (HB.out.q2.keep hB).get hkl
          subst ha ha'
          have j1 : (0 : Int) ≤ (k : Int) := by omega
          have j2 : (k : Int) < m2 := by omega
          go_wp2_with fail
          go_quiet (fail)
          go_wp2_with fail
          go_roundw
          case rel => exact ⟨k + 1, HLT.out, by have := HLT.out; go_num, below_drewL HBl.out⟩
          case measure => have := HLT.out; simp [intOf]; omega
        · have hke : m2 = k := by omega
          subst hke
          clear hlt hk
          go_wp2_with fail
          clear y0 y1 y2 y3 y4 y5 y6 y7 z0 z1 z2 z3 z4 z5 z6 z7
          go_loopw [7] (fun i wr => ∃ k : Nat, k ≤ m3 ∧ i = .int .i64 k ∧ Below W2.heap.size W2 wr) (fun i _ => m3 - (intOf i).toNat)
          case atStart => exact ⟨0, Nat.zero_le _, rfl, hB⟩
          case round =>
            clear hB hBs HBl
            obtain ⟨k, hk, rfl, hB⟩ := hrel
            have hBs := hB.size
            have HBl := hidI hB
            obtain ⟨y0, y1, y2, y3, y4, y5, y6, y7⟩ := st_cells (BX.out wr hB).1
            obtain ⟨z0, z1, z2, z3, z4, z5, z6, z7⟩ := st_cells (BX.out wr hB).2
            by_cases hlt : k < m3
            · have HLT := hidI hlt
              have hkl : k < s.takers.length := by rw [HM3.out]; exact hlt
              obtain ⟨g, o, ha, hg, c0, c1⟩ := (HA.out.q3.keep hB).get hkl
              obtain ⟨g', o', ha', hg', c0', c1'⟩ := (HB.out.q3.keep hB).get hkl
              subst ha ha'
              have j1 : (0 : Int) ≤ (k : Int) := by omega
              have j2 : (k : Int) < m3 := by omega
              go_wp2_with fail
              go_quiet (fail)
              go_wp2_with fail
              go_roundw
              case rel => exact ⟨k + 1, HLT.out, by have := HLT.out; go_num, below_drewL HBl.out⟩
              case measure => have := HLT.out; simp [intOf]; omega
            · have hke : m3 = k := by omega
              subst hke
              clear hlt hk
              go_wp2_with fail
              go_ret
              exact ⟨rfl, HBW.out.trans (HBl.out.mono s0)⟩
/-- At two answers that are the same. -/
theorem same_res {s : StateD} {E : Int} {u v : Value} {w : World} {n n' : Nat} (hu : StRes w n u E s) (hv : StRes w n' v E s) : Calls Try.prog 17 #[u, v] w fun e w' => e = .returned (.bool true) ∧ Below w.heap.size w w' := by
  by_cases hE : E = 0
  · obtain ⟨b1, b2, b3, m1, d1, m2, d2, m3, d3, rfl, h1⟩ := hu.1 hE
    obtain ⟨e1, e2, e3, k1, f1, k2, f2, k3, f3, rfl, h2⟩ := hv.1 hE
    have q1 : k1 = m1 := h2.l1.symm.trans h1.l1
    have q2 : k2 = m2 := h2.l2.symm.trans h1.l2
    have q3 : k3 = m3 := h2.l3.symm.trans h1.l3
    subst q1 q2 q3
    exact same_states s _ _ _ _ _ _ _ _ _ _ _ _ _ _ _ w h1.state h2.state
  · rw [hu.2 hE, hv.2 hE]
    have h0 : StateAt w none none none 0 0 0 (beginS 0) := ⟨rfl, rfl, rfl, Nat.zero_le _, Nat.zero_le _, Nat.zero_le _, .inl rfl, .inl rfl, .inl rfl⟩
    exact same_states (beginS 0) _ _ _ _ _ _ _ _ _ _ _ _ _ _ _ w h0 h0

end Go.Proofs.Ytpoichgodamnkaa

/- Ui -/
namespace Go.Proofs.Ytpoichgodamnkaa
set_option linter.unusedVariables false
set_option maxRecDepth 100000
open Go.RowKit Go.Maps

set_option maxHeartbeats 1000000 in
theorem join11_any (x : TakerD) (w : World) : Calls Try.prog 59 (#[x.val] ++ #[]) w fun e w' => e = .returned (.bool (decide (x.queue = -1))) ∧ Below w.heap.size w w' := by
  have h : (#[x.val] ++ #[] : Array Value) = #[.agg #[.int .i64 x.queue, .int .i64 x.most]] := rfl
  rw [h]
  clear h
  obtain ⟨q, m⟩ := x
  dsimp only
  go_enter Try.func59, Try.ntmps59
  go_wp2_with fail
  go_ret
  exact ⟨ret_bool (by by_cases h : q = -1 <;> simp [h]), (Below.refl _ _).alloc (Nat.le_refl _) _⟩
theorem gone_idx (ts : List TakerD) : idxF (fun t : TakerD => decide (t.queue = -1)) ts = if goneIdx ts < ts.length then (goneIdx ts : Int) else -1 := rfl

set_option maxRecDepth 100000 in
set_option maxHeartbeats 4000000 in
theorem join1_does (p : PlanD) (a1 a2 a3 : Option Addr) (n1 c1 n2 c2 n3 c3 : Nat) (s : StateD) (q most : Int) (Bp Bq Bm : Nat) (w : World) (hp : PlanAt w a1 a2 a3 n1 n2 n3 p) (x0 : w.heap[Bp]? = some (.cells #[.slice a1 n1 c1, .slice a2 n2 c2, .slice a3 n3 c3] 26 (0, 0))) (x1 : w.heap[Bq]? = some (.cells #[.int .i64 q] 3 (0, 0))) (x2 : w.heap[Bm]? = some (.cells #[.int .i64 most] 3 (0, 0))) (hR : RightX p s 0) :
    Does 56 #[.pointer (some ⟨Bp, 0, none⟩), .pointer (some ⟨Bq, 0, none⟩), .pointer (some ⟨Bm, 0, none⟩)] w s (joinX n2 s q most) (goneIdx s.takers) (joinS s q most) := by
  intro W n t hBW hwt htn hnW hbx
  obtain ⟨b1, b2, b3, m1, d1, m2, d2, m3, d3, hb, ho⟩ := hbx
  obtain ⟨E, hE⟩ : ∃ E, E = joinX n2 s q most := ⟨_, rfl⟩
  rw [← hE]
  have HE := hidI hE
  have HO := hidI ho
  have HB := hidI hb
  have HP := hidI (hp.keep hBW)
  have HR := hidI hR
  have X0 := hidI (plan_keep x0 hBW)
  have X1 := hidI (plan_keep x1 hBW)
  have X2 := hidI (plan_keep x2 hBW)
  have hlp := lt_of_heap x0
  have hlq := lt_of_heap x1
  have hlm := lt_of_heap x2
  have hm3 : m3 ≤ 4 := by rw [← ho.l3]; exact hR.tk
  have HM3 : Hid (s.takers.length = m3) := ho.l3
  have HTK := hidI (takers_row.2 (own_at ho.r3))
  have hsz := hBW.size
  have hap : (#[Value.pointer (some ⟨t, 0, none⟩)] ++ #[Value.pointer (some ⟨Bp, 0, none⟩), Value.pointer (some ⟨Bq, 0, none⟩), Value.pointer (some ⟨Bm, 0, none⟩)] : Array Value) = #[.pointer (some ⟨t, 0, none⟩), .pointer (some ⟨Bp, 0, none⟩), .pointer (some ⟨Bq, 0, none⟩), .pointer (some ⟨Bm, 0, none⟩)] := rfl
  rw [hap]
  obtain ⟨p0, p1, p2⟩ := pl_cells X0.out
  have cq := cell_of_cells X1.out 0
  have cm := cell_of_cells X2.out 0
  simp at cq cm
  clear hE ho hb hp hR x0 x1 x2 hap hBW
  go_enter Try.func56, Try.ntmps56
  go_wp2_with fail
  refine (askQueue_any p _ _ _ _ _ _ _ _ _ q _ HP.out).mono ?_
  rintro e w1 ⟨rfl, k1⟩
  have s1 := k1.size
  by_cases h1 : isNum q n2 = false
  · rw [if_pos h1, askE_pan (by decide)]
    unfold panE
    have HE5 : E = 5 := by rw [HE.out]; unfold joinX; rw [if_pos h1]
    exact ⟨rfl, FrameT.of_below k1 hnW, .inl ⟨by rw [HE5]; decide, by rw [HE5]; rfl⟩⟩
  · rw [if_neg h1, askE_ok]
    unfold okE
    have HEX : Hid (E = if inR most 1 4 = false then 3 else if goneIdx s.takers = s.takers.length ∧ 4 ≤ s.takers.length then 2 else 0) := by show E = _; rw [HE.out]; unfold joinX; rw [if_neg h1]
    have cm1 := (k1.cell (p := ⟨Bm, 0, none⟩) (by show Bm < W.heap.size; omega)).trans cm
    clear h1 p0 p1 p2 cq cm HE
    by_cases h2 : inR most 1 4 = false
    · have h2' : most < 1 ∨ 4 < most := by unfold inR at h2; simp at h2; omega
      go_wp2_with fail
      refine (never_yes 3 [decide (most < 1), decide ((4 : Int) < most)] _ _ (by simp) (bools_newG w1 _ rfl) (by simp; omega)).mono ?_
      rintro e w2 ⟨rfl, rfl⟩
      have HE3 : E = 3 := by rw [HEX.out, if_pos h2]
      exact ⟨rfl, FrameT.of_below (k1.alloc s1 _) hnW, .inl ⟨by rw [HE3]; decide, by rw [HE3]; rfl⟩⟩
    · have h2' : ¬ (most < 1 ∨ 4 < most) := by unfold inR at h2; simp at h2; omega
      go_wp2_with fail
      refine (never_no 3 [decide (most < 1), decide ((4 : Int) < most)] _ _ (by simp) (bools_newG w1 _ rfl) (by simp; omega)).mono ?_
      rintro e w2 ⟨rfl, hw2⟩
      have HEY : Hid (E = if goneIdx s.takers = s.takers.length ∧ 4 ≤ s.takers.length then 2 else 0) := by show E = _; rw [HEX.out, if_neg h2]
      have k2 : Below W.heap.size W w2 := by rw [hw2]; exact k1.alloc s1 _
      have s2 := k2.size
      have K2 := hidI k2
      obtain ⟨y0, y1, y2, y3, y4, y5, y6, y7⟩ := st_cells (plan_keep HB.out k2)
      have f2 := free_of_cells (plan_keep HB.out k2) 2
      clear h2 h2' hw2 HEX cm1 k1 s1
      go_wp2_with fail
      refine (indexTaker_any 59 (fun _ _ => rfl) #[] (fun x => decide (x.queue = -1)) s.takers b3 m3 d3 w2 HM3.out (by omega) (HTK.out.keep K2.out) (fun x W' _ => join11_any x W')).mono ?_
      rintro e w3 ⟨rfl, k3'⟩
      have k3 := K2.out.trans (k3'.mono s2)
      have K3 := hidI k3
      have s3 := k3.size
      rw [gone_idx]
      clear k3' y0 y1 y2 y3 y4 y5 y6 y7 f2 k2
      obtain ⟨y0, y1, y2, y3, y4, y5, y6, y7⟩ := st_cells (plan_keep HB.out k3)
      have f2 := free_of_cells (plan_keep HB.out k3) 2
      by_cases hg : goneIdx s.takers < s.takers.length
      · rw [if_pos hg]
        have HE0 : Hid (E = 0) := by show E = 0; rw [HEY.out, if_neg (by omega)]
        have HG := hidI hg
        have hr3 := copied_two HO.out.r3 k3
        obtain ⟨g, rfl⟩ : ∃ g, b3 = some ⟨g, 0, none⟩ := by
          rcases hr3.2 with ⟨e, e0⟩ | ⟨g, cap, cur, e, _⟩
          · exfalso; rw [HM3.out] at hg; omega
          · cases e; exact ⟨g, rfl⟩
        obtain ⟨k, hk⟩ : ∃ k, k = goneIdx s.takers := ⟨_, rfl⟩
        rw [← hk] at hg ⊢
        have HK := hidI hk
        have hkm : k < m3 := by rw [← HM3.out]; exact hg
        have cc0 := hr3.cellAt (k * 2) (by omega)
        have cc1 := hr3.cellAt (k * 2 + 1) (by omega)
        have e0 := flat_at (f := TakerD.cells) (k := 2) (fun _ => rfl) s.takers k hg 0 (by omega)
        have e1 := flat_at (f := TakerD.cells) (k := 2) (fun _ => rfl) s.takers k hg 1 (by omega)
        rw [show (takerCells s.takers)[k * 2]? = some (.int .i64 s.takers[k].queue) from e0] at cc0
        rw [show (takerCells s.takers)[k * 2 + 1]? = some (.int .i64 s.takers[k].most) from e1] at cc1
        have ff0 := hr3.frozenAt (k * 2)
        have ff1 := hr3.frozenAt (k * 2 + 1)
        have cq3 := cell_of_cells (plan_keep X1.out k3) 0
        have cm3 := cell_of_cells (plan_keep X2.out k3) 0
        simp at cq3 cm3
        have j0 : ¬ (k : Int) < 0 := by omega
        have j1 : (0 : Int) ≤ (k : Int) := by omega
        have j2 : (k : Int) < m3 := by omega
        have HR3 := hidI hr3
        have HKL := hidI hg
        clear e0 e1 hr3 hk k3
        go_wp2_with fail
        go_region
        go_wp2_with fail
        go_ret
        have ho3 := HO.out.keep K3.out
        obtain ⟨h1, h2, h3⟩ := ho3.taker HKL.out ⟨q, most⟩ rfl
        have hbt := (h2.block t _ _ (plan_keep HB.out K3.out) (by decide)).trans (plan_keep HB.out K3.out)
        refine ⟨(((FrameT.of_below K3.out hnW).typeSet h3 _).typeSet h3 _).drew, .inr ⟨HE0.out, by first | rfl | exact ret_int (by rw [HK.out]), ?_⟩⟩
        refine StBox.drew ⟨_, _, _, _, _, _, _, _, _, hbt, ?_⟩
        have e : joinS s q most = { s with takers := s.takers.set k ⟨q, most⟩ } := by unfold joinS joinT; rw [if_pos (by rw [← HK.out]; exact HKL.out), ← HK.out]
        rw [e]
        exact h1
      · rw [if_neg hg]
        have hge : goneIdx s.takers = s.takers.length := by have := goneIdx_le s.takers; omega
        have HGE := hidI hge
        have HNG := hidI hg
        by_cases h4 : 4 ≤ m3
        · have HE2 : E = 2 := by rw [HEY.out, if_pos ⟨hge, by rw [HM3.out]; exact h4⟩]
          clear hg hge
          go_wp2_with fail
          refine (never_yes 2 [decide ((4 : Int) ≤ (m3 : Int))] _ _ (by simp) (bools_newG w3 _ rfl) (by simp; omega)).mono ?_
          rintro e w4 ⟨rfl, rfl⟩
          exact ⟨rfl, FrameT.of_below (K3.out.alloc s3 _) hnW, .inl ⟨by rw [HE2]; decide, by rw [HE2]; rfl⟩⟩
        · have HE0 : Hid (E = 0) := by show E = 0; rw [HEY.out, if_neg (by rw [HM3.out]; omega)]
          clear hg hge
          go_wp2_with fail
          refine (never_no 2 [decide ((4 : Int) ≤ (m3 : Int))] _ _ (by simp) (bools_newG w3 _ rfl) (by simp; omega)).mono ?_
          rintro e w4 ⟨rfl, hw4⟩
          have k4 : Below W.heap.size W w4 := by rw [hw4]; exact K3.out.alloc s3 _
          have s4 := k4.size
          have K4 := hidI k4
          clear hw4 y0 y1 y2 y3 y4 y5 y6 y7 f2 k3
          obtain ⟨y0, y1, y2, y3, y4, y5, y6, y7⟩ := st_cells (plan_keep HB.out k4)
          have f2 := free_of_cells (plan_keep HB.out k4) 2
          have l5 : Below w4.heap.size w4 (w4.alloc (.cells #[.int .i64 0, .int .i64 0] 56)) := (Below.refl _ _).alloc (Nat.le_refl _) _
          have HO5 := hidI ((HO.out.keep k4).keep l5)
          have HL5 := hidI l5
          have HRW : Hid (RowAt (w4.alloc (.cells #[.int .i64 0, .int .i64 0] 56)) (some ⟨w4.heap.size, 0, none⟩) (takerCells [⟨0, 0⟩])) := .inr ⟨_, 0, rfl, by simp, fun j u hj => by
            rw [cell_of_cells (World.alloc_heap_new w4 _), Nat.zero_add]
            have : (takerCells [⟨0, 0⟩])[j]? = (#[Value.int .i64 0, Value.int .i64 0] : Array Value)[j]? := by simp [takerCells, TakerD.cells]
            rw [← this]; exact hj⟩
          clear l5
          go_wp2_with (at_builtin; refine append_row elemTaker (by kernel_rfl) _ _ rfl n _ m3 (takerCells s.takers) rfl HO5.out.r3 (some ⟨w4.heap.size, 0, none⟩) 1 1 (takerCells [⟨0, 0⟩]) rfl rfl (fun h => by cases h) HRW.out (takerCells_one _) (by unfold maxLen; omega) (by omega) (by simp; omega) ?_; intro v6 w6 hown6 hgrow6 hblk6; obtain ⟨a6, c6, rfl, l6, l6', l6n, r6⟩ := own_row hown6; have kt6 := TypeT.grown HO5.out.r3 hgrow6; have hb6 := (kt6.block t _ _ (plan_keep (plan_keep HB.out K4.out) HL5.out) (by decide)).trans (plan_keep (plan_keep HB.out K4.out) HL5.out); clear y0 y1 y2 y3 y4 y5 y6 y7 f2; obtain ⟨y0, y1, y2, y3, y4, y5, y6, y7⟩ := st_cells hb6; have f2 := free_of_cells hb6 2; have HB6 := hidI hb6; have HO6 := hidI hown6; have KT6 := hidI kt6; have HG6 := hidI hgrow6; clear hb6 l6 l6' l6n r6 kt6 hgrow6 hblk6)
          generalize hW7 : w6.setCell ⟨t, 2, none⟩ (.slice a6 (m3 + 1) c6) = W7
          have b7 : W7.heap[t]? = some (.cells #[.slice b1 m1 d1, .slice b2 m2 d2, .slice a6 (m3 + 1) c6, .int .i64 s.nextSeq, .int .i64 s.nextTag, .int .i64 s.came, .int .i64 s.acked, .int .i64 s.dropped] 31 (0, 0)) := by rw [← hW7]; exact setCell_block HB6.out (j := 2) _
          have kt7 : TypeT 31 w6 W7 := by rw [← hW7]; exact TypeT.setCell HB6.out _
          have hf6 : FrameT n t W w6 := ((FrameT.of_below K4.out hnW).trans (FrameT.of_below HL5.out (by have := K4.out.size; omega))).grown HG6.out (by simp; have := K4.out.size; omega) (fun j hj => (HO5.out.r3.lt j hj).1)
          have hf7 : FrameT n t W W7 := by rw [← hW7]; exact hf6.setCell (.inr rfl) _
          have ho6 : OwnSt w6 n b1 b2 a6 m1 d1 m2 d2 (m3 + 1) c6 { s with takers := s.takers ++ [⟨0, 0⟩] } := HO5.out.takers KT6.out (by rw [takerCells_append]; exact HO6.out)
          have ho7 := ho6.typeT kt7 (by decide)
          have q7 : W7.heap[Bq]? = _ := (hf7.block Bq (by omega) (by omega)).trans X1.out
          have mm7 : W7.heap[Bm]? = _ := (hf7.block Bm (by omega) (by omega)).trans X2.out
          have hr7 := ho7.r3
          obtain ⟨g, rfl⟩ : ∃ g, a6 = some ⟨g, 0, none⟩ := by
            rcases hr7.2 with ⟨e, e0⟩ | ⟨g, cap, cur, e, _⟩
            · omega
            · cases e; exact ⟨g, rfl⟩
          have hkl : m3 < (s.takers ++ [(⟨0, 0⟩ : TakerD)]).length := by rw [List.length_append, HM3.out]; simp
          have cc0 := hr7.cellAt (m3 * 2) (by omega)
          have cc1 := hr7.cellAt (m3 * 2 + 1) (by omega)
          have e0 := flat_at (f := TakerD.cells) (k := 2) (fun _ => rfl) (s.takers ++ [(⟨0, 0⟩ : TakerD)]) m3 hkl 0 (by omega)
          have e1 := flat_at (f := TakerD.cells) (k := 2) (fun _ => rfl) (s.takers ++ [(⟨0, 0⟩ : TakerD)]) m3 hkl 1 (by omega)
          rw [show (takerCells (s.takers ++ [(⟨0, 0⟩ : TakerD)]))[m3 * 2]? = some (.int .i64 (s.takers ++ [(⟨0, 0⟩ : TakerD)])[m3].queue) from e0] at cc0
          rw [show (takerCells (s.takers ++ [(⟨0, 0⟩ : TakerD)]))[m3 * 2 + 1]? = some (.int .i64 (s.takers ++ [(⟨0, 0⟩ : TakerD)])[m3].most) from e1] at cc1
          have ff0 := hr7.frozenAt (m3 * 2)
          have ff1 := hr7.frozenAt (m3 * 2 + 1)
          have cq3 := cell_of_cells q7 0
          have cm3 := cell_of_cells mm7 0
          simp at cq3 cm3
          clear y0 y1 y2 y3 y4 y5 y6 y7 f2
          obtain ⟨y0, y1, y2, y3, y4, y5, y6, y7⟩ := st_cells b7
          have j1 : (0 : Int) ≤ (m3 : Int) := by omega
          have j2 : (m3 : Int) < ((m3 + 1 : Nat) : Int) := by omega
          have j3 : (m3 : Int) < (m3 : Int) + 1 := by omega
          obtain ⟨u0, hu0⟩ : ∃ u0, u0 = (s.takers ++ [(⟨0, 0⟩ : TakerD)])[m3].queue := ⟨_, rfl⟩
          obtain ⟨u1, hu1⟩ : ∃ u1, u1 = (s.takers ++ [(⟨0, 0⟩ : TakerD)])[m3].most := ⟨_, rfl⟩
          rw [← hu0] at cc0
          rw [← hu1] at cc1
          have HF7 := hidI hf7
          have B7 := hidI b7
          have HO7 := hidI ho7
          have HKL := hidI hkl
          clear hu0 hu1 e0 e1 hr7 hf6 hf7 b7 ho6 ho7 q7 mm7 kt7 hW7 k4
          go_region
          go_wp2_with fail
          go_ret
          obtain ⟨h1, h2, h3⟩ := HO7.out.taker HKL.out ⟨q, most⟩ rfl
          have hbt := (h2.block t _ _ B7.out (by decide)).trans B7.out
          refine ⟨((HF7.out.typeSet h3 _).typeSet h3 _).drew, .inr ⟨HE0.out, by first | rfl | exact ret_int (by rw [HGE.out, HM3.out]), ?_⟩⟩
          refine StBox.drew ⟨_, _, _, _, _, _, _, _, _, hbt, ?_⟩
          have e : joinS s q most = { s with takers := (s.takers ++ [(⟨0, 0⟩ : TakerD)]).set m3 ⟨q, most⟩ } := by
            unfold joinS joinT
            rw [if_neg HNG.out]
            have : (s.takers ++ [(⟨0, 0⟩ : TakerD)]).set m3 ⟨q, most⟩ = s.takers ++ [⟨q, most⟩] := by
              rw [List.set_append_right _ _ (by rw [HM3.out]; exact Nat.le_refl _), HM3.out]; simp
            rw [this]
          rw [e]
          exact h1

/-- The number that a call tells. -/
def numOf (E : Int) (N : Int) : Int := if E = 0 then N else 0

set_option maxRecDepth 100000 in
set_option maxHeartbeats 4000000 in
theorem join_any (p : PlanD) (a1 a2 a3 : Option Addr) (n1 c1 n2 c2 n3 c3 : Nat) (s : StateD) (b1 b2 b3 : Option Addr) (m1 d1 m2 d2 m3 d3 : Nat) (q most : Int) (w : World) (hp : PlanAt w a1 a2 a3 n1 n2 n3 p) (hs : StateAt w b1 b2 b3 m1 m2 m3 s) (hn2 : b2 = none → d2 = 0) (hn3 : b3 = none → d3 = 0) :
    Calls Try.prog 20 #[.agg #[.slice a1 n1 c1, .slice a2 n2 c2, .slice a3 n3 c3], .agg #[.slice b1 m1 d1, .slice b2 m2 d2, .slice b3 m3 d3, .int .i64 s.nextSeq, .int .i64 s.nextTag, .int .i64 s.came, .int .i64 s.acked, .int .i64 s.dropped], .int .i64 q, .int .i64 most] w fun e w' => ∃ v, e = .returned (.tuple #[v, .int .i64 (numOf (joinE p s q most) (goneIdx s.takers)), .int .i64 (joinE p s q most)]) ∧ StRes w' w.heap.size v (joinE p s q most) (joinS s q most) ∧ Below w.heap.size w w' := by
  obtain ⟨hz5, hg5, hB5⟩ := allocs_heap [.cells #[.slice a1 n1 c1, .slice a2 n2 c2, .slice a3 n3 c3] 26, .cells #[.slice b1 m1 d1, .slice b2 m2 d2, .slice b3 m3 d3, .int .i64 s.nextSeq, .int .i64 s.nextTag, .int .i64 s.came, .int .i64 s.acked, .int .i64 s.dropped] 31, .cells #[.int .i64 q] 3, .cells #[.int .i64 most] 3, .cells #[.slice none 0 0, .slice none 0 0, .slice none 0 0, .int .i64 0, .int .i64 0, .int .i64 0, .int .i64 0, .int .i64 0] 31] w
  obtain ⟨W5, hW5⟩ : ∃ W5, W5 = List.foldl World.alloc w [.cells #[.slice a1 n1 c1, .slice a2 n2 c2, .slice a3 n3 c3] 26, .cells #[.slice b1 m1 d1, .slice b2 m2 d2, .slice b3 m3 d3, .int .i64 s.nextSeq, .int .i64 s.nextTag, .int .i64 s.came, .int .i64 s.acked, .int .i64 s.dropped] 31, .cells #[.int .i64 q] 3, .cells #[.int .i64 most] 3, .cells #[.slice none 0 0, .slice none 0 0, .slice none 0 0, .int .i64 0, .int .i64 0, .int .i64 0, .int .i64 0, .int .i64 0] 31] := ⟨_, rfl⟩
  rw [← hW5] at hz5 hg5 hB5
  have HW5 : Hid (W5 = (((((w.alloc (.cells #[.slice a1 n1 c1, .slice a2 n2 c2, .slice a3 n3 c3] 26)).alloc (.cells #[.slice b1 m1 d1, .slice b2 m2 d2, .slice b3 m3 d3, .int .i64 s.nextSeq, .int .i64 s.nextTag, .int .i64 s.came, .int .i64 s.acked, .int .i64 s.dropped] 31)).alloc (.cells #[.int .i64 q] 3)).alloc (.cells #[.int .i64 most] 3)).alloc (.cells #[.slice none 0 0, .slice none 0 0, .slice none 0 0, .int .i64 0, .int .i64 0, .int .i64 0, .int .i64 0, .int .i64 0] 31))) := hW5
  have hz5' : W5.heap.size = w.heap.size + 5 := by rw [hz5]; rfl
  have x0 := hg5 0 _ rfl
  have x1 := hg5 1 _ rfl
  have x2 := hg5 2 _ rfl
  have x3 := hg5 3 _ rfl
  have x4 := hg5 4 _ rfl
  obtain ⟨E, hE⟩ : ∃ E, E = joinE p s q most := ⟨_, rfl⟩
  rw [← hE]
  obtain ⟨N, hN⟩ : ∃ N, N = numOf E (goneIdx s.takers) := ⟨_, rfl⟩
  rw [← hN]
  have hl2 := hp.l2
  have T := told_any p a1 a2 a3 n1 c1 n2 c2 n3 c3 s b1 b2 b3 m1 d1 m2 d2 m3 d3 56 (fun _ _ => rfl) #[.pointer (some ⟨w.heap.size, 0, none⟩), .pointer (some ⟨w.heap.size + 2, 0, none⟩), .pointer (some ⟨w.heap.size + 3, 0, none⟩)] E (goneIdx s.takers) (joinS s q most) W5 (hp.keep hB5) (hs.keep hB5) hn2 hn3
    (fun h => by rw [hE]; unfold joinE; rw [if_pos h])
    (fun h => by
      have e : E = joinX n2 s q most := by rw [hE, ← hl2]; unfold joinE; rw [if_neg (by simp [h])]
      rw [e]
      exact join1_does p a1 a2 a3 n1 c1 n2 c2 n3 c3 s q most _ _ _ W5 (hp.keep hB5) x0 x2 x3 (right_of h))
  rw [show (if E = 0 then ((goneIdx s.takers : Nat) : Int) else 0) = N from hN.symm] at T
  have HT := hidI T
  have X4 := hidI x4
  have HZ5 := hidI hz5'
  have HB5 := hidI hB5
  have hmf : ∀ (fn : Fn) (first cap : Array Value) (w : World), (Instr.makeFunc fn first cap).run Try.prog w = .ok (.func fn first cap) w := fun _ _ _ _ => rfl
  clear T hW5 hz5 hz5' hg5 hB5 x0 x1 x2 x3 x4 hE hN hp hs hn2 hn3 hl2
  go_enter Try.func20, Try.ntmps20
  go_wp2_with fail
  rw [← HW5.out]
  refine HT.out.mono ?_
  rintro e w6 ⟨v, rfl, hres, hB6⟩
  have x6 := plan_keep X4.out hB6
  obtain ⟨y0, y1, y2, y3, y4, y5, y6, y7⟩ := st_cells x6
  have f0 := free_of_cells x6 0
  have f1 := free_of_cells x6 1
  have f2 := free_of_cells x6 2
  have f3 := free_of_cells x6 3
  have f4 := free_of_cells x6 4
  have f5 := free_of_cells x6 5
  have f6 := free_of_cells x6 6
  have f7 := free_of_cells x6 7
  obtain ⟨x1, x2, x3, k1, e1, k2, e2, k3, e3, i1, i2, i3, i4, i5, rfl⟩ := hres.shape
  have X6 := hidI x6
  have HRES := hidI hres
  have HB6 := hidI hB6
  clear x6 hres hB6
  go_wp2_with fail
  generalize hW4 : World.setCell (World.setCell (World.setCell (World.setCell (World.setCell (World.setCell (World.setCell (World.setCell w6 _ _) _ _) _ _) _ _) _ _) _ _) _ _) _ _ = W4
  obtain ⟨b4, t4⟩ := store8 X6.out hW4
  obtain ⟨z0, z1, z2, z3, z4, z5, z6, z7⟩ := st_cells b4
  exact bodyPost_ret (v := .tuple #[.agg #[.slice x1 k1 e1, .slice x2 k2 e2, .slice x3 k3 e3, .int .i64 i1, .int .i64 i2, .int .i64 i3, .int .i64 i4, .int .i64 i5], .int .i64 N, .int .i64 E]) (by simp [results, Try.results20, go_sem, z0, z1, z2, z3, z4, z5, z6, z7]) rfl ⟨_, rfl, (HRES.out.turn X6.out t4).lower (by have := HZ5.out; omega), HB5.out.trans ((HB6.out.mono HB5.out.size).trans (t4.below (by have := HB6.out.size; have := HZ5.out; omega) (by omega)))⟩

end Go.Proofs.Ytpoichgodamnkaa

/- Uj -/
namespace Go.Proofs.Ytpoichgodamnkaa
set_option linter.unusedVariables false
set_option maxRecDepth 100000
open Go.RowKit Go.Maps

theorem lb_bounds (s : StateD) (q : Int) (n : Nat) : 0 ≤ (lbTo s q n).2 ∧ (lbTo s q n).2 ≤ 4 ∧ -1 ≤ (lbTo s q n).1 ∧ (lbTo s q n).1 ≤ n := by
  rcases lb_is s q n with ⟨h, _⟩ | ⟨k, h, hk⟩
  · rw [h]; simp only; omega
  · rw [h]; have := hk.few; have := hk.lt; simp only; omega
set_option maxRecDepth 100000 in
set_option maxHeartbeats 4000000 in
theorem leastBusy_any (p : PlanD) (a1 a2 a3 : Option Addr) (n1 c1 n2 c2 n3 c3 : Nat) (s : StateD) (b1 b2 b3 : Option Addr) (m1 d1 m2 d2 m3 d3 : Nat) (q : Int) (w : World) (hp : PlanAt w a1 a2 a3 n1 n2 n3 p) (hs : StateAt w b1 b2 b3 m1 m2 m3 s) (h0 : stE p s = 0) :
    Calls Try.prog 63 #[.agg #[.slice a1 n1 c1, .slice a2 n2 c2, .slice a3 n3 c3], .agg #[.slice b1 m1 d1, .slice b2 m2 d2, .slice b3 m3 d3, .int .i64 s.nextSeq, .int .i64 s.nextTag, .int .i64 s.came, .int .i64 s.acked, .int .i64 s.dropped], .int .i64 q] w fun e w' => e = .returned (.int .i64 (nextK s q)) ∧ Below w.heap.size w w' := by
  obtain ⟨W2, hW2, hBw, hs2, hbx⟩ := ps_boxed w #[.slice a1 n1 c1, .slice a2 n2 c2, .slice a3 n3 c3] #[.slice b1 m1 d1, .slice b2 m2 d2, .slice b3 m3 d3, .int .i64 s.nextSeq, .int .i64 s.nextTag, .int .i64 s.came, .int .i64 s.acked, .int .i64 s.dropped]
  have HW2 := hidI hW2
  have BX := hidI hbx
  have HS := hidI (hs.keep hBw)
  have HP := hidI (hp.keep hBw)
  have HBW := hidI hBw
  have HM3 : Hid (s.takers.length = m3) := hs.l3
  have H0 := hidI h0
  have hm3 : m3 ≤ 4 := by rw [← hs.l3]; exact (right_of h0).tk
  have s0 := hBw.size
  obtain ⟨y0, y1, y2, y3, y4, y5, y6, y7⟩ := st_cells (hbx W2 (Below.refl _ _)).2
  clear hW2 hbx hs2 hp hs h0 hBw
  go_enter Try.func63, Try.ntmps63
  go_wp2_with fail
  rw [← HW2.out]
  clear y0 y1 y2 y3 y4 y5 y6 y7
  go_loopw [7, 8, 9, 10, 11, 12, 16] (fun a b _ _ _ _ i wr => ∃ (k : Nat), k ≤ m3 ∧ i = .int .i64 k ∧ a = .int .i64 (lbTo s q k).1 ∧ b = .int .i64 (lbTo s q k).2 ∧ Below W2.heap.size W2 wr) (fun _ _ _ _ _ _ i _ => m3 - (intOf i).toNat)
  case atStart => exact ⟨0, Nat.zero_le _, rfl, rfl, rfl, Below.refl _ _⟩
  case round =>
    obtain ⟨k, hk, rfl, rfl, rfl, hB⟩ := hrel
    have hBs := hB.size
    have HB := hidI hB
    obtain ⟨l1, l2, l3, l4⟩ := lb_bounds s q k
    have HLB : Hid (lbTo s q (k + 1) = if freeT s q k = true ∧ (heldN s k : Int) < (lbTo s q k).2 then ((k : Int), (heldN s k : Int)) else lbTo s q k) := rfl
    obtain ⟨A, hA⟩ : ∃ A, A = (lbTo s q k).1 := ⟨_, rfl⟩
    obtain ⟨F, hF⟩ : ∃ F, F = (lbTo s q k).2 := ⟨_, rfl⟩
    rw [← hA] at l3 l4 ⊢
    rw [← hF] at l1 l2 HLB ⊢
    have HAF : Hid (lbTo s q k = (A, F)) := by show lbTo s q k = (A, F); rw [hA, hF]
    clear hA hF
    by_cases hlt : k < m3
    · have HLT := hidI hlt
      have hkl : k < s.takers.length := by rw [HM3.out]; exact hlt
      obtain ⟨g, o, ha, hg, e1, e2⟩ := (HS.out.q3.keep hB).get hkl
      subst ha
      have HFR : Hid (freeT s q k = (decide (s.takers[k].queue = q) && decide ((heldN s k : Int) < s.takers[k].most))) := by
        show freeT s q k = _
        unfold freeT tAt; rw [List.getD_eq_getElem?_getD, List.getElem?_eq_getElem hkl]; rfl
      have hmo := (takerOk_iff.1 ((right_of H0.out).tok _ (List.getElem_mem hkl))).2
      have HHE : Hid (hdE p s (k : Int) = 0) := by show hdE p s (k : Int) = 0; unfold hdE; rw [if_pos H0.out, if_pos (isNum_iff.2 ⟨by omega, by omega⟩)]
      have HHN : Hid (hdN p s (k : Int) = (heldN s (k : Int) : Int)) := by show hdN p s (k : Int) = _; unfold hdN; rw [if_pos HHE.out]
      obtain ⟨x, hx⟩ : ∃ x, x = s.takers[k].queue := ⟨_, rfl⟩
      obtain ⟨mo, hmo'⟩ : ∃ mo, mo = s.takers[k].most := ⟨_, rfl⟩
      rw [← hx] at e1 HFR
      rw [← hmo'] at e2 HFR hmo
      have j1 : (0 : Int) ≤ (k : Int) := by omega
      have j2 : (k : Int) < m3 := by omega
      clear hx hmo' hkl
      have l5 : Below W2.heap.size W2 (wr.alloc (.cells #[.int .i64 x, .int .i64 mo] 56)) := hB.alloc hBs _
      have L5 := hidI l5
      obtain ⟨x0, x1, x2⟩ := pl_cells (BX.out _ l5).1
      obtain ⟨y0, y1, y2, y3, y4, y5, y6, y7⟩ := st_cells (BX.out _ l5).2
      by_cases hq : x = q
      · subst hq
        go_wp2_with fail
        refine (sheld_any p _ _ _ _ _ _ _ _ _ s _ _ _ _ _ _ _ _ _ (k : Int) _ (HP.out.keep L5.out) (HS.out.keep L5.out)).mono ?_
        rintro e w5 ⟨rfl, hB5⟩
        rw [HHE.out, HHN.out]
        have k5 := L5.out.trans (hB5.mono L5.out.size)
        have xb := plan_keep (World.alloc_heap_new wr (.cells #[.int .i64 x, .int .i64 mo] 56)) hB5
        have s5 := k5.size
        have k5' := k5.alloc s5 (.cells #[.int .i64 0] 32)
        have XB := hidI xb
        have K5 := hidI k5
        have hwr : wr.heap.size < w5.heap.size := lt_of_heap xb
        obtain ⟨H, hH⟩ : ∃ H : Nat, H = heldN s (k : Int) := ⟨_, rfl⟩
        rw [← hH] at HFR HLB ⊢
        clear x0 x1 x2 y0 y1 y2 y3 y4 y5 y6 y7 hB5 xb hH e1 e2
        have hor : ((H : Int) < mo ∧ (H : Int) < F) ∨ ((¬ (H : Int) < mo) ∨ ((H : Int) < mo ∧ ¬ (H : Int) < F)) := by omega
        rcases hor with ⟨i1, i2⟩ | hno
        · have HF1 : Hid (lbTo s x (k + 1) = ((k : Int), (H : Int))) := by
            show lbTo s x (k + 1) = _
            rw [HLB.out, HFR.out, if_pos ⟨by simp [i1], i2⟩]
          go_wp2_with (go_at_call 44; refine (ok_no _ _ (one_new _ _ _) (by simp)).mono ?_; rintro e w6 ⟨rfl, hB6⟩; have k6 := k5'.trans (hB6.mono k5'.size); have K6 := hidI k6; have xb6 := (hB6.block wr.heap.size (by simp; omega)).trans ((Below.heap_alloc w5 (.cells #[.int .i64 0] 32) wr.heap.size hwr).trans XB.out); have c0 := cell_of_cells xb6 0; have c1 := cell_of_cells xb6 1; simp at c0 c1; clear hB6 k6 xb6)
          go_roundw
          case rel => exact ⟨k + 1, HLT.out, by have := HLT.out; go_num, by rw [HF1.out], by rw [HF1.out], K6.out⟩
          case measure => have := HLT.out; simp [intOf]; omega
        · have HF0 : Hid (lbTo s x (k + 1) = (A, F)) := by
            show lbTo s x (k + 1) = (A, F)
            rw [HLB.out, HFR.out, if_neg (by simp; omega), HAF.out]
          rcases hno with i1 | ⟨i1, i2⟩
          all_goals
            go_wp2_with (go_at_call 44; refine (ok_no _ _ (one_new _ _ _) (by simp)).mono ?_; rintro e w6 ⟨rfl, hB6⟩; have k6 := k5'.trans (hB6.mono k5'.size); have K6 := hidI k6; have xb6 := (hB6.block wr.heap.size (by simp; omega)).trans ((Below.heap_alloc w5 (.cells #[.int .i64 0] 32) wr.heap.size hwr).trans XB.out); have c0 := cell_of_cells xb6 0; have c1 := cell_of_cells xb6 1; simp at c0 c1; clear hB6 k6 xb6)
            go_roundw
            case rel => exact ⟨k + 1, HLT.out, by have := HLT.out; go_num, by rw [HF0.out], by rw [HF0.out], K6.out⟩
            case measure => have := HLT.out; simp [intOf]; omega
      · have hq' : (x != q) = true := bne_iff_ne.2 hq
        have HF0 : Hid (lbTo s q (k + 1) = (A, F)) := by
          show lbTo s q (k + 1) = (A, F)
          rw [HLB.out, HFR.out, if_neg (by simp [hq]), HAF.out]
        clear hq
        go_wp2_with fail
        go_roundw
        case rel => exact ⟨k + 1, HLT.out, by have := HLT.out; go_num, by rw [HF0.out], by rw [HF0.out], L5.out⟩
        case measure => have := HLT.out; simp [intOf]; omega
    · have hke : m3 = k := by omega
      subst hke
      have HNK : Hid (nextK s q = A) := by show nextK s q = A; unfold nextK; rw [HM3.out, HAF.out]
      clear hlt hk
      go_wp2_with fail
      go_ret
      exact ⟨ret_int HNK.out.symm, HBW.out.trans (hB.mono s0)⟩

/-- What turns: block t, and what is new. -/
structure Turn1 (t : Nat) (W W' : World) : Prop where
  os : W'.os = W.os
  tape : W'.tape = W.tape
  output : W'.output = W.output
  size : W.heap.size ≤ W'.heap.size
  block : ∀ k, k < W.heap.size → k ≠ t → W'.heap[k]? = W.heap[k]?
theorem Turn1.of_below {t : Nat} {W W' : World} (h : Below W.heap.size W W') : Turn1 t W W' := ⟨h.os, h.tape, h.output, h.size, fun k h1 _ => h.block k h1⟩
theorem Turn1.setCell {t : Nat} {W W' : World} (h : Turn1 t W W') (i : Nat) (u : Value) : Turn1 t W (W'.setCell ⟨t, i, none⟩ u) := ⟨h.os, h.tape, h.output, by simpa [World.setCell] using h.size, fun k h1 h2 => (Below.heap_setCell W' ⟨t, i, none⟩ u k h2).trans (h.block k h1 h2)⟩
theorem Turn1.trans_below {t : Nat} {A B C : World} (h : Turn1 t A B) (k : Below B.heap.size B C) : Turn1 t A C := ⟨k.os.trans h.os, k.tape.trans h.tape, k.output.trans h.output, Nat.le_trans h.size k.size, fun i h1 h2 => (k.block i (by have := h.size; omega)).trans (h.block i h1 h2)⟩
theorem ask_pan {d : Int} (h : d ≠ 0) : (Ending.panicked [{ v := .iface 32 (.int .i64 d), recovered := false }]) = askE d := by rw [askE_pan h]; rfl

set_option maxRecDepth 100000 in
set_option maxHeartbeats 4000000 in
theorem next1_any (p : PlanD) (a1 a2 a3 : Option Addr) (n1 c1 n2 c2 n3 c3 : Nat) (s : StateD) (b1 b2 b3 : Option Addr) (m1 d1 m2 d2 m3 d3 : Nat) (q : Int) (B : Nat) (w : World) (hp : PlanAt w a1 a2 a3 n1 n2 n3 p) (hs : StateAt w b1 b2 b3 m1 m2 m3 s) (x0 : w.heap[B]? = some (.cells #[.slice a1 n1 c1, .slice a2 n2 c2, .slice a3 n3 c3] 26 (0, 0))) (x1 : w.heap[B + 1]? = some (.cells #[.slice b1 m1 d1, .slice b2 m2 d2, .slice b3 m3 d3, .int .i64 s.nextSeq, .int .i64 s.nextTag, .int .i64 s.came, .int .i64 s.acked, .int .i64 s.dropped] 31 (0, 0))) (x2 : w.heap[B + 2]? = some (.cells #[.int .i64 q] 3 (0, 0))) (x3 : w.heap[B + 3]? = some (.cells #[.int .i64 (-1)] 3 (0, 0))) :
    Calls Try.prog 62 #[.pointer (some ⟨B, 0, none⟩), .pointer (some ⟨B + 1, 0, none⟩), .pointer (some ⟨B + 2, 0, none⟩), .pointer (some ⟨B + 3, 0, none⟩)] w fun e w' => e = askE (nextE p s q) ∧ Turn1 (B + 3) w w' ∧ (nextE p s q = 0 → w'.heap[B + 3]? = some (.cells #[.int .i64 (nextK s q)] 3 (0, 0))) := by
  obtain ⟨E, hE⟩ : ∃ E, E = nextE p s q := ⟨_, rfl⟩
  rw [← hE]
  obtain ⟨E0, hE0⟩ : ∃ E0, E0 = stE p s := ⟨_, rfl⟩
  have HE := hidI hE
  have HE0 := hidI hE0
  have HP := hidI hp
  have HS := hidI hs
  have X0 := hidI x0
  have X1 := hidI x1
  have X2 := hidI x2
  have X3 := hidI x3
  have HN2 : Hid (p.queues.length = n2) := hp.l2
  have HM1 : Hid (s.ready.length = m1) := hs.l1
  have hl3 := lt_of_heap x3
  obtain ⟨p0, p1, p2⟩ := pl_cells x0
  obtain ⟨y0, y1, y2, y3, y4, y5, y6, y7⟩ := st_cells x1
  clear hE hE0 hp hs x0 x1 x2 x3
  go_enter Try.func62, Try.ntmps62
  go_wp2_with fail
  refine (scheck_any p _ _ _ _ _ _ _ _ _ s _ _ _ _ _ _ _ _ _ _ HP.out HS.out).mono ?_
  rintro e w1 ⟨rfl, k1⟩
  rw [← HE0.out]
  have s1 := k1.size
  have k1' := k1.alloc s1 (.cells #[.int .i64 E0] 32)
  have s1' := k1'.size
  clear p0 p1 p2 y0 y1 y2 y3 y4 y5 y6 y7
  by_cases hz : E0 = 0
  · subst hz
    have HE1 : Hid (E = if isNum q n2 = false then 5 else if lineAt s q.toNat = [] then 8 else if nextK s q = -1 then 9 else 0) := by show E = _; rw [HE.out]; unfold nextE; rw [if_neg (by simp [← HE0.out]), HN2.out]
    have HR := hidI (right_of HE0.out.symm)
    go_wp2_with (go_at_call 44; refine (ok_no _ _ (one_new _ _ _) (by simp)).mono ?_; rintro e w2 ⟨rfl, hB2⟩; have k2 := k1'.trans (hB2.mono s1'); have K2 := hidI k2; obtain ⟨p0, p1, p2⟩ := pl_cells (plan_keep X0.out k2); have cq := cell_of_cells (plan_keep X2.out k2) 0; simp at cq; clear hB2)
    refine (askQueue_any p _ _ _ _ _ _ _ _ _ q _ (HP.out.keep K2.out)).mono ?_
    rintro e w3 ⟨rfl, k3'⟩
    have k3 := K2.out.trans (k3'.mono K2.out.size)
    have s3 := k3.size
    have K3 := hidI k3
    clear k3' p0 p1 p2 cq k2
    by_cases hq : isNum q n2 = false
    · rw [if_pos hq, askE_pan (by decide)]
      unfold panE
      have e5 : E = 5 := by rw [HE1.out, if_pos hq]
      exact ⟨rfl, by rw [e5]; rfl, Turn1.of_below k3, fun h => by rw [e5] at h; cases h⟩
    · rw [if_neg hq, askE_ok]
      unfold okE
      have hq' : 0 ≤ q ∧ q < n2 := isNum_iff.1 (by simpa using hq)
      obtain ⟨j, rfl⟩ := Int.eq_ofNat_of_zero_le hq'.1
      have HE2 : Hid (E = if lineAt s j = [] then 8 else if nextK s j = -1 then 9 else 0) := by show E = _; rw [HE1.out, if_neg hq]; rfl
      have hjr : j < s.ready.length := by rw [HR.out.len, HN2.out]; omega
      obtain ⟨g, o, b, c, ha, hg, hl⟩ := (HS.out.q1.keep k3).get hjr
      subst ha
      have c1 := hl.cell
      have HLA : Hid (lineAt s j = s.ready[j]) := lineAt_get hjr
      obtain ⟨n, hn⟩ : ∃ n, n = (s.ready[j]'hjr).length := ⟨_, rfl⟩
      have HN : Hid (n = 0 ↔ lineAt s j = []) := by show n = 0 ↔ _; rw [HLA.out, hn]; exact List.length_eq_zero_iff
      rw [← hn] at c1
      have j1 : (0 : Int) ≤ (j : Int) := by omega
      have j2 : (j : Int) < m1 := by rw [← HM1.out]; omega
      obtain ⟨y0, y1, y2, y3, y4, y5, y6, y7⟩ := st_cells (plan_keep X1.out k3)
      have cq := cell_of_cells (plan_keep X2.out k3) 0
      simp at cq
      clear hl hn hq hq' HE1
      go_wp2_with fail
      by_cases hn0 : n = 0
      · refine (never_yes 8 [((n : Int) == 0)] _ _ (by simp) (bools_newG w3 _ rfl) (by simp; omega)).mono ?_
        rintro e w4 ⟨rfl, rfl⟩
        have e8 : E = 8 := by rw [HE2.out, if_pos (HN.out.1 hn0)]
        exact ⟨rfl, by rw [e8]; rfl, Turn1.of_below (K3.out.alloc s3 _), fun h => by rw [e8] at h; cases h⟩
      · refine (never_no 8 [((n : Int) == 0)] _ _ (by simp) (bools_newG w3 _ rfl) (by simp; omega)).mono ?_
        rintro e w4 ⟨rfl, hw4⟩
        have k4 : Below w.heap.size w w4 := by rw [hw4]; exact K3.out.alloc s3 _
        have HE3 : Hid (E = if nextK s j = -1 then 9 else 0) := by show E = _; rw [HE2.out, if_neg (fun h => hn0 (HN.out.2 h))]
        have K4 := hidI k4
        have s4 := k4.size
        clear hw4 hn0 y0 y1 y2 y3 y4 y5 y6 y7 cq c1 k3
        obtain ⟨p0, p1, p2⟩ := pl_cells (plan_keep X0.out k4)
        obtain ⟨y0, y1, y2, y3, y4, y5, y6, y7⟩ := st_cells (plan_keep X1.out k4)
        have cq := cell_of_cells (plan_keep X2.out k4) 0
        simp at cq
        go_wp2_with fail
        refine (leastBusy_any p _ _ _ _ _ _ _ _ _ s _ _ _ _ _ _ _ _ _ (j : Int) _ (HP.out.keep K4.out) (HS.out.keep K4.out) HE0.out.symm).mono ?_
        rintro e w5 ⟨rfl, k5'⟩
        have k5 := K4.out.trans (k5'.mono s4)
        have K5 := hidI k5
        have x35 := plan_keep X3.out k5
        have X35 := hidI x35
        have c3 := cell_of_cells x35 0
        have f3 := free_of_cells x35 0
        simp at c3
        obtain ⟨N, hN⟩ : ∃ N, N = nextK s (j : Int) := ⟨_, rfl⟩
        have HNN := hidI hN
        rw [← hN] at HE3 ⊢
        clear k5' k4 x35 p0 p1 p2 y0 y1 y2 y3 y4 y5 y6 y7 cq hN
        have tb := setCell_block X35.out (j := 0) (.int .i64 N)
        have t5 : Turn1 (B + 3) w (w5.setCell ⟨B + 3, 0, none⟩ (.int .i64 N)) := (Turn1.of_below K5.out).setCell 0 _
        have ly : Below (w5.setCell ⟨B + 3, 0, none⟩ (.int .i64 N)).heap.size (w5.setCell ⟨B + 3, 0, none⟩ (.int .i64 N)) ((w5.setCell ⟨B + 3, 0, none⟩ (.int .i64 N)).alloc (.cells #[.bool (N == -1)] 4)) := (Below.refl _ _).alloc (Nat.le_refl _) _
        have T6 := hidI (t5.trans_below ly)
        have TB6 := hidI (plan_keep tb ly)
        clear tb t5 ly
        go_wp2_with fail
        have hsz : w5.heap.size = (w5.setCell ⟨B + 3, 0, none⟩ (.int .i64 N)).heap.size := by simp [World.setCell]
        by_cases hn1 : N = -1
        · refine (never_yes 9 [(N == -1)] _ _ (by simp) (bools_newG (w5.setCell ⟨B + 3, 0, none⟩ (.int .i64 N)) _ hsz) (by simp [hn1])).mono ?_
          rintro e w6 ⟨rfl, rfl⟩
          have e9 : E = 9 := by rw [HE3.out, if_pos hn1]
          exact ⟨rfl, by rw [e9]; rfl, T6.out, fun h => by rw [e9] at h; cases h⟩
        · refine (never_no 9 [(N == -1)] _ _ (by simp) (bools_newG (w5.setCell ⟨B + 3, 0, none⟩ (.int .i64 N)) _ hsz) (by simp [hn1])).mono ?_
          rintro e w6 ⟨rfl, hw6⟩
          have e0 : E = 0 := by rw [HE3.out, if_neg hn1]
          have T6' : Hid (Turn1 (B + 3) w w6) := by show Turn1 (B + 3) w w6; rw [hw6]; exact T6.out
          have TB6' : Hid (w6.heap[B + 3]? = some (.cells #[.int .i64 N] 3 (0, 0))) := by show w6.heap[B + 3]? = _; rw [hw6]; exact TB6.out
          clear hw6 hsz
          go_wp2_with fail
          go_end0
          exact ⟨by rw [e0]; rfl, T6'.out, fun _ => by rw [← HNN.out]; exact TB6'.out⟩
  · have HZ := hidI hz
    have e0 : E = E0 := by rw [HE.out]; unfold nextE; rw [if_pos (by rw [← HE0.out]; exact hz), HE0.out]
    go_wp2_with (go_at_call 44; refine (ok_yes E0 _ _ (one_new _ _ _) (by simp) HZ.out).mono ?_; rintro e w2 ⟨rfl, hB2⟩)
    subst e0
    exact ⟨rfl, ask_pan HZ.out, Turn1.of_below (k1'.trans (hB2.mono s1')), fun h => absurd h HZ.out⟩

set_option maxRecDepth 100000 in
set_option maxHeartbeats 4000000 in
theorem next_any (p : PlanD) (a1 a2 a3 : Option Addr) (n1 c1 n2 c2 n3 c3 : Nat) (s : StateD) (b1 b2 b3 : Option Addr) (m1 d1 m2 d2 m3 d3 : Nat) (q : Int) (w : World) (hp : PlanAt w a1 a2 a3 n1 n2 n3 p) (hs : StateAt w b1 b2 b3 m1 m2 m3 s) :
    Calls Try.prog 23 #[.agg #[.slice a1 n1 c1, .slice a2 n2 c2, .slice a3 n3 c3], .agg #[.slice b1 m1 d1, .slice b2 m2 d2, .slice b3 m3 d3, .int .i64 s.nextSeq, .int .i64 s.nextTag, .int .i64 s.came, .int .i64 s.acked, .int .i64 s.dropped], .int .i64 q] w fun e w' => e = .returned (.tuple #[.int .i64 (numOf (nextE p s q) (nextK s q)), .int .i64 (nextE p s q)]) ∧ Below w.heap.size w w' := by
  obtain ⟨hz4, hg4, hB4⟩ := allocs_heap [.cells #[.slice a1 n1 c1, .slice a2 n2 c2, .slice a3 n3 c3] 26, .cells #[.slice b1 m1 d1, .slice b2 m2 d2, .slice b3 m3 d3, .int .i64 s.nextSeq, .int .i64 s.nextTag, .int .i64 s.came, .int .i64 s.acked, .int .i64 s.dropped] 31, .cells #[.int .i64 q] 3, .cells #[.int .i64 (-1)] 3] w
  obtain ⟨W4, hW4⟩ : ∃ W4, W4 = List.foldl World.alloc w [.cells #[.slice a1 n1 c1, .slice a2 n2 c2, .slice a3 n3 c3] 26, .cells #[.slice b1 m1 d1, .slice b2 m2 d2, .slice b3 m3 d3, .int .i64 s.nextSeq, .int .i64 s.nextTag, .int .i64 s.came, .int .i64 s.acked, .int .i64 s.dropped] 31, .cells #[.int .i64 q] 3, .cells #[.int .i64 (-1)] 3] := ⟨_, rfl⟩
  rw [← hW4] at hz4 hg4 hB4
  have HW4 : Hid (W4 = ((((w.alloc (.cells #[.slice a1 n1 c1, .slice a2 n2 c2, .slice a3 n3 c3] 26)).alloc (.cells #[.slice b1 m1 d1, .slice b2 m2 d2, .slice b3 m3 d3, .int .i64 s.nextSeq, .int .i64 s.nextTag, .int .i64 s.came, .int .i64 s.acked, .int .i64 s.dropped] 31)).alloc (.cells #[.int .i64 q] 3)).alloc (.cells #[.int .i64 (-1)] 3))) := hW4
  have hz4' : W4.heap.size = w.heap.size + 4 := by rw [hz4]; rfl
  have x0 := hg4 0 _ rfl
  have x1 := hg4 1 _ rfl
  have x2 := hg4 2 _ rfl
  have x3 := hg4 3 _ rfl
  have l5 : Below W4.heap.size W4 (W4.alloc (.cells #[.int .i64 0] 32)) := (Below.refl _ _).alloc (Nat.le_refl _) _
  have x6 := World.alloc_heap_new W4 (.cells #[.int .i64 0] 32)
  obtain ⟨E, hE⟩ : ∃ E, E = nextE p s q := ⟨_, rfl⟩
  obtain ⟨K, hK⟩ : ∃ K, K = nextK s q := ⟨_, rfl⟩
  have N1 := next1_any p a1 a2 a3 n1 c1 n2 c2 n3 c3 s b1 b2 b3 m1 d1 m2 d2 m3 d3 q w.heap.size (W4.alloc (.cells #[.int .i64 0] 32)) ((hp.keep hB4).keep l5) ((hs.keep hB4).keep l5) (plan_keep x0 l5) (plan_keep x1 l5) (plan_keep x2 l5) (plan_keep x3 l5)
  rw [← hE, ← hK] at N1
  rw [← hE, ← hK]
  have TR := tried_any 62 (fun _ _ => rfl) #[.pointer (some ⟨w.heap.size, 0, none⟩), .pointer (some ⟨w.heap.size + 1, 0, none⟩), .pointer (some ⟨w.heap.size + 2, 0, none⟩), .pointer (some ⟨w.heap.size + 3, 0, none⟩)]
    (fun D w1 => D = E ∧ Turn1 (w.heap.size + 3) (W4.alloc (.cells #[.int .i64 0] 32)) w1 ∧ (E = 0 → w1.heap[w.heap.size + 3]? = some (.cells #[.int .i64 K] 3 (0, 0)))) W4
    (N1.mono (by
      rintro e w' ⟨rfl, g1, g2⟩
      exact ⟨E, rfl, ⟨rfl, g1, g2⟩, (g1.block _ (by simp) (by omega)).trans x6⟩))
  have HTR := hidI TR
  have HB4 := hidI hB4
  have HZ4 := hidI hz4'
  have hmf : ∀ (fn : Fn) (first cap : Array Value) (w : World), (Instr.makeFunc fn first cap).run Try.prog w = .ok (.func fn first cap) w := fun _ _ _ _ => rfl
  clear N1 TR hW4 hz4 hz4' hg4 hB4 x0 x1 x2 x3 x6 l5 hp hs hE hK
  go_enter Try.func23, Try.ntmps23
  go_wp2_with fail
  rw [← HW4.out]
  refine HTR.out.mono ?_
  rintro e w7 ⟨D, w1, rfl, ⟨rfl, g1, g2⟩, hb, rfl⟩
  have hB7 : Below w.heap.size w (w1.setCell ⟨W4.heap.size, 0, none⟩ (.int .i64 D)) := by
    refine (HB4.out.trans ?_).setCell (p := ⟨W4.heap.size, 0, none⟩) (by have := HZ4.out; show w.heap.size ≤ W4.heap.size; omega) _
    refine ⟨g1.os, g1.tape, g1.output, by have := g1.size; simp at this; omega, fun k hk => ?_⟩
    rw [g1.block k (by simp; have := HZ4.out; omega) (by omega), Below.heap_alloc _ _ _ (by have := HZ4.out; omega)]
  have HB7 := hidI hB7
  by_cases hD : D = 0
  · subst hD
    have r3 := g2 rfl
    have r7 : (w1.setCell ⟨W4.heap.size, 0, none⟩ (.int .i64 0)).heap[w.heap.size + 3]? = some (.cells #[.int .i64 K] 3 (0, 0)) := by rw [Below.heap_setCell _ _ _ _ (by have := HZ4.out; show w.heap.size + 3 ≠ W4.heap.size; omega)]; exact r3
    have c7 := cell_of_cells r7 0
    simp at c7
    generalize hw7 : w1.setCell ⟨W4.heap.size, 0, none⟩ (.int .i64 0) = w7 at c7 HB7
    clear r3 r7 g1 g2 hb hB7 hw7
    go_wp2_with fail
    go_ret2
    exact ⟨by first | rfl | (unfold numOf; rw [if_pos rfl]), HB7.out⟩
  · have hD' : (D != 0) = true := bne_iff_ne.2 hD
    have HDN := hidI hD
    generalize hw7 : w1.setCell ⟨W4.heap.size, 0, none⟩ (.int .i64 D) = w7 at HB7
    clear g1 g2 hb hB7 hw7 hD
    go_wp2_with fail
    go_ret2
    exact ⟨ret_ii (by unfold numOf; rw [if_neg HDN.out]) rfl, HB7.out⟩

end Go.Proofs.Ytpoichgodamnkaa
