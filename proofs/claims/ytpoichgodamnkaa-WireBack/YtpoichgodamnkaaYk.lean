import Derived.Test.YtpoichgodamnkaaYi
/- Wf -/
namespace Go.Proofs.Ytpoichgodamnkaa
set_option linter.unusedVariables false
set_option maxRecDepth 100000
open Go.RowKit Go.Maps

def PostD.cells (x : PostD) : List Value := [.string x.name, .int .i64 x.kind]
def QueueD.cells (x : QueueD) : List Value := [.string x.name, .int .i64 x.limit, .int .i64 x.dead]
def BindD.cells (x : BindD) : List Value := [.int .i64 x.src, .bool x.toPost, .int .i64 x.dst, .string x.pat]
def PostD.val (x : PostD) : Value := .agg x.cells.toArray
def QueueD.val (x : QueueD) : Value := .agg x.cells.toArray
def BindD.val (x : BindD) : Value := .agg x.cells.toArray
theorem FrameT.next {R : Nat} {w w1 w2 : World} (h : FrameT w.heap.size R w w1) (k : FrameT w1.heap.size R w1 w2) : FrameT w.heap.size R w w2 :=
  h.trans ⟨k.os, k.tape, k.output, k.size, fun i h1 h2 => k.block i (by have := h.size; omega) h2⟩
/-- Of a new block, too. -/
theorem FrameT.newer {R : Nat} {w w0 w1 : World} (h : Below w.heap.size w w0) (k : FrameT w0.heap.size R w0 w1) : FrameT w.heap.size R w w1 :=
  (FrameT.of_below h (Nat.le_refl _)).trans ⟨k.os, k.tape, k.output, k.size, fun i h1 h2 => k.block i (by have := h.size; omega) h2⟩

set_option maxRecDepth 100000 in
set_option maxHeartbeats 4000000 in
theorem post_any (s : ByteArray) (i R : Nat) (w : World) (hs : s.size ≤ 1000000) (hi : i ≤ s.size) (hR : RdBox w R s i) :
    Calls Try.prog 70 #[.pointer (some ⟨R, 0, none⟩)] w fun e w' => FrameT w.heap.size R w w' ∧ RdRes R s PostD.val (rPost s i) e w' := by
  obtain ⟨res, hres⟩ : ∃ res, res = rPost s i := ⟨_, rfl⟩
  rw [← hres]
  unfold rPost at hres
  obtain ⟨W1, hW1, hB1, hb1⟩ : ∃ W1, W1 = w.alloc (.cells #[.string ⟨#[]⟩, .int .i64 0] 70) ∧ Below w.heap.size w W1 ∧ W1.heap[w.heap.size]? = some (.cells #[.string ⟨#[]⟩, .int .i64 0] 70 (0, 0)) := ⟨_, rfl, (Below.refl _ _).alloc (Nat.le_refl _) _, World.alloc_heap_new w _⟩
  have HW1 := hidI hW1
  have HB1 := hidI hB1
  have HBX := hidI hb1
  have hlt := lt_of_heap hR
  have HT := hidI (text_any s i R W1 hs hi (hR.keep hB1))
  have HRES := hidI hres
  clear hR hres hW1 hb1 hB1
  go_enter Try.func70, Try.ntmps70
  go_wp2_with fail
  rw [← HW1.out]
  refine HT.out.mono ?_
  rintro e w1 ⟨hF, hr1⟩
  have HF1 := hidI hF
  cases hn1 : rText s i with
  | none =>
    rw [hn1] at hr1
    have e2 : e = panE 1 := hr1
    subst e2
    exact ⟨rfl, FrameT.newer HB1.out HF1.out, by rw [HRES.out]; simp only [hn1]; rfl⟩
  | some q =>
    obtain ⟨t, j⟩ := q
    rw [hn1] at hr1
    obtain ⟨rfl, hb1, hj1⟩ := hr1
    have HN2 := hidI (number_any s j R w1 hs hj1 hb1)
    clear hb1 hF
    go_wp2_with fail
    refine HN2.out.mono ?_
    rintro e w2 ⟨hF, hr2⟩
    have HF2 := hidI (HF1.out.next hF)
    cases hn2 : rNum s j with
    | none =>
      rw [hn2] at hr2
      have e2 : e = panE 1 := hr2
      subst e2
      exact ⟨rfl, FrameT.newer HB1.out HF2.out, by rw [HRES.out]; simp only [hn1, hn2]; rfl⟩
    | some q =>
      obtain ⟨k, m⟩ := q
      rw [hn2] at hr2
      obtain ⟨rfl, hb2, hj2⟩ := hr2
      have l2 := ((reads_num s).fwd _ _ _ hn2).2.2
      have HE : Hid (res = some ((⟨t, k⟩ : PostD), m)) := by
        show res = _
        rw [HRES.out]
        simp only [hn1, hn2]
      have hbx : w2.heap[w.heap.size]? = some (.cells #[.string ⟨#[]⟩, .int .i64 0] 70 (0, 0)) := (HF2.out.block _ (lt_of_heap HBX.out) (by omega)).trans HBX.out
      have HBY := hidI hbx
      have HB2 := hidI hb2
      have HJ2 := hidI hj2
      have c0 := cell_of_cells hbx 0
      have f0 := free_of_cells hbx 0
      have c1 := cell_of_cells hbx 1
      have f1 := free_of_cells hbx 1
      simp at c0 c1
      clear hn1 hn2 hb2 hF hbx
      go_wp2_with fail
      generalize hW4 : World.setCell (World.setCell w2 _ _) _ _ = W4
      have b4 : W4.heap[w.heap.size]? = some (.cells #[.string t, .int .i64 (k : Int)] 70 (0, 0)) := by rw [← hW4]; exact setCell_block (setCell_block HBY.out (j := 0) (.string t)) (j := 1) (.int .i64 (k : Int))
      have t4 : TurnB w.heap.size w2 W4 := by rw [← hW4]; exact (setCell_turnB _ _ _ _).trans (setCell_turnB _ _ _ _)
      have z0 := cell_of_cells b4 0
      have z1 := cell_of_cells b4 1
      simp at z0 z1
      exact bodyPost_ret (v := .agg #[.string t, .int .i64 (k : Int)]) (by simp [results, Try.results70, go_sem, z0, z1]) rfl ⟨(FrameT.newer HB1.out HF2.out).trans ⟨t4.os, t4.tape, t4.output, t4.size, fun k h1 h2 => t4.block k (by have := HF2.out.size; have := HB1.out.size; omega) (by omega)⟩, by rw [HE.out]; exact ⟨rfl, (t4.block R (lt_of_heap HB2.out) (by omega)).trans HB2.out, HJ2.out⟩⟩

set_option maxRecDepth 100000 in
set_option maxHeartbeats 4000000 in
theorem queue_any (s : ByteArray) (i R : Nat) (w : World) (hs : s.size ≤ 1000000) (hi : i ≤ s.size) (hR : RdBox w R s i) :
    Calls Try.prog 72 #[.pointer (some ⟨R, 0, none⟩)] w fun e w' => FrameT w.heap.size R w w' ∧ RdRes R s QueueD.val (rQueue s i) e w' := by
  obtain ⟨res, hres⟩ : ∃ res, res = rQueue s i := ⟨_, rfl⟩
  rw [← hres]
  unfold rQueue at hres
  obtain ⟨W1, hW1, hB1, hb1⟩ : ∃ W1, W1 = w.alloc (.cells #[.string ⟨#[]⟩, .int .i64 0, .int .i64 0] 72) ∧ Below w.heap.size w W1 ∧ W1.heap[w.heap.size]? = some (.cells #[.string ⟨#[]⟩, .int .i64 0, .int .i64 0] 72 (0, 0)) := ⟨_, rfl, (Below.refl _ _).alloc (Nat.le_refl _) _, World.alloc_heap_new w _⟩
  have HW1 := hidI hW1
  have HB1 := hidI hB1
  have HBX := hidI hb1
  have hlt := lt_of_heap hR
  have HT := hidI (text_any s i R W1 hs hi (hR.keep hB1))
  have HRES := hidI hres
  clear hR hres hW1 hb1 hB1
  go_enter Try.func72, Try.ntmps72
  go_wp2_with fail
  rw [← HW1.out]
  refine HT.out.mono ?_
  rintro e w1 ⟨hF, hr1⟩
  have HF1 := hidI hF
  cases hn1 : rText s i with
  | none =>
    rw [hn1] at hr1
    have e2 : e = panE 1 := hr1
    subst e2
    exact ⟨rfl, FrameT.newer HB1.out HF1.out, by rw [HRES.out]; simp only [hn1]; rfl⟩
  | some q =>
    obtain ⟨t, j⟩ := q
    rw [hn1] at hr1
    obtain ⟨rfl, hb1, hj1⟩ := hr1
    have HN2 := hidI (number_any s j R w1 hs hj1 hb1)
    clear hb1 hF
    go_wp2_with fail
    refine HN2.out.mono ?_
    rintro e w2 ⟨hF, hr2⟩
    have HF2 := hidI (HF1.out.next hF)
    cases hn2 : rNum s j with
    | none =>
      rw [hn2] at hr2
      have e2 : e = panE 1 := hr2
      subst e2
      exact ⟨rfl, FrameT.newer HB1.out HF2.out, by rw [HRES.out]; simp only [hn1, hn2]; rfl⟩
    | some q =>
      obtain ⟨k, m⟩ := q
      rw [hn2] at hr2
      obtain ⟨rfl, hb2, hj2⟩ := hr2
      have l2 := ((reads_num s).fwd _ _ _ hn2).2.2
      have HN3 := hidI (number_any s m R w2 hs hj2 hb2)
      clear hb2 hF
      go_wp2_with fail
      refine HN3.out.mono ?_
      rintro e w3 ⟨hF, hr3⟩
      have HF3 := hidI (HF2.out.next hF)
      cases hn3 : rNum s m with
      | none =>
        rw [hn3] at hr3
        have e2 : e = panE 1 := hr3
        subst e2
        exact ⟨rfl, FrameT.newer HB1.out HF3.out, by rw [HRES.out]; simp only [hn1, hn2, hn3]; rfl⟩
      | some q =>
        obtain ⟨d, m2⟩ := q
        rw [hn3] at hr3
        obtain ⟨rfl, hb3, hj3⟩ := hr3
        have l3 := ((reads_num s).fwd _ _ _ hn3).2.2
        have HE : Hid (res = some ((⟨t, k, (d : Int) - 1⟩ : QueueD), m2)) := by
          show res = _
          rw [HRES.out]
          simp only [hn1, hn2, hn3]
        have hbx : w3.heap[w.heap.size]? = some (.cells #[.string ⟨#[]⟩, .int .i64 0, .int .i64 0] 72 (0, 0)) := (HF3.out.block _ (lt_of_heap HBX.out) (by omega)).trans HBX.out
        have HBY := hidI hbx
        have HB2 := hidI hb3
        have HJ2 := hidI hj3
        have c0 := cell_of_cells hbx 0
        have f0 := free_of_cells hbx 0
        have c1 := cell_of_cells hbx 1
        have f1 := free_of_cells hbx 1
        have c2 := cell_of_cells hbx 2
        have f2 := free_of_cells hbx 2
        simp at c0 c1 c2
        have jw : IntKind.i64.wrap ((d : Int) - 1) = (d : Int) - 1 := by rw [IntKind.wrap_i64]; omega
        clear hn1 hn2 hn3 hb3 hF hbx
        go_wp2_with fail
        generalize hW4 : World.setCell (World.setCell (World.setCell w3 _ _) _ _) _ _ = W4
        have b4 : W4.heap[w.heap.size]? = some (.cells #[.string t, .int .i64 (k : Int), .int .i64 ((d : Int) - 1)] 72 (0, 0)) := by rw [← hW4]; exact setCell_block (setCell_block (setCell_block HBY.out (j := 0) (.string t)) (j := 1) (.int .i64 (k : Int))) (j := 2) (.int .i64 ((d : Int) - 1))
        have t4 : TurnB w.heap.size w3 W4 := by rw [← hW4]; exact ((setCell_turnB _ _ _ _).trans (setCell_turnB _ _ _ _)).trans (setCell_turnB _ _ _ _)
        have z0 := cell_of_cells b4 0
        have z1 := cell_of_cells b4 1
        have z2 := cell_of_cells b4 2
        simp at z0 z1 z2
        exact bodyPost_ret (v := .agg #[.string t, .int .i64 (k : Int), .int .i64 ((d : Int) - 1)]) (by simp [results, Try.results72, go_sem, z0, z1, z2]) rfl ⟨(FrameT.newer HB1.out HF3.out).trans ⟨t4.os, t4.tape, t4.output, t4.size, fun k h1 h2 => t4.block k (by have := HF3.out.size; have := HB1.out.size; omega) (by omega)⟩, by rw [HE.out]; exact ⟨rfl, (t4.block R (lt_of_heap HB2.out) (by omega)).trans HB2.out, HJ2.out⟩⟩

set_option maxRecDepth 100000 in
set_option maxHeartbeats 4000000 in
theorem bind_any (s : ByteArray) (i R : Nat) (w : World) (hs : s.size ≤ 1000000) (hi : i ≤ s.size) (hR : RdBox w R s i) :
    Calls Try.prog 74 #[.pointer (some ⟨R, 0, none⟩)] w fun e w' => FrameT w.heap.size R w w' ∧ RdRes R s BindD.val (rBind s i) e w' := by
  obtain ⟨res, hres⟩ : ∃ res, res = rBind s i := ⟨_, rfl⟩
  rw [← hres]
  unfold rBind at hres
  obtain ⟨W1, hW1, hB1, hb1⟩ : ∃ W1, W1 = w.alloc (.cells #[.int .i64 0, .bool false, .int .i64 0, .string ⟨#[]⟩] 77) ∧ Below w.heap.size w W1 ∧ W1.heap[w.heap.size]? = some (.cells #[.int .i64 0, .bool false, .int .i64 0, .string ⟨#[]⟩] 77 (0, 0)) := ⟨_, rfl, (Below.refl _ _).alloc (Nat.le_refl _) _, World.alloc_heap_new w _⟩
  have HW1 := hidI hW1
  have HB1 := hidI hB1
  have HBX := hidI hb1
  have hlt := lt_of_heap hR
  have HT := hidI (number_any s i R W1 hs hi (hR.keep hB1))
  have HRES := hidI hres
  clear hR hres hW1 hb1 hB1
  go_enter Try.func74, Try.ntmps74
  go_wp2_with fail
  rw [← HW1.out]
  refine HT.out.mono ?_
  rintro e w1 ⟨hF, hr1⟩
  have HF1 := hidI hF
  cases hn1 : rNum s i with
  | none =>
    rw [hn1] at hr1
    have e2 : e = panE 1 := hr1
    subst e2
    exact ⟨rfl, FrameT.newer HB1.out HF1.out, by rw [HRES.out]; simp only [hn1]; rfl⟩
  | some q =>
    obtain ⟨a, j⟩ := q
    rw [hn1] at hr1
    obtain ⟨rfl, hb1, hj1⟩ := hr1
    have l1 := ((reads_num s).fwd _ _ _ hn1).2.2
    have HN2 := hidI (rflag_any s j R w1 hs hj1 hb1)
    clear hb1 hF
    go_wp2_with fail
    refine HN2.out.mono ?_
    rintro e w2 ⟨hF, hr2⟩
    have HF2 := hidI (HF1.out.next hF)
    cases hn2 : rFlag s j with
    | none =>
      rw [hn2] at hr2
      have e2 : e = panE 1 := hr2
      subst e2
      exact ⟨rfl, FrameT.newer HB1.out HF2.out, by rw [HRES.out]; simp only [hn1, hn2]; rfl⟩
    | some q =>
      obtain ⟨b, m⟩ := q
      rw [hn2] at hr2
      obtain ⟨rfl, hb2, hj2⟩ := hr2
      have HN3 := hidI (number_any s m R w2 hs hj2 hb2)
      clear hb2 hF
      go_wp2_with fail
      refine HN3.out.mono ?_
      rintro e w3 ⟨hF, hr3⟩
      have HF3 := hidI (HF2.out.next hF)
      cases hn3 : rNum s m with
      | none =>
        rw [hn3] at hr3
        have e2 : e = panE 1 := hr3
        subst e2
        exact ⟨rfl, FrameT.newer HB1.out HF3.out, by rw [HRES.out]; simp only [hn1, hn2, hn3]; rfl⟩
      | some q =>
        obtain ⟨c, m2⟩ := q
        rw [hn3] at hr3
        obtain ⟨rfl, hb3, hj3⟩ := hr3
        have l3 := ((reads_num s).fwd _ _ _ hn3).2.2
        have HN4 := hidI (text_any s m2 R w3 hs hj3 hb3)
        clear hb3 hF
        go_wp2_with fail
        refine HN4.out.mono ?_
        rintro e w4 ⟨hF, hr4⟩
        have HF4 := hidI (HF3.out.next hF)
        cases hn4 : rText s m2 with
        | none =>
          rw [hn4] at hr4
          have e2 : e = panE 1 := hr4
          subst e2
          exact ⟨rfl, FrameT.newer HB1.out HF4.out, by rw [HRES.out]; simp only [hn1, hn2, hn3, hn4]; rfl⟩
        | some q =>
          obtain ⟨t, m3⟩ := q
          rw [hn4] at hr4
          obtain ⟨rfl, hb4, hj4⟩ := hr4
          have HE : Hid (res = some ((⟨a, b, c, t⟩ : BindD), m3)) := by
            show res = _
            rw [HRES.out]
            simp only [hn1, hn2, hn3, hn4]
          have hbx : w4.heap[w.heap.size]? = some (.cells #[.int .i64 0, .bool false, .int .i64 0, .string ⟨#[]⟩] 77 (0, 0)) := (HF4.out.block _ (lt_of_heap HBX.out) (by omega)).trans HBX.out
          have HBY := hidI hbx
          have HB2 := hidI hb4
          have HJ2 := hidI hj4
          have c0 := cell_of_cells hbx 0
          have f0 := free_of_cells hbx 0
          have c1 := cell_of_cells hbx 1
          have f1 := free_of_cells hbx 1
          have c2 := cell_of_cells hbx 2
          have f2 := free_of_cells hbx 2
          have c3 := cell_of_cells hbx 3
          have f3 := free_of_cells hbx 3
          simp at c0 c1 c2 c3
          clear hn1 hn2 hn3 hn4 hb4 hF hbx
          go_wp2_with fail
          generalize hW4 : World.setCell (World.setCell (World.setCell (World.setCell w4 _ _) _ _) _ _) _ _ = W4
          have b4 : W4.heap[w.heap.size]? = some (.cells #[.int .i64 (a : Int), .bool b, .int .i64 (c : Int), .string t] 77 (0, 0)) := by rw [← hW4]; exact setCell_block (setCell_block (setCell_block (setCell_block HBY.out (j := 0) (.int .i64 (a : Int))) (j := 1) (.bool b)) (j := 2) (.int .i64 (c : Int))) (j := 3) (.string t)
          have t4 : TurnB w.heap.size w4 W4 := by rw [← hW4]; exact (((setCell_turnB _ _ _ _).trans (setCell_turnB _ _ _ _)).trans (setCell_turnB _ _ _ _)).trans (setCell_turnB _ _ _ _)
          have z0 := cell_of_cells b4 0
          have z1 := cell_of_cells b4 1
          have z2 := cell_of_cells b4 2
          have z3 := cell_of_cells b4 3
          simp at z0 z1 z2 z3
          exact bodyPost_ret (v := .agg #[.int .i64 (a : Int), .bool b, .int .i64 (c : Int), .string t]) (by simp [results, Try.results74, go_sem, z0, z1, z2, z3]) rfl ⟨(FrameT.newer HB1.out HF4.out).trans ⟨t4.os, t4.tape, t4.output, t4.size, fun k h1 h2 => t4.block k (by have := HF4.out.size; have := HB1.out.size; omega) (by omega)⟩, by rw [HE.out]; exact ⟨rfl, (t4.block R (lt_of_heap HB2.out) (by omega)).trans HB2.out, HJ2.out⟩⟩

end Go.Proofs.Ytpoichgodamnkaa

/- Wg -/
namespace Go.Proofs.Ytpoichgodamnkaa
set_option linter.unusedVariables false
set_option maxRecDepth 100000
open Go.RowKit Go.Maps

/-- What a list's reading gives. -/
def RdList {α : Type} (R : Nat) (s : ByteArray) (n : Nat) (T : TypeId) (size : Nat) (cells : α → List Value) (res : Option (List α × Nat)) (e : Ending) (W : World) : Prop :=
  match res with
  | none => e = panE 1
  | some (l, j) => ∃ v, e = .returned v ∧ W.ownsRow n T size v l.length (l.flatMap cells) ∧ RdBox W R s j ∧ j ≤ s.size

theorem Try.infoPost : (Try.prog.info? 70).map (fun i => (i.zero, i.size, i.bytes)) = some (some (.agg #[.string ⟨#[]⟩, .int .i64 0]), 2, 24) := by kernel_rfl

theorem elemPost : ElemT 22 70 2 24 := elemT_of Try.underlying22 Try.infoPost rfl (by omega)

theorem cells1_Post (x : PostD) : ∀ u ∈ x.cells, u.oneCell' = true := by
  simp [PostD.cells, Value.oneCell']

set_option maxRecDepth 100000 in
set_option maxHeartbeats 4000000 in
theorem listPost_any (s : ByteArray) (i R : Nat) (w : World) (hs : s.size ≤ 1000000) (hi : i ≤ s.size) (hR : RdBox w R s i) :
    Calls Try.prog 69 #[.pointer (some ⟨R, 0, none⟩), .func (.func 70) #[] #[]] w fun e w' => FrameT w.heap.size R w w' ∧ RdList R s w.heap.size 70 2 PostD.cells (rMany s (rPost s) i) e w' := by
  obtain ⟨res, hres⟩ : ∃ res, res = rMany s (rPost s) i := ⟨_, rfl⟩
  rw [← hres]
  unfold rMany at hres
  have hlt := lt_of_heap hR
  have HN := hidI (number_any s i R w hs hi hR)
  have HRES := hidI hres
  have hf' : ∀ (args : Array Value) (w : World), Sem.run Try.prog (callFunc 70 args) w = .ok (.enter 70 args) w := fun _ _ => rfl
  clear hR hres
  go_enter Try.func69, Try.ntmps69
  go_wp2_with fail
  refine HN.out.mono ?_
  rintro e w1 ⟨hF, hr1⟩
  have HF1 := hidI hF
  cases hn1 : rNum s i with
  | none =>
    rw [hn1] at hr1
    have e2 : e = panE 1 := hr1
    subst e2
    exact ⟨rfl, HF1.out, by rw [HRES.out]; simp only [hn1]; rfl⟩
  | some q =>
    obtain ⟨n, j⟩ := q
    rw [hn1] at hr1
    obtain ⟨rfl, hb1, hj1⟩ := hr1
    have l1 := ((reads_num s).fwd _ _ _ hn1).2.2
    have HE : Hid (res = rList (rPost s) j n) := by show res = _; rw [HRES.out]; simp only [hn1]
    have HB1 := hidI hb1
    have HJ1 := hidI hj1
    clear hn1 hb1 hF hj1 HN HRES
    go_wp2_with fail
    go_loopw [5, 8] (fun l i wr => ∃ (k m : Nat) (xs : List PostD), k ≤ n ∧ i = .int .i64 k ∧ wr.ownsRow w.heap.size 70 2 l k (xs.flatMap PostD.cells) ∧ rList (rPost s) j k = some (xs, m) ∧ RdBox wr R s m ∧ m ≤ s.size ∧ FrameT w.heap.size R w wr) (fun _ i _ => n - (intOf i).toNat)
    case atStart => exact ⟨0, j, [], Nat.zero_le _, rfl, World.ownsRow_nil _ _ _ _, rfl, HB1.out, HJ1.out, HF1.out⟩
    case round =>
      obtain ⟨k, m, xs, hk, rfl, hown, hl, hb, hm, hF⟩ := hrel
      have HO := hidI hown
      have HLL := hidI hl
      have HF := hidI hF
      have hxl := rList_len hl
      have HXL := hidI hxl
      have hsz := hF.size
      have HC := hidI (post_any s m R wr hs hm hb)
      have HB := hidI hb
      have HM := hidI hm
      clear hown hl hF hxl hb
      by_cases hlt2 : k < n
      · have HLT := hidI hlt2
        go_wp2_with fail
        refine HC.out.mono ?_
        rintro e w2 ⟨hF2, hr2⟩
        have HF2 := hidI hF2
        have hF3 : FrameT w.heap.size R w w2 := HF.out.trans ⟨hF2.os, hF2.tape, hF2.output, hF2.size, fun i h1 h2 => hF2.block i (by omega) h2⟩
        have HF3 := hidI hF3
        cases hn2 : rPost s m with
        | none =>
          rw [hn2] at hr2
          have e2 : e = panE 1 := hr2
          subst e2
          exact ⟨rfl, HF3.out, by rw [HE.out, rList_stop HLL.out hn2 n HLT.out]; rfl⟩
        | some q =>
          obtain ⟨x, m2⟩ := q
          rw [hn2] at hr2
          obtain ⟨rfl, hb2, hj2⟩ := hr2
          have HL2 := hidI (rList_next HLL.out hn2)
          have HB2 := hidI hb2
          have HJ2 := hidI hj2
          have hO2 := row_keep HO.out (W' := w2) (fun g hg => hF2.block g (HO.out.lt g hg).2 (by have := (HO.out.lt g hg).1; omega))
          obtain ⟨W3, hW3⟩ : ∃ W3, W3 = w2.alloc (.cells #[.string x.name, .int .i64 x.kind] 70) := ⟨_, rfl⟩
          have k3 : Below w2.heap.size w2 W3 := by rw [hW3]; exact (Below.refl _ _).alloc (Nat.le_refl _) _
          have hO3 := copied_two hO2 k3
          have HO3 := hidI hO3
          have HW3 := hidI hW3
          have K3 := hidI k3
          have HRW : Hid (RowAt W3 (some ⟨w2.heap.size, 0, none⟩) x.cells) := by show RowAt W3 _ _; rw [hW3]; exact row_new (cs := x.cells)
          have hs2 := hF3.size
          have hs3 := k3.size
          have hv : PostD.val x = .agg #[.string x.name, .int .i64 x.kind] := rfl
          rw [hv]
          clear hn2 hb2 hF2 hF3 hO2 hW3 k3 hO3 hv
          go_wp2_with (at_builtin; rw [← HW3.out]; refine append_row elemPost (by kernel_rfl) _ _ rfl w.heap.size _ k (xs.flatMap PostD.cells) rfl HO3.out (some ⟨w2.heap.size, 0, none⟩) 1 1 x.cells rfl rfl (fun h => by cases h) HRW.out (cells1_Post x) (by unfold maxLen; omega) (by omega) (by omega) ?_; intro v6 w6 hown6 hgrow6 hblk6)
          go_roundw
          case rel =>
            refine ⟨k + 1, m2, xs ++ [x], HLT.out, by have := HLT.out; go_num, by rw [List.flatMap_append, List.flatMap_singleton]; exact hown6, HL2.out, ?_, HJ2.out, ?_⟩
            · exact (hgrow6.block R (by omega) (fun e => by have := HO3.out.lt R e.symm; omega)).trans (HB2.out.keep K3.out)
            · exact (HF3.out.trans (FrameT.of_below K3.out (by omega))).grown hgrow6 (by omega) (fun g hg => (HO3.out.lt g hg).1)
          case measure => have := HLT.out; simp [intOf]; omega
      · have hke : k = n := by omega
        subst hke
        clear hlt2 hk
        go_wp2_with fail
        go_ret
        exact ⟨HF.out, by rw [HE.out, HLL.out]; exact ⟨_, rfl, by rw [HXL.out]; exact HO.out, HB.out, HM.out⟩⟩

theorem Try.infoQueue : (Try.prog.info? 72).map (fun i => (i.zero, i.size, i.bytes)) = some (some (.agg #[.string ⟨#[]⟩, .int .i64 0, .int .i64 0]), 3, 32) := by kernel_rfl

theorem elemQueue : ElemT 23 72 3 32 := elemT_of Try.underlying23 Try.infoQueue rfl (by omega)

theorem cells1_Queue (x : QueueD) : ∀ u ∈ x.cells, u.oneCell' = true := by
  simp [QueueD.cells, Value.oneCell']

set_option maxRecDepth 100000 in
set_option maxHeartbeats 4000000 in
theorem listQueue_any (s : ByteArray) (i R : Nat) (w : World) (hs : s.size ≤ 1000000) (hi : i ≤ s.size) (hR : RdBox w R s i) :
    Calls Try.prog 71 #[.pointer (some ⟨R, 0, none⟩), .func (.func 72) #[] #[]] w fun e w' => FrameT w.heap.size R w w' ∧ RdList R s w.heap.size 72 3 QueueD.cells (rMany s (rQueue s) i) e w' := by
  obtain ⟨res, hres⟩ : ∃ res, res = rMany s (rQueue s) i := ⟨_, rfl⟩
  rw [← hres]
  unfold rMany at hres
  have hlt := lt_of_heap hR
  have HN := hidI (number_any s i R w hs hi hR)
  have HRES := hidI hres
  have hf' : ∀ (args : Array Value) (w : World), Sem.run Try.prog (callFunc 72 args) w = .ok (.enter 72 args) w := fun _ _ => rfl
  clear hR hres
  go_enter Try.func71, Try.ntmps71
  go_wp2_with fail
  refine HN.out.mono ?_
  rintro e w1 ⟨hF, hr1⟩
  have HF1 := hidI hF
  cases hn1 : rNum s i with
  | none =>
    rw [hn1] at hr1
    have e2 : e = panE 1 := hr1
    subst e2
    exact ⟨rfl, HF1.out, by rw [HRES.out]; simp only [hn1]; rfl⟩
  | some q =>
    obtain ⟨n, j⟩ := q
    rw [hn1] at hr1
    obtain ⟨rfl, hb1, hj1⟩ := hr1
    have l1 := ((reads_num s).fwd _ _ _ hn1).2.2
    have HE : Hid (res = rList (rQueue s) j n) := by show res = _; rw [HRES.out]; simp only [hn1]
    have HB1 := hidI hb1
    have HJ1 := hidI hj1
    clear hn1 hb1 hF hj1 HN HRES
    go_wp2_with fail
    go_loopw [5, 8] (fun l i wr => ∃ (k m : Nat) (xs : List QueueD), k ≤ n ∧ i = .int .i64 k ∧ wr.ownsRow w.heap.size 72 3 l k (xs.flatMap QueueD.cells) ∧ rList (rQueue s) j k = some (xs, m) ∧ RdBox wr R s m ∧ m ≤ s.size ∧ FrameT w.heap.size R w wr) (fun _ i _ => n - (intOf i).toNat)
    case atStart => exact ⟨0, j, [], Nat.zero_le _, rfl, World.ownsRow_nil _ _ _ _, rfl, HB1.out, HJ1.out, HF1.out⟩
    case round =>
      obtain ⟨k, m, xs, hk, rfl, hown, hl, hb, hm, hF⟩ := hrel
      have HO := hidI hown
      have HLL := hidI hl
      have HF := hidI hF
      have hxl := rList_len hl
      have HXL := hidI hxl
      have hsz := hF.size
      have HC := hidI (queue_any s m R wr hs hm hb)
      have HB := hidI hb
      have HM := hidI hm
      clear hown hl hF hxl hb
      by_cases hlt2 : k < n
      · have HLT := hidI hlt2
        go_wp2_with fail
        refine HC.out.mono ?_
        rintro e w2 ⟨hF2, hr2⟩
        have HF2 := hidI hF2
        have hF3 : FrameT w.heap.size R w w2 := HF.out.trans ⟨hF2.os, hF2.tape, hF2.output, hF2.size, fun i h1 h2 => hF2.block i (by omega) h2⟩
        have HF3 := hidI hF3
        cases hn2 : rQueue s m with
        | none =>
          rw [hn2] at hr2
          have e2 : e = panE 1 := hr2
          subst e2
          exact ⟨rfl, HF3.out, by rw [HE.out, rList_stop HLL.out hn2 n HLT.out]; rfl⟩
        | some q =>
          obtain ⟨x, m2⟩ := q
          rw [hn2] at hr2
          obtain ⟨rfl, hb2, hj2⟩ := hr2
          have HL2 := hidI (rList_next HLL.out hn2)
          have HB2 := hidI hb2
          have HJ2 := hidI hj2
          have hO2 := row_keep HO.out (W' := w2) (fun g hg => hF2.block g (HO.out.lt g hg).2 (by have := (HO.out.lt g hg).1; omega))
          obtain ⟨W3, hW3⟩ : ∃ W3, W3 = w2.alloc (.cells #[.string x.name, .int .i64 x.limit, .int .i64 x.dead] 72) := ⟨_, rfl⟩
          have k3 : Below w2.heap.size w2 W3 := by rw [hW3]; exact (Below.refl _ _).alloc (Nat.le_refl _) _
          have hO3 := copied_two hO2 k3
          have HO3 := hidI hO3
          have HW3 := hidI hW3
          have K3 := hidI k3
          have HRW : Hid (RowAt W3 (some ⟨w2.heap.size, 0, none⟩) x.cells) := by show RowAt W3 _ _; rw [hW3]; exact row_new (cs := x.cells)
          have hs2 := hF3.size
          have hs3 := k3.size
          have hv : QueueD.val x = .agg #[.string x.name, .int .i64 x.limit, .int .i64 x.dead] := rfl
          rw [hv]
          clear hn2 hb2 hF2 hF3 hO2 hW3 k3 hO3 hv
          go_wp2_with (at_builtin; rw [← HW3.out]; refine append_row elemQueue (by kernel_rfl) _ _ rfl w.heap.size _ k (xs.flatMap QueueD.cells) rfl HO3.out (some ⟨w2.heap.size, 0, none⟩) 1 1 x.cells rfl rfl (fun h => by cases h) HRW.out (cells1_Queue x) (by unfold maxLen; omega) (by omega) (by omega) ?_; intro v6 w6 hown6 hgrow6 hblk6)
          go_roundw
          case rel =>
            refine ⟨k + 1, m2, xs ++ [x], HLT.out, by have := HLT.out; go_num, by rw [List.flatMap_append, List.flatMap_singleton]; exact hown6, HL2.out, ?_, HJ2.out, ?_⟩
            · exact (hgrow6.block R (by omega) (fun e => by have := HO3.out.lt R e.symm; omega)).trans (HB2.out.keep K3.out)
            · exact (HF3.out.trans (FrameT.of_below K3.out (by omega))).grown hgrow6 (by omega) (fun g hg => (HO3.out.lt g hg).1)
          case measure => have := HLT.out; simp [intOf]; omega
      · have hke : k = n := by omega
        subst hke
        clear hlt2 hk
        go_wp2_with fail
        go_ret
        exact ⟨HF.out, by rw [HE.out, HLL.out]; exact ⟨_, rfl, by rw [HXL.out]; exact HO.out, HB.out, HM.out⟩⟩

theorem Try.infoBind : (Try.prog.info? 77).map (fun i => (i.zero, i.size, i.bytes)) = some (some (.agg #[.int .i64 0, .bool false, .int .i64 0, .string ⟨#[]⟩]), 4, 40) := by kernel_rfl

theorem elemBind : ElemT 24 77 4 40 := elemT_of Try.underlying24 Try.infoBind rfl (by omega)

theorem cells1_Bind (x : BindD) : ∀ u ∈ x.cells, u.oneCell' = true := by
  simp [BindD.cells, Value.oneCell']

set_option maxRecDepth 100000 in
set_option maxHeartbeats 4000000 in
theorem listBind_any (s : ByteArray) (i R : Nat) (w : World) (hs : s.size ≤ 1000000) (hi : i ≤ s.size) (hR : RdBox w R s i) :
    Calls Try.prog 73 #[.pointer (some ⟨R, 0, none⟩), .func (.func 74) #[] #[]] w fun e w' => FrameT w.heap.size R w w' ∧ RdList R s w.heap.size 77 4 BindD.cells (rMany s (rBind s) i) e w' := by
  obtain ⟨res, hres⟩ : ∃ res, res = rMany s (rBind s) i := ⟨_, rfl⟩
  rw [← hres]
  unfold rMany at hres
  have hlt := lt_of_heap hR
  have HN := hidI (number_any s i R w hs hi hR)
  have HRES := hidI hres
  have hf' : ∀ (args : Array Value) (w : World), Sem.run Try.prog (callFunc 74 args) w = .ok (.enter 74 args) w := fun _ _ => rfl
  clear hR hres
  go_enter Try.func73, Try.ntmps73
  go_wp2_with fail
  refine HN.out.mono ?_
  rintro e w1 ⟨hF, hr1⟩
  have HF1 := hidI hF
  cases hn1 : rNum s i with
  | none =>
    rw [hn1] at hr1
    have e2 : e = panE 1 := hr1
    subst e2
    exact ⟨rfl, HF1.out, by rw [HRES.out]; simp only [hn1]; rfl⟩
  | some q =>
    obtain ⟨n, j⟩ := q
    rw [hn1] at hr1
    obtain ⟨rfl, hb1, hj1⟩ := hr1
    have l1 := ((reads_num s).fwd _ _ _ hn1).2.2
    have HE : Hid (res = rList (rBind s) j n) := by show res = _; rw [HRES.out]; simp only [hn1]
    have HB1 := hidI hb1
    have HJ1 := hidI hj1
    clear hn1 hb1 hF hj1 HN HRES
    go_wp2_with fail
    go_loopw [5, 8] (fun l i wr => ∃ (k m : Nat) (xs : List BindD), k ≤ n ∧ i = .int .i64 k ∧ wr.ownsRow w.heap.size 77 4 l k (xs.flatMap BindD.cells) ∧ rList (rBind s) j k = some (xs, m) ∧ RdBox wr R s m ∧ m ≤ s.size ∧ FrameT w.heap.size R w wr) (fun _ i _ => n - (intOf i).toNat)
    case atStart => exact ⟨0, j, [], Nat.zero_le _, rfl, World.ownsRow_nil _ _ _ _, rfl, HB1.out, HJ1.out, HF1.out⟩
    case round =>
      obtain ⟨k, m, xs, hk, rfl, hown, hl, hb, hm, hF⟩ := hrel
      have HO := hidI hown
      have HLL := hidI hl
      have HF := hidI hF
      have hxl := rList_len hl
      have HXL := hidI hxl
      have hsz := hF.size
      have HC := hidI (bind_any s m R wr hs hm hb)
      have HB := hidI hb
      have HM := hidI hm
      clear hown hl hF hxl hb
      by_cases hlt2 : k < n
      · have HLT := hidI hlt2
        go_wp2_with fail
        refine HC.out.mono ?_
        rintro e w2 ⟨hF2, hr2⟩
        have HF2 := hidI hF2
        have hF3 : FrameT w.heap.size R w w2 := HF.out.trans ⟨hF2.os, hF2.tape, hF2.output, hF2.size, fun i h1 h2 => hF2.block i (by omega) h2⟩
        have HF3 := hidI hF3
        cases hn2 : rBind s m with
        | none =>
          rw [hn2] at hr2
          have e2 : e = panE 1 := hr2
          subst e2
          exact ⟨rfl, HF3.out, by rw [HE.out, rList_stop HLL.out hn2 n HLT.out]; rfl⟩
        | some q =>
          obtain ⟨x, m2⟩ := q
          rw [hn2] at hr2
          obtain ⟨rfl, hb2, hj2⟩ := hr2
          have HL2 := hidI (rList_next HLL.out hn2)
          have HB2 := hidI hb2
          have HJ2 := hidI hj2
          have hO2 := row_keep HO.out (W' := w2) (fun g hg => hF2.block g (HO.out.lt g hg).2 (by have := (HO.out.lt g hg).1; omega))
          obtain ⟨W3, hW3⟩ : ∃ W3, W3 = w2.alloc (.cells #[.int .i64 x.src, .bool x.toPost, .int .i64 x.dst, .string x.pat] 77) := ⟨_, rfl⟩
          have k3 : Below w2.heap.size w2 W3 := by rw [hW3]; exact (Below.refl _ _).alloc (Nat.le_refl _) _
          have hO3 := copied_two hO2 k3
          have HO3 := hidI hO3
          have HW3 := hidI hW3
          have K3 := hidI k3
          have HRW : Hid (RowAt W3 (some ⟨w2.heap.size, 0, none⟩) x.cells) := by show RowAt W3 _ _; rw [hW3]; exact row_new (cs := x.cells)
          have hs2 := hF3.size
          have hs3 := k3.size
          have hv : BindD.val x = .agg #[.int .i64 x.src, .bool x.toPost, .int .i64 x.dst, .string x.pat] := rfl
          rw [hv]
          clear hn2 hb2 hF2 hF3 hO2 hW3 k3 hO3 hv
          go_wp2_with (at_builtin; rw [← HW3.out]; refine append_row elemBind (by kernel_rfl) _ _ rfl w.heap.size _ k (xs.flatMap BindD.cells) rfl HO3.out (some ⟨w2.heap.size, 0, none⟩) 1 1 x.cells rfl rfl (fun h => by cases h) HRW.out (cells1_Bind x) (by unfold maxLen; omega) (by omega) (by omega) ?_; intro v6 w6 hown6 hgrow6 hblk6)
          go_roundw
          case rel =>
            refine ⟨k + 1, m2, xs ++ [x], HLT.out, by have := HLT.out; go_num, by rw [List.flatMap_append, List.flatMap_singleton]; exact hown6, HL2.out, ?_, HJ2.out, ?_⟩
            · exact (hgrow6.block R (by omega) (fun e => by have := HO3.out.lt R e.symm; omega)).trans (HB2.out.keep K3.out)
            · exact (HF3.out.trans (FrameT.of_below K3.out (by omega))).grown hgrow6 (by omega) (fun g hg => (HO3.out.lt g hg).1)
          case measure => have := HLT.out; simp [intOf]; omega
      · have hke : k = n := by omega
        subst hke
        clear hlt2 hk
        go_wp2_with fail
        go_ret
        exact ⟨HF.out, by rw [HE.out, HLL.out]; exact ⟨_, rfl, by rw [HXL.out]; exact HO.out, HB.out, HM.out⟩⟩


set_option maxRecDepth 100000 in
set_option maxHeartbeats 2000000 in
theorem end_any (s : ByteArray) (i R : Nat) (w : World) (hR : RdBox w R s i) :
    Calls Try.prog 75 #[.pointer (some ⟨R, 0, none⟩)] w fun e w' => e = askE (if i = s.size then 0 else 1) ∧ Below w.heap.size w w' := by
  have HR := hidI hR
  have hlt := lt_of_heap hR
  obtain ⟨L, hL⟩ : ∃ L, L = s.size := ⟨_, rfl⟩
  have HL := hidI hL
  rw [← hL]
  obtain ⟨E, hE⟩ : ∃ E : Int, E = if i = L then 0 else 1 := ⟨_, rfl⟩
  rw [← hE]
  have HE := hidI hE
  have HC : Hid (∀ W', Below w.heap.size w W' → (W'.cell? ⟨R, 0, none⟩ = some (.string s) ∧ W'.cell? ⟨R, 1, none⟩ = some (.int .i64 i))) := fun W' h => (HR.out.keep h).cells
  clear hR hL hE
  go_enter Try.func75, Try.ntmps75
  go_wp2_with fail
  refine wp_region_held_drew (S := fun W' => W'.cell? ⟨R, 0, none⟩ = some (.string s) ∧ W'.cell? ⟨R, 1, none⟩ = some (.int .i64 i)) (by kernel_rfl) (HC.out _ (Below.refl _ _).drew) (fun hHeld => ?_)
  (refine wpAnyH_take (i := 0) (v := ?_) rfl (by kernel_rfl) (by kernel_rfl) (by kernel_rfl) (fun _ _ _ h => h) (Or.inl ⟨by kernel_rfl, ?_⟩) (by assumption) ?_; rotate_left; (focus (intro w hSw; (try dsimp only at hSw); go_simp; (try with_reducible rfl))); (try simp only [Act.put, List.getElem_toArray, List.getElem_cons_zero, List.setIfInBounds_toArray, List.set_cons_zero, List.set_cons_succ]))
  (refine wpAnyH_take (i := 1) (v := ?_) rfl (by kernel_rfl) (by kernel_rfl) (by kernel_rfl) (fun _ _ _ h => h) (Or.inl ⟨by kernel_rfl, ?_⟩) (by assumption) ?_; rotate_left; (focus (intro w hSw; (try dsimp only at hSw); go_simp; (try with_reducible rfl))); (try simp only [Act.put, List.getElem_toArray, List.getElem_cons_succ, List.getElem_cons_zero, List.setIfInBounds_toArray, List.set_cons_zero, List.set_cons_succ]))
  (refine wpAnyH_take (i := 2) (v := ?_) rfl (by kernel_rfl) (by kernel_rfl) (by kernel_rfl) (fun _ _ _ h => h) (Or.inl ⟨by kernel_rfl, ?_⟩) (by assumption) ?_; rotate_left; (focus (intro w hSw; (try dsimp only at hSw); go_simp; (try with_reducible rfl))); (try simp only [Act.put, List.getElem_toArray, List.getElem_cons_succ, List.getElem_cons_zero, List.setIfInBounds_toArray, List.set_cons_zero, List.set_cons_succ]))
  (refine wpAnyH_take (i := 3) (v := ?_) rfl (by kernel_rfl) (by kernel_rfl) (by kernel_rfl) (fun _ _ _ h => h) (Or.inl ⟨by kernel_rfl, ?_⟩) (by assumption) ?_; rotate_left; (focus (intro w hSw; (try dsimp only at hSw); go_simp; (try with_reducible rfl))); (try simp only [Act.put, List.getElem_toArray, List.getElem_cons_succ, List.getElem_cons_zero, List.setIfInBounds_toArray, List.set_cons_zero, List.set_cons_succ]))
  (refine wpAnyH_take (i := 4) (v := ?_) rfl (by kernel_rfl) (by kernel_rfl) (by kernel_rfl) (fun _ _ _ h => h) (Or.inl ⟨by kernel_rfl, ?_⟩) (by assumption) ?_; rotate_left; (focus (intro w hSw; (try dsimp only at hSw); go_simp; (try with_reducible rfl))); (try simp only [Act.put, List.getElem_toArray, List.getElem_cons_succ, List.getElem_cons_zero, List.setIfInBounds_toArray, List.set_cons_zero, List.set_cons_succ]))
  (refine wpAnyH_take (i := 5) (v := ?_) rfl (by kernel_rfl) (by kernel_rfl) (by kernel_rfl) (fun _ _ _ h => h) (Or.inl ⟨by kernel_rfl, ?_⟩) (by assumption) ?_; rotate_left; (focus (intro w hSw; (try dsimp only at hSw); go_simp; (try with_reducible rfl))); (try simp only [Act.put, List.getElem_toArray, List.getElem_cons_succ, List.getElem_cons_zero, List.setIfInBounds_toArray, List.set_cons_zero, List.set_cons_succ]))
  (refine wpAnyH_take (i := 6) (v := ?_) rfl (by kernel_rfl) (by kernel_rfl) (by kernel_rfl) (fun _ _ _ h => h) (Or.inl ⟨by kernel_rfl, ?_⟩) (by assumption) ?_; rotate_left; (focus (intro w hSw; (try dsimp only at hSw); go_simp; (try with_reducible rfl))); (try simp only [Act.put, List.getElem_toArray, List.getElem_cons_succ, List.getElem_cons_zero, List.setIfInBounds_toArray, List.set_cons_zero, List.set_cons_succ]))
  (refine wpAnyH_take (i := 7) (v := ?_) rfl (by kernel_rfl) (by kernel_rfl) (by kernel_rfl) (fun _ _ _ h => h) (Or.inl ⟨by kernel_rfl, ?_⟩) (by assumption) ?_; rotate_left; (focus (intro w hSw; (try dsimp only at hSw); go_simp; (try with_reducible rfl))); (try simp only [Act.put, List.getElem_toArray, List.getElem_cons_succ, List.getElem_cons_zero, List.setIfInBounds_toArray, List.set_cons_zero, List.set_cons_succ]))
  (refine wpAnyH_take (i := 8) (v := ?_) rfl (by kernel_rfl) (by kernel_rfl) (by kernel_rfl) (fun _ _ _ h => h) (Or.inl ⟨by kernel_rfl, ?_⟩) (by assumption) ?_; rotate_left; (focus (intro w hSw; (try dsimp only at hSw); go_simp; (try with_reducible rfl))); (try simp only [Act.put, List.getElem_toArray, List.getElem_cons_succ, List.getElem_cons_zero, List.setIfInBounds_toArray, List.set_cons_zero, List.set_cons_succ]))
  rw [← HL.out]
  (refine wpAnyH_take (i := 9) (v := ?_) rfl (by kernel_rfl) (by kernel_rfl) (by kernel_rfl) (fun _ _ _ h => h) (Or.inl ⟨by kernel_rfl, ?_⟩) (by assumption) ?_; rotate_left; (focus (intro w hSw; (try dsimp only at hSw); go_simp; (try with_reducible rfl))); (try simp only [Act.put, List.getElem_toArray, List.getElem_cons_succ, List.getElem_cons_zero, List.setIfInBounds_toArray, List.set_cons_zero, List.set_cons_succ]))
  refine wpAnyH_ready (rs := [10]) (by kernel_rfl) (by simp) ?_
  refine AllReadyH.cons rfl (fun K hK => ?_) AllReadyH.nil
  go_simp
  refine hK.out _ _ (HC.out _ (by repeat (first | exact Below.refl _ _ | assumption | refine Below.drew ?_ | refine Below.alloc ?_ (by first | (simp; done) | (simp; omega) | omega) _ | refine Below.setCell ?_ (by first | (simp; done) | (simp; omega) | omega) _))) (fun hH1 => ?_)
  clear hK K hHeld
  (try simp only [Act.put, List.getElem_toArray, List.getElem_cons_succ, List.getElem_cons_zero, List.setIfInBounds_toArray, List.set_cons_zero, List.set_cons_succ])
  refine wpAnyH_ready (rs := [11]) (by kernel_rfl) (by simp) ?_
  refine AllReadyH.cons rfl (fun K hK => ?_) AllReadyH.nil
  go_simp
  have hk0 : Below w.heap.size w (w.alloc (Obj.cells #[Value.bool ((i : Int) != (L : Int))] 4)).drew := (by repeat (first | exact Below.refl _ _ | assumption | refine Below.drew ?_ | refine Below.alloc ?_ (by first | (simp; done) | (simp; omega) | omega) _ | refine Below.setCell ?_ (by first | (simp; done) | (simp; omega) | omega) _))
  have hbn : IsBools (w.alloc (Obj.cells #[Value.bool ((i : Int) != (L : Int))] 4)).drew w.heap.size 0 [((i : Int) != (L : Int))] := bools_new w [((i : Int) != (L : Int))]
  by_cases hc : i = L
  · have hb : ((i : Int) != (L : Int)) = false := by rw [hc]; simp
    refine (never_no 1 [((i : Int) != (L : Int))] _ _ (by simp) hbn (by simp [hb])).mono ?_
    rintro e w3 ⟨rfl, hw3⟩
    have k3 : Below w.heap.size w w3 := by rw [hw3]; exact hk0
    have K3 := hidI k3
    have HE0 : Hid (E = 0) := by show E = 0; rw [HE.out, if_pos hc]
    refine hK.out _ _ (HC.out _ k3) (fun hH2 => ?_)
    clear hK K hH1 hw3 hbn hk0 k3 hc hb
    (try simp only [Act.put, List.getElem_toArray, List.getElem_cons_succ, List.getElem_cons_zero, List.setIfInBounds_toArray, List.set_cons_zero, List.set_cons_succ])
    refine wpAnyH_done (by kernel_rfl) ?_ _
    clear hH2
    go_wp2_with fail
    go_end0
    exact ⟨by rw [HE0.out]; rfl, K3.out⟩
  · have hb : ((i : Int) != (L : Int)) = true := by rw [bne_iff_ne]; omega
    refine (never_yes 1 [((i : Int) != (L : Int))] _ _ (by simp) hbn (by simp [hb])).mono ?_
    rintro e w3 ⟨rfl, rfl⟩
    exact ⟨rfl, by rw [HE.out, if_neg hc]; rfl, hk0⟩

end Go.Proofs.Ytpoichgodamnkaa

/- Wh -/
namespace Go.Proofs.Ytpoichgodamnkaa
set_option linter.unusedVariables false
set_option maxRecDepth 100000
open Go.RowKit Go.Maps

theorem posts_row {W : World} {a : Option Addr} {xs : List PostD} : PostsAt W a xs ↔ RowAt W a (xs.flatMap PostD.cells) := by
  constructor
  · intro h
    refine row_of (k := 2) (by omega) (fun _ => rfl) ?_
    rcases h with h | ⟨g, o, ha, hg, h⟩
    · exact .inl h
    · refine .inr ⟨g, o, ha, hg, fun i hi j hj => ?_⟩
      match j, hj with
      | 0, _ => exact (h i hi).1
      | 1, _ => exact (h i hi).2
  · intro h
    rcases RowAt.get (k := 2) (fun _ => rfl) h (by omega) with h | ⟨g, o, ha, hg, h⟩
    · exact .inl h
    · exact .inr ⟨g, o, ha, hg, fun i hi => ⟨h i hi 0 (by omega), h i hi 1 (by omega)⟩⟩
theorem queues_row {W : World} {a : Option Addr} {xs : List QueueD} : QueuesAt W a xs ↔ RowAt W a (xs.flatMap QueueD.cells) := by
  constructor
  · intro h
    refine row_of (k := 3) (by omega) (fun _ => rfl) ?_
    rcases h with h | ⟨g, o, ha, hg, h⟩
    · exact .inl h
    · refine .inr ⟨g, o, ha, hg, fun i hi j hj => ?_⟩
      match j, hj with
      | 0, _ => exact (h i hi).1
      | 1, _ => exact (h i hi).2.1
      | 2, _ => exact (h i hi).2.2
  · intro h
    rcases RowAt.get (k := 3) (fun _ => rfl) h (by omega) with h | ⟨g, o, ha, hg, h⟩
    · exact .inl h
    · exact .inr ⟨g, o, ha, hg, fun i hi => ⟨h i hi 0 (by omega), h i hi 1 (by omega), h i hi 2 (by omega)⟩⟩
theorem binds_row {W : World} {a : Option Addr} {xs : List BindD} : BindsAt W a xs ↔ RowAt W a (xs.flatMap BindD.cells) := by
  constructor
  · intro h
    refine row_of (k := 4) (by omega) (fun _ => rfl) ?_
    rcases h with h | ⟨g, o, ha, hg, h⟩
    · exact .inl h
    · refine .inr ⟨g, o, ha, hg, fun i hi j hj => ?_⟩
      match j, hj with
      | 0, _ => exact (h i hi).1
      | 1, _ => exact (h i hi).2.1
      | 2, _ => exact (h i hi).2.2.1
      | 3, _ => exact (h i hi).2.2.2
  · intro h
    rcases RowAt.get (k := 4) (fun _ => rfl) h (by omega) with h | ⟨g, o, ha, hg, h⟩
    · exact .inl h
    · exact .inr ⟨g, o, ha, hg, fun i hi => ⟨h i hi 0 (by omega), h i hi 1 (by omega), h i hi 2 (by omega), h i hi 3 (by omega)⟩⟩
theorem many_small {α : Type} {s : ByteArray} {one : Nat → Option (α × Nat)} {enc : α → List UInt8} {ok : α → Prop} (R : Reads s one enc ok) {i j : Nat} {l : List α} (h : rMany s one i = some (l, j)) : l.length < 256 ∧ ∀ x ∈ l, ok x := ((reads_many R).fwd _ _ _ h).2.2

set_option maxHeartbeats 400000 in
theorem from_any (s : ByteArray) (w : World) : Calls Try.prog 68 #[.string s] w fun e w' => e = .returned (.pointer (some ⟨w.heap.size, 0, none⟩)) ∧ RdBox w' w.heap.size s 0 ∧ Below w.heap.size w w' := by
  go_enter Try.func68, Try.ntmps68
  go_wp2_with fail
  go_ret
  exact ⟨rfl, World.alloc_heap_new w _, (Below.refl _ _).alloc (Nat.le_refl _) _⟩

theorem row_frame {W W' : World} {base R : Nat} {T : TypeId} {size : Nat} {v : Value} {n : Nat} {cs : List Value} (h : W.ownsRow base T size v n cs) (hF : FrameT W.heap.size R W W') (hR : R < base) : W'.ownsRow base T size v n cs :=
  row_keep h (fun g hg => hF.block g (h.lt g hg).2 (by have := (h.lt g hg).1; omega))
theorem row_turn {W W' : World} {base R : Nat} {T : TypeId} {size : Nat} {v : Value} {n : Nat} {cs : List Value} (h : W.ownsRow base T size v n cs) (hF : TurnB R W W') (hR : R < base) : W'.ownsRow base T size v n cs :=
  row_keep h (fun g hg => hF.block g (h.lt g hg).2 (by have := (h.lt g hg).1; omega))
theorem FrameT.turn {n t : Nat} {A B C : World} (h : FrameT n t A B) (k : TurnB t B C) (hn : n ≤ B.heap.size) : FrameT n t A C := h.trans ⟨k.os, k.tape, k.output, k.size, fun i h1 h2 => k.block i (by omega) h2⟩
/-- A plan in memory of one's own. -/
structure OwnP (W : World) (n : Nat) (a1 a2 a3 : Option Addr) (n1 c1 n2 c2 n3 c3 : Nat) (p : PlanD) : Prop where
  l1 : p.posts.length = n1
  l2 : p.queues.length = n2
  l3 : p.binds.length = n3
  sz : Sized p
  r1 : W.ownsRow n 70 2 (.slice a1 n1 c1) n1 (p.posts.flatMap PostD.cells)
  r2 : W.ownsRow n 72 3 (.slice a2 n2 c2) n2 (p.queues.flatMap QueueD.cells)
  r3 : W.ownsRow n 77 4 (.slice a3 n3 c3) n3 (p.binds.flatMap BindD.cells)
theorem OwnP.plan {W : World} {n : Nat} {a1 a2 a3 : Option Addr} {n1 c1 n2 c2 n3 c3 : Nat} {p : PlanD} (h : OwnP W n a1 a2 a3 n1 c1 n2 c2 n3 c3 p) : PlanAt W a1 a2 a3 n1 n2 n3 p := ⟨h.l1, h.l2, h.l3, h.sz, posts_row.2 (own_at h.r1), queues_row.2 (own_at h.r2), binds_row.2 (own_at h.r3)⟩
theorem OwnP.turn {W W' : World} {n R : Nat} {a1 a2 a3 : Option Addr} {n1 c1 n2 c2 n3 c3 : Nat} {p : PlanD} (h : OwnP W n a1 a2 a3 n1 c1 n2 c2 n3 c3 p) (hF : TurnB R W W') (hR : R < n) : OwnP W' n a1 a2 a3 n1 c1 n2 c2 n3 c3 p := ⟨h.l1, h.l2, h.l3, h.sz, row_turn h.r1 hF hR, row_turn h.r2 hF hR, row_turn h.r3 hF hR⟩
theorem OwnP.keep {W W' : World} {n : Nat} {a1 a2 a3 : Option Addr} {n1 c1 n2 c2 n3 c3 : Nat} {p : PlanD} (h : OwnP W n a1 a2 a3 n1 c1 n2 c2 n3 c3 p) (hB : Below W.heap.size W W') : OwnP W' n a1 a2 a3 n1 c1 n2 c2 n3 c3 p := ⟨h.l1, h.l2, h.l3, h.sz, copied_two h.r1 hB, copied_two h.r2 hB, copied_two h.r3 hB⟩
/-- What Read's closure leaves. -/
def RdPlan (n Bp : Nat) (res : Option PlanD) (e : Ending) (W : World) : Prop :=
  match res with
  | none => e = panE 1
  | some p => e = okE ∧ ∃ a1 a2 a3 n1 c1 n2 c2 n3 c3, W.heap[Bp]? = some (.cells #[.slice a1 n1 c1, .slice a2 n2 c2, .slice a3 n3 c3] 26 (0, 0)) ∧ OwnP W n a1 a2 a3 n1 c1 n2 c2 n3 c3 p

set_option maxRecDepth 100000 in
set_option maxHeartbeats 4000000 in
theorem read1_any (s : ByteArray) (Bs Bp : Nat) (w : World) (hs : s.size ≤ 1000000) (x0 : w.heap[Bs]? = some (.cells #[.string s] 9 (0, 0))) (x1 : w.heap[Bp]? = some (.cells #[.slice none 0 0, .slice none 0 0, .slice none 0 0] 26 (0, 0))) :
    Calls Try.prog 67 #[.pointer (some ⟨Bs, 0, none⟩), .pointer (some ⟨Bp, 0, none⟩)] w fun e w' => FrameT w.heap.size Bp w w' ∧ RdPlan w.heap.size Bp (planOf s) e w' := by
  obtain ⟨res, hres⟩ : ∃ res, res = planOf s := ⟨_, rfl⟩
  rw [← hres]
  unfold planOf rPlan at hres
  have HRES := hidI hres
  have c0 := cell_of_cells x0 0
  simp at c0
  have X1 := hidI x1
  have hlp := lt_of_heap x1
  clear hres x0 x1
  go_enter Try.func67, Try.ntmps67
  go_wp2_with fail
  refine (from_any s w).mono ?_
  rintro e w1 ⟨rfl, hb1, k1⟩
  obtain ⟨R, hR⟩ : ∃ R, R = w.heap.size := ⟨_, rfl⟩
  rw [← hR] at hb1 ⊢
  have hR1 := lt_of_heap hb1
  have hBp1 : Bp < w1.heap.size := by have := k1.size; omega
  have HL1 := hidI (listPost_any s 0 R w1 hs (Nat.zero_le _) hb1)
  have K1 := hidI k1
  have HR := hidI hR
  clear hb1 k1 hR
  go_wp2_with fail
  refine HL1.out.mono ?_
  rintro e w2 ⟨hF2, hr2⟩
  have HF2 := hidI hF2
  have s2 := hF2.size
  have F2 : Hid (FrameT w.heap.size Bp w w2) := (FrameT.of_below K1.out (Nat.le_refl _)).trans ⟨hF2.os, hF2.tape, hF2.output, hF2.size, fun k h1 h2 => hF2.block k (by have := K1.out.size; omega) (by have := HR.out; omega)⟩
  cases hm1 : rMany s (rPost s) 0 with
  | none =>
    rw [hm1] at hr2
    have e2 : e = panE 1 := hr2
    subst e2
    exact ⟨rfl, F2.out, by rw [HRES.out]; simp only [hm1]; rfl⟩
  | some q =>
    obtain ⟨A, i1⟩ := q
    rw [hm1] at hr2
    obtain ⟨v1, rfl, hO1, hb2, hi1⟩ := hr2
    have hbp2 : w2.heap[Bp]? = _ := (hF2.block Bp (by have := K1.out.size; omega) (by have := HR.out; omega)).trans (plan_keep X1.out K1.out)
    have c1 := cell_of_cells hbp2 0
    have f1 := free_of_cells hbp2 0
    simp at c1
    have HBP2 := hidI hbp2
    have HO1 := hidI hO1
    have HB2 := hidI hb2
    obtain ⟨a1, d1, rfl, -⟩ := own_row hO1
    clear hbp2 hO1 hb2 hF2 HL1
    go_wp2_with fail
    obtain ⟨W2, hW2⟩ : ∃ W2, W2 = w2.setCell ⟨Bp, 0, none⟩ (.slice a1 A.length d1) := ⟨_, rfl⟩
    rw [← hW2]
    have t2 : TurnB Bp w2 W2 := by rw [hW2]; exact setCell_turnB _ _ _ _
    have bp2 : W2.heap[Bp]? = some (.cells #[.slice a1 A.length d1, .slice none 0 0, .slice none 0 0] 26 (0, 0)) := by rw [hW2]; exact setCell_block HBP2.out (j := 0) _
    have b2 : RdBox W2 R s i1 := (t2.block R (lt_of_heap HB2.out) (by have := HR.out; omega)).trans HB2.out
    have g2 : FrameT w.heap.size Bp w W2 := F2.out.turn t2 F2.out.size
    have O1 := hidI (row_turn HO1.out t2 (by have := K1.out.size; omega))
    have G2 := hidI g2
    have BP2 := hidI bp2
    have HL2 := hidI (listQueue_any s i1 R W2 hs hi1 b2)
    have hs2 : w.heap.size < W2.heap.size := by have := t2.size; have := K1.out.size; have := HR.out; omega
    have hs2' : w1.heap.size ≤ W2.heap.size := by have := t2.size; omega
    clear hW2 t2 bp2 b2 g2 c0 c1 f1
    refine HL2.out.mono ?_
    rintro e w3 ⟨hF3, hr3⟩
    have s3 := hF3.size
    have F3 : Hid (FrameT w.heap.size Bp w w3) := G2.out.trans ⟨hF3.os, hF3.tape, hF3.output, hF3.size, fun k h1 h2 => hF3.block k (by omega) (by have := HR.out; omega)⟩
    cases hm2 : rMany s (rQueue s) i1 with
    | none =>
      rw [hm2] at hr3
      have e2 : e = panE 1 := hr3
      subst e2
      exact ⟨rfl, F3.out, by rw [HRES.out]; simp only [hm1, hm2]; rfl⟩
    | some q =>
      obtain ⟨B, i2⟩ := q
      rw [hm2] at hr3
      obtain ⟨v2, rfl, hO2, hb3, hi2⟩ := hr3
      have hbp3 : w3.heap[Bp]? = _ := (hF3.block Bp (by omega) (by have := HR.out; omega)).trans BP2.out
      have c1 := cell_of_cells hbp3 1
      have f1 := free_of_cells hbp3 1
      simp at c1
      have HBP3 := hidI hbp3
      have HO2 := hidI hO2
      have HB3 := hidI hb3
      have P1 := hidI (row_frame O1.out hF3 hR1)
      obtain ⟨a2, d2, rfl, -⟩ := own_row hO2
      clear hbp3 hO2 hb3 hF3 HL2
      go_wp2_with fail
      obtain ⟨W3, hW3⟩ : ∃ W3, W3 = w3.setCell ⟨Bp, 1, none⟩ (.slice a2 B.length d2) := ⟨_, rfl⟩
      rw [← hW3]
      have t3 : TurnB Bp w3 W3 := by rw [hW3]; exact setCell_turnB _ _ _ _
      have bp3 : W3.heap[Bp]? = some (.cells #[.slice a1 A.length d1, .slice a2 B.length d2, .slice none 0 0] 26 (0, 0)) := by rw [hW3]; exact setCell_block HBP3.out (j := 1) _
      have b3 : RdBox W3 R s i2 := (t3.block R (lt_of_heap HB3.out) (by have := HR.out; omega)).trans HB3.out
      have g3 : FrameT w.heap.size Bp w W3 := F3.out.turn t3 F3.out.size
      have O1' := hidI (row_turn P1.out t3 (by omega))
      have O2 := hidI (row_turn HO2.out t3 (by omega))
      have G3 := hidI g3
      have BP3 := hidI bp3
      have HL3 := hidI (listBind_any s i2 R W3 hs hi2 b3)
      have hs3 : W2.heap.size ≤ W3.heap.size := by have := t3.size; omega
      clear hW3 t3 bp3 b3 g3 c1 f1
      refine HL3.out.mono ?_
      rintro e w4 ⟨hF4, hr4⟩
      have s4 := hF4.size
      have F4 : Hid (FrameT w.heap.size Bp w w4) := G3.out.trans ⟨hF4.os, hF4.tape, hF4.output, hF4.size, fun k h1 h2 => hF4.block k (by omega) (by have := HR.out; omega)⟩
      cases hm3 : rMany s (rBind s) i2 with
      | none =>
        rw [hm3] at hr4
        have e2 : e = panE 1 := hr4
        subst e2
        exact ⟨rfl, F4.out, by rw [HRES.out]; simp only [hm1, hm2, hm3]; rfl⟩
      | some q =>
        obtain ⟨C, i3⟩ := q
        rw [hm3] at hr4
        obtain ⟨v3, rfl, hO3, hb4, hi3⟩ := hr4
        have hbp4 : w4.heap[Bp]? = _ := (hF4.block Bp (by omega) (by have := HR.out; omega)).trans BP3.out
        have c1 := cell_of_cells hbp4 2
        have f1 := free_of_cells hbp4 2
        simp at c1
        have HBP4 := hidI hbp4
        have HO3 := hidI hO3
        have HB4 := hidI hb4
        have P1' := hidI (row_frame O1'.out hF4 hR1)
        have P2 := hidI (row_frame O2.out hF4 (by omega))
        obtain ⟨a3, d3, rfl, -⟩ := own_row hO3
        clear hbp4 hO3 hb4 hF4 HL3
        go_wp2_with fail
        obtain ⟨W4, hW4⟩ : ∃ W4, W4 = w4.setCell ⟨Bp, 2, none⟩ (.slice a3 C.length d3) := ⟨_, rfl⟩
        rw [← hW4]
        have t4 : TurnB Bp w4 W4 := by rw [hW4]; exact setCell_turnB _ _ _ _
        have bp4 : W4.heap[Bp]? = some (.cells #[.slice a1 A.length d1, .slice a2 B.length d2, .slice a3 C.length d3] 26 (0, 0)) := by rw [hW4]; exact setCell_block HBP4.out (j := 2) _
        have b4 : RdBox W4 R s i3 := (t4.block R (lt_of_heap HB4.out) (by have := HR.out; omega)).trans HB4.out
        have g4 : FrameT w.heap.size Bp w W4 := F4.out.turn t4 F4.out.size
        have q1 := own_base (row_turn P1'.out t4 (by omega)) (show w.heap.size ≤ _ by have := K1.out.size; omega)
        have q2 := own_base (row_turn P2.out t4 (by omega)) (show w.heap.size ≤ _ by omega)
        have q3 := own_base (row_turn HO3.out t4 (by omega)) (show w.heap.size ≤ _ by omega)
        have hp4 : OwnP W4 w.heap.size a1 a2 a3 A.length d1 B.length d2 C.length d3 ⟨A, B, C⟩ := ⟨rfl, rfl, rfl, ⟨fun x hx => by
          obtain ⟨y, hy, rfl⟩ := List.mem_map.1 hx
          have := ((many_small (reads_post s) hm1).2 y hy).1
          unfold maxLen; omega, fun x hx => by
          obtain ⟨y, hy, rfl⟩ := List.mem_map.1 hx
          have := ((many_small (reads_queue s) hm2).2 y hy).1
          unfold maxLen; omega⟩, q1, q2, q3⟩
        have G4 := hidI g4
        have BP4 := hidI bp4
        have HP4 := hidI hp4
        have hs4 : W3.heap.size ≤ W4.heap.size := by have := t4.size; omega
        have HR3 : Hid ((i3 = s.size → res = if chkP ⟨A, B, C⟩ = 0 then some (⟨A, B, C⟩ : PlanD) else none) ∧ (i3 ≠ s.size → res = none)) := by
          constructor
          · intro h
            rw [HRES.out]; simp only [hm1, hm2, hm3]; rw [if_pos h]
          · intro h
            rw [HRES.out]; simp only [hm1, hm2, hm3]; rw [if_neg h]
        have HEN := hidI (end_any s i3 R W4 b4)
        clear hW4 t4 bp4 b4 g4 c1 f1 q1 q2 q3 hp4 HRES hm1 hm2 hm3
        refine HEN.out.mono ?_
        rintro e w5 ⟨rfl, k5⟩
        by_cases hend : i3 = s.size
        · rw [if_pos hend, askE_ok]
          have HR4 := hidI (HR3.out.1 hend)
          unfold okE
          have g5 : FrameT w.heap.size Bp w w5 := G4.out.trans (FrameT.of_below k5 (by omega))
          have hp5 := HP4.out.keep k5
          have bp5 := plan_keep BP4.out k5
          have G5 := hidI g5
          have HP5 := hidI hp5
          have BP5 := hidI bp5
          obtain ⟨y0, y1, y2⟩ := pl_cells bp5
          have hs5 := k5.size
          clear k5 g5 hp5 bp5
          go_wp2_with fail
          refine (check_any ⟨A, B, C⟩ a1 a2 a3 A.length d1 B.length d2 C.length d3 w5 rfl rfl rfl HP5.out.sz HP5.out.plan.p1 HP5.out.plan.p2 HP5.out.plan.p3).mono ?_
          rintro e w6 ⟨rfl, k6⟩
          obtain ⟨E, hE⟩ : ∃ E, E = chkP ⟨A, B, C⟩ := ⟨_, rfl⟩
          rw [← hE] at HR4 ⊢
          have K6 := hidI k6
          clear hE
          go_wp2_with fail
          have hs6 := K6.out.size
          have k6' := K6.out.alloc hs6 (.cells #[.bool (E != 0)] 4)
          have hbn : IsBools (w6.alloc (Obj.cells #[Value.bool (E != 0)] 4)) w6.heap.size 0 [(E != 0)] := bools_new w6 [(E != 0)]
          by_cases hz : E = 0
          · subst hz
            refine (never_no 1 [((0 : Int) != 0)] _ _ (by simp) hbn (by simp)).mono ?_
            rintro e w7 ⟨rfl, hw7⟩
            have k7 : Below w5.heap.size w5 w7 := by rw [hw7]; exact k6'
            clear hw7 hbn k6'
            go_wp2_with fail
            go_end0
            refine ⟨G5.out.trans (FrameT.of_below k7 (by omega)), ?_⟩
            rw [HR4.out, if_pos trivial]
            exact ⟨rfl, a1, a2, a3, _, d1, _, d2, _, d3, plan_keep BP5.out k7, HP5.out.keep k7⟩
          · refine (never_yes 1 [(E != 0)] _ _ (by simp) hbn (by simp [hz])).mono ?_
            rintro e w7 ⟨rfl, rfl⟩
            exact ⟨rfl, G5.out.trans (FrameT.of_below k6' (by omega)), by rw [HR4.out, if_neg hz]; rfl⟩
        · rw [if_neg hend, askE_pan (by decide)]
          exact ⟨rfl, G4.out.trans (FrameT.of_below k5 (by omega)), by rw [HR3.out.2 hend]; rfl⟩

end Go.Proofs.Ytpoichgodamnkaa
