import Derived.Test.YtpoichgodamnkaaXa
import Derived.Test.YtpoichgodamnkaaTo
import Derived.Maps.AppendAt
import Derived.Test.YtpoichgodamnkaaTb
import Derived.Test.YtpoichgodamnkaaTc
import Derived.Test.YtpoichgodamnkaaTk
import Derived.Deep.RegionWith
import Derived.Test.YtpoichgodamnkaaTl
/- Pl -/
namespace Go.Proofs.Ytpoichgodamnkaa
set_option linter.unusedVariables false
set_option maxRecDepth 100000

theorem lineFrom_mk : ∀ {xs : List ItemD} {last : Int}, (∀ x ∈ xs, itemOk x = true ∧ last < x.seq) → xs.Pairwise (fun x y => x.seq < y.seq) → lineFrom last xs = true
  | [], last, _, _ => rfl
  | x :: r, last, h, hp => by
    obtain ⟨h1, h2⟩ := h x (by simp)
    obtain ⟨h3, h4⟩ := List.pairwise_cons.1 hp
    rw [lineFrom_yes h1 (by omega)]
    exact lineFrom_mk (fun y hy => ⟨(h y (by simp [hy])).1, h3 y hy⟩) h4
theorem lineFrom_items : ∀ {xs : List ItemD} {last : Int}, lineFrom last xs = true → ∀ x ∈ xs, itemOk x = true
  | [], last, _, x, hx => by simp at hx
  | y :: r, last, h, x, hx => by
    unfold lineFrom at h
    simp only [Bool.and_eq_true, decide_eq_true_eq] at h
    rcases List.mem_cons.1 hx with rfl | hx
    · exact h.1.1
    · exact lineFrom_items h.2 x hx
theorem lineOk_iff {xs : List ItemD} : lineOk xs = true ↔ (∀ x ∈ xs, itemOk x = true) ∧ xs.Pairwise (fun x y => x.seq < y.seq) :=
  ⟨fun h => ⟨lineFrom_items h, (lineFrom_rise h).1⟩, fun h => lineFrom_mk (fun x hx => ⟨h.1 x hx, by have := itemOk_seq (h.1 x hx); omega⟩) h.2⟩

theorem pushL_mem {xs : List ItemD} {x z : ItemD} : z ∈ pushL xs x ↔ z = x ∨ z ∈ xs := by
  unfold pushL
  simp only [List.mem_append, List.mem_singleton]
  have : z ∈ xs ↔ z ∈ xs.take (idxSeq x.seq xs) ∨ z ∈ xs.drop (idxSeq x.seq xs) := by
    conv => lhs; rw [← List.take_append_drop (idxSeq x.seq xs) xs]
    exact List.mem_append
  rw [this]
  constructor
  · rintro ((h | h) | h)
    · exact .inr (.inl h)
    · exact .inl h
    · exact .inr (.inr h)
  · rintro (h | h | h)
    · exact .inl (.inr h)
    · exact .inl (.inl h)
    · exact .inr h
theorem take_below {xs : List ItemD} {s : Int} : ∀ z ∈ xs.take (idxSeq s xs), z.seq < s := by
  intro z hz
  obtain ⟨j, hj, rfl⟩ := List.mem_iff_getElem.1 hz
  have hj' : j < idxSeq s xs := by rw [List.length_take] at hj; omega
  obtain ⟨h1, h2⟩ := idx_below hj'
  rw [List.getElem_take]; exact h2
theorem drop_above {xs : List ItemD} {s : Int} (hl : lineOk xs = true) (hh : pushHas s xs = false) : ∀ z ∈ xs.drop (idxSeq s xs), s < z.seq := by
  intro z hz
  obtain ⟨j, hj, rfl⟩ := List.mem_iff_getElem.1 hz
  rw [List.length_drop] at hj
  rw [List.getElem_drop]
  have h1 : idxSeq s xs < xs.length := by omega
  have h2 := idx_at (s := s) h1
  have h3 : xs[idxSeq s xs].seq ≠ s := by
    intro e
    have := has_yes hl h1 e
    rw [hh] at this; cases this
  rcases Nat.eq_zero_or_pos j with rfl | hj0
  · simp only [Nat.add_zero]; omega
  · have := lineOk_rise hl (i := idxSeq s xs) (j := idxSeq s xs + j) (by omega) (by omega)
    omega
theorem pushL_ok {xs : List ItemD} {x : ItemD} (hl : lineOk xs = true) (hx : itemOk x = true) (hh : pushHas x.seq xs = false) : lineOk (pushL xs x) = true := by
  obtain ⟨h1, h2⟩ := lineOk_iff.1 hl
  refine lineOk_iff.2 ⟨fun z hz => ?_, ?_⟩
  · rcases pushL_mem.1 hz with rfl | hz
    · exact hx
    · exact h1 z hz
  · unfold pushL
    rw [List.append_assoc, List.pairwise_append]
    refine ⟨h2.sublist (List.take_sublist _ _), ?_, ?_⟩
    · rw [List.singleton_append, List.pairwise_cons]
      exact ⟨drop_above hl hh, h2.sublist (List.drop_sublist _ _)⟩
    · intro a ha b hb
      have h3 := take_below a ha
      rcases List.mem_append.1 hb with hb | hb
      · simp at hb; subst hb; exact h3
      · have := drop_above hl hh b hb; omega
theorem has_iff {xs : List ItemD} {s : Int} (hl : lineOk xs = true) : pushHas s xs = true ↔ ∃ z ∈ xs, z.seq = s := by
  constructor
  · intro h
    unfold pushHas at h
    cases he : xs[idxSeq s xs]? with
    | none => rw [he] at h; simp at h
    | some z => rw [he] at h; exact ⟨z, List.mem_of_getElem? he, by simpa using h⟩
  · rintro ⟨z, hz, hs⟩
    obtain ⟨j, hj, rfl⟩ := List.mem_iff_getElem.1 hz
    exact has_yes hl hj hs
theorem rise_ext : ∀ {A B : List ItemD}, A.Pairwise (fun x y => x.seq < y.seq) → B.Pairwise (fun x y => x.seq < y.seq) → (∀ z, z ∈ A ↔ z ∈ B) → A = B
  | [], [], _, _, _ => rfl
  | [], b :: B, _, _, h => by have := (h b).2 (by simp); simp at this
  | a :: A, [], _, _, h => by have := (h a).1 (by simp); simp at this
  | a :: A, b :: B, hA, hB, h => by
    obtain ⟨a1, a2⟩ := List.pairwise_cons.1 hA
    obtain ⟨b1, b2⟩ := List.pairwise_cons.1 hB
    have e : a = b := by
      rcases List.mem_cons.1 ((h a).1 (by simp)) with e | e
      · exact e
      · rcases List.mem_cons.1 ((h b).2 (by simp)) with e' | e'
        · exact e'.symm
        · have := b1 a e; have := a1 b e'; omega
    subst e
    rw [rise_ext a2 b2 (fun z => ?_)]
    constructor
    · intro hz
      rcases List.mem_cons.1 ((h z).1 (by simp [hz])) with e | e
      · subst e; have := a1 z hz; omega
      · exact e
    · intro hz
      rcases List.mem_cons.1 ((h z).2 (by simp [hz])) with e | e
      · subst e; have := b1 z hz; omega
      · exact e

theorem push_zero {xs : List ItemD} {x : ItemD} (h : pushE xs x = 0) : lineOk xs = true ∧ itemOk x = true ∧ pushHas x.seq xs = false := by
  unfold pushE at h
  cases hl : lineOk xs with
  | false => rw [hl] at h; simp at h
  | true =>
    rw [hl] at h
    cases hr : itemOk x with
    | false => rw [hr] at h; simp at h
    | true =>
      rw [hr] at h
      cases hh : pushHas x.seq xs with
      | true => rw [hh] at h; simp at h
      | false => exact ⟨rfl, rfl, rfl⟩
/-- Two letters are pushed alike, whichever is first. -/
theorem push_two {xs : List ItemD} {x y : ItemD} (hx : pushE xs x = 0) (hy : pushE xs y = 0) :
    pushE (pushV xs x) y = pushE (pushV xs y) x ∧ pushV (pushV xs x) y = pushV (pushV xs y) x := by
  obtain ⟨hl, ox, nx⟩ := push_zero hx
  obtain ⟨_, oy, ny⟩ := push_zero hy
  have e1 : pushV xs x = pushL xs x := by unfold pushV; rw [if_pos hx]
  have e2 : pushV xs y = pushL xs y := by unfold pushV; rw [if_pos hy]
  rw [e1, e2]
  have l1 := pushL_ok hl ox nx
  have l2 := pushL_ok hl oy ny
  by_cases hs : x.seq = y.seq
  · have p1 : pushE (pushL xs x) y = 6 := by
      unfold pushE; rw [l1, oy, (has_iff l1).2 ⟨x, pushL_mem.2 (.inl rfl), hs⟩]; rfl
    have p2 : pushE (pushL xs y) x = 6 := by
      unfold pushE; rw [l2, ox, (has_iff l2).2 ⟨y, pushL_mem.2 (.inl rfl), hs.symm⟩]; rfl
    exact ⟨by rw [p1, p2], by unfold pushV; rw [if_neg (by rw [p1]; decide), if_neg (by rw [p2]; decide)]⟩
  · have n1 : pushHas y.seq (pushL xs x) = false := by
      cases h : pushHas y.seq (pushL xs x) with
      | false => rfl
      | true =>
        obtain ⟨z, hz, e⟩ := (has_iff l1).1 h
        rcases pushL_mem.1 hz with rfl | hz
        · exact absurd e hs
        · rw [(has_iff hl).2 ⟨z, hz, e⟩] at ny; cases ny
    have n2 : pushHas x.seq (pushL xs y) = false := by
      cases h : pushHas x.seq (pushL xs y) with
      | false => rfl
      | true =>
        obtain ⟨z, hz, e⟩ := (has_iff l2).1 h
        rcases pushL_mem.1 hz with rfl | hz
        · exact absurd e.symm hs
        · rw [(has_iff hl).2 ⟨z, hz, e⟩] at nx; cases nx
    have p1 : pushE (pushL xs x) y = 0 := by unfold pushE; rw [l1, oy, n1]; rfl
    have p2 : pushE (pushL xs y) x = 0 := by unfold pushE; rw [l2, ox, n2]; rfl
    refine ⟨by rw [p1, p2], ?_⟩
    unfold pushV
    rw [if_pos p1, if_pos p2]
    refine rise_ext (lineOk_iff.1 (pushL_ok l1 oy n1)).2 (lineOk_iff.1 (pushL_ok l2 ox n2)).2 (fun z => ?_)
    rw [pushL_mem, pushL_mem, pushL_mem, pushL_mem]
    constructor
    · rintro (h | h | h)
      · exact .inr (.inl h)
      · exact .inl h
      · exact .inr (.inr h)
    · rintro (h | h | h)
      · exact .inr (.inl h)
      · exact .inl h
      · exact .inr (.inr h)

end Go.Proofs.Ytpoichgodamnkaa

/- Va -/
namespace Go.Proofs.Ytpoichgodamnkaa
set_option linter.unusedVariables false
set_option maxRecDepth 100000
open Go.RowKit Go.Maps

def lineAt (s : StateD) (q : Nat) : List ItemD := s.ready.getD q []
def qAt (p : PlanD) (q : Nat) : QueueD := p.queues.getD q ⟨⟨#[]⟩, 0, 0⟩
/-- A right state of which so many letters are somewhere else. -/
structure RightX (p : PlanD) (s : StateD) (n : Int) : Prop where
  pl : chkP p = 0
  tk : s.takers.length ≤ 4
  len : s.ready.length = p.queues.length
  line : ∀ l ∈ s.ready, lineOk l = true
  tok : ∀ t ∈ s.takers, takerOk p.queues.length t = true
  outs : outsFrom s.takers s.nextTag (-1) s.outs = true
  ns : 0 ≤ s.nextSeq ∧ s.nextSeq ≤ 1048576
  nt : 0 ≤ s.nextTag ∧ s.nextTag ≤ 1048576
  ak : 0 ≤ s.acked
  dr : 0 ≤ s.dropped
  nodup : (seqsOf s).Nodup
  lt : ∀ z ∈ seqsOf s, z < s.nextSeq
  room : ∀ q, q < s.ready.length → ((lineAt s q).length : Int) ≤ (qAt p q).limit
  hold : ∀ k, k < s.takers.length → (heldN s k : Int) ≤ (s.takers.getD k ⟨0, 0⟩).most
  sum : s.came = (seqsOf s).length + n + s.acked + s.dropped
  cs : s.came = s.nextSeq

theorem right_of {p : PlanD} {s : StateD} (h : stE p s = 0) : RightX p s 0 := by
  obtain ⟨g1, g2, g3, g4, g5, g6, g7, g8, g9, g10⟩ := stE_zero h
  unfold linesOk at g3
  simp only [Bool.and_eq_true, decide_eq_true_eq, List.all_eq_true] at g3
  unfold countsOk countOk at g6
  simp only [Bool.and_eq_true, decide_eq_true_eq] at g6
  unfold seqsOk at g7
  simp only [Bool.and_eq_true, decide_eq_true_eq, List.all_eq_true] at g7
  unfold sumsOk at g10
  simp only [Bool.and_eq_true, decide_eq_true_eq] at g10
  refine ⟨g1, g2, g3.1, g3.2, List.all_eq_true.1 g4, g5, g6.1.1.1.1, g6.1.1.1.2, g6.1.2.1, g6.2.1, g7.1, g7.2, fun q hq => ?_, fun k hk => ?_, by omega, g10.2⟩
  · have := List.all_eq_true.1 g8 q (List.mem_range.2 hq); rw [decide_eq_true_eq] at this; exact this
  · have := List.all_eq_true.1 g9 k (List.mem_range.2 hk); rw [decide_eq_true_eq] at this; exact this
theorem RightX.ok {p : PlanD} {s : StateD} (h : RightX p s 0) : stE p s = 0 := by
  have hcnt : countsOk s = true := by
    unfold countsOk countOk
    simp only [Bool.and_eq_true, decide_eq_true_eq]
    have h1 := h.ns; have h2 := h.nt; have h3 := h.ak; have h4 := h.dr; have h5 := h.sum; have h6 := h.cs
    refine ⟨⟨⟨⟨h1, h2⟩, ?_⟩, ?_⟩, ?_⟩ <;> omega
  have hf : formedB p s = true := by
    unfold formedB
    simp only [Bool.and_eq_true]
    refine ⟨⟨⟨⟨?_, ?_⟩, h.outs⟩, hcnt⟩, ?_⟩
    · unfold linesOk; simp only [Bool.and_eq_true, decide_eq_true_eq, List.all_eq_true]; exact ⟨h.len, h.line⟩
    · exact List.all_eq_true.2 h.tok
    · unfold seqsOk; simp only [Bool.and_eq_true, decide_eq_true_eq, List.all_eq_true]; exact ⟨h.nodup, h.lt⟩
  have h1 : roomL p s = true := List.all_eq_true.2 (fun q hq => decide_eq_true (h.room q (List.mem_range.1 hq)))
  have h2 : roomT s = true := List.all_eq_true.2 (fun k hk => decide_eq_true (h.hold k (List.mem_range.1 hk)))
  have h3 : sumsOk s = true := by
    unfold sumsOk; simp only [Bool.and_eq_true, decide_eq_true_eq]; exact ⟨by have := h.sum; omega, h.cs⟩
  unfold stE
  rw [if_neg (by simp [h.pl]), if_neg (by have := h.tk; omega), hf, h1, h2, h3]; rfl
theorem right_iff {p : PlanD} {s : StateD} : stE p s = 0 ↔ RightX p s 0 := ⟨right_of, RightX.ok⟩
theorem RightX.rp {p : PlanD} {s : StateD} {n : Int} (h : RightX p s n) : RightP p := chk_right h.pl

/-- A list with one place changed. -/
theorem set_split {α : Type} {xs : List α} {q : Nat} (h : q < xs.length) (y : α) : xs = xs.take q ++ xs[q] :: xs.drop (q + 1) ∧ xs.set q y = xs.take q ++ y :: xs.drop (q + 1) := by
  refine ⟨?_, List.set_eq_take_append_cons_drop.trans (if_pos h)⟩
  conv => lhs; rw [← List.take_append_drop q xs]
  rw [List.drop_eq_getElem_cons h]
theorem flat_set {β : Type} (f : List ItemD → List β) {xs : List (List ItemD)} {q : Nat} (h : q < xs.length) (y : List ItemD) : ∃ A B, xs.flatMap f = A ++ f xs[q] ++ B ∧ (xs.set q y).flatMap f = A ++ f y ++ B := by
  obtain ⟨h1, h2⟩ := set_split h y
  refine ⟨(xs.take q).flatMap f, (xs.drop (q + 1)).flatMap f, ?_, ?_⟩
  · have e := congrArg (List.flatMap f) h1
    rw [List.flatMap_append, List.flatMap_cons, ← List.append_assoc] at e
    exact e
  · rw [h2, List.flatMap_append, List.flatMap_cons, ← List.append_assoc]
theorem lineAt_get {s : StateD} {q : Nat} (h : q < s.ready.length) : lineAt s q = s.ready[q] := by unfold lineAt; rw [List.getD_eq_getElem?_getD, List.getElem?_eq_getElem h]; rfl
theorem lineAt_mem {s : StateD} {q : Nat} (h : q < s.ready.length) : lineAt s q ∈ s.ready := by rw [lineAt_get h]; exact List.getElem_mem h
theorem seqsOf_set (s : StateD) {q : Nat} (h : q < s.ready.length) (y : List ItemD) : ∃ A B, seqsOf s = A ++ (lineAt s q).map ItemD.seq ++ B ∧ seqsOf { s with ready := s.ready.set q y } = A ++ y.map ItemD.seq ++ B := by
  obtain ⟨A, B, h1, h2⟩ := flat_set (fun l => l.map ItemD.seq) h y
  refine ⟨A, B ++ s.outs.map (fun o => o.item.seq), ?_, ?_⟩
  · unfold seqsOf; rw [h1, lineAt_get h]; simp
  · unfold seqsOf; simp only; rw [h2]; simp
theorem lineAt_set {s : StateD} {q r : Nat} (h : q < s.ready.length) (y : List ItemD) (d : Int) : lineAt { s with ready := s.ready.set q y, dropped := d } r = if r = q then y else lineAt s r := by
  unfold lineAt
  simp only
  rw [List.getD_eq_getElem?_getD, List.getElem?_set, List.getD_eq_getElem?_getD]
  by_cases e : q = r
  · subst e; rw [if_pos rfl, if_pos h, if_pos rfl]; rfl
  · rw [if_neg e, if_neg (fun h => e h.symm)]
theorem itemOk_parts {x : ItemD} (h : itemOk x = true) : 0 ≤ x.seq ∧ x.seq < 1048576 ∧ kerr x.key.data.toList = 0 ∧ x.body.size ≤ 12 ∧ 0 ≤ x.deaths ∧ x.deaths ≤ 2 := by
  unfold itemOk itemNums at h; simp at h; omega
theorem itemOk_mk {x : ItemD} (h1 : 0 ≤ x.seq) (h2 : x.seq < 1048576) (h3 : kerr x.key.data.toList = 0) (h4 : x.body.size ≤ 12) (h5 : 0 ≤ x.deaths) (h6 : x.deaths ≤ 2) : itemOk x = true := by
  unfold itemOk itemNums; simp; omega

theorem qAt_get {p : PlanD} {q : Nat} (h : q < p.queues.length) : qAt p q = p.queues[q] := by unfold qAt; rw [List.getD_eq_getElem?_getD, List.getElem?_eq_getElem h]; rfl
theorem RightX.line6 {p : PlanD} {s : StateD} {n : Int} (h : RightX p s n) {l : List ItemD} (hl : l ∈ s.ready) : l.length ≤ 6 := by
  obtain ⟨q, hq, rfl⟩ := List.mem_iff_getElem.1 hl
  have h1 := h.room q hq
  rw [lineAt_get hq] at h1
  have hq' : q < p.queues.length := by rw [← h.len]; exact hq
  have h2 := h.rp.queues _ (List.getElem_mem hq')
  rw [qAt_get hq'] at h1
  omega

end Go.Proofs.Ytpoichgodamnkaa

/- Vb -/
namespace Go.Proofs.Ytpoichgodamnkaa
set_option linter.unusedVariables false
set_option maxRecDepth 100000
open Go.RowKit Go.Maps

/-- An Out that may be. -/
structure OutFine (ts : List TakerD) (nt : Int) (o : OutD) : Prop where
  tag : o.tag < nt
  rng : 0 ≤ o.taker ∧ o.taker < ts.length
  tk : ∃ t, ts[o.taker.toNat]? = some t ∧ t.queue ≠ -1 ∧ t.queue = o.queue
  item : itemOk o.item = true
theorem outOk_iff {ts : List TakerD} {nt l : Int} {o : OutD} : outOk ts nt l o = true ↔ l < o.tag ∧ OutFine ts nt o := by
  unfold outOk
  simp only [Bool.and_eq_true, decide_eq_true_eq]
  constructor
  · rintro ⟨⟨⟨⟨h1, h2⟩, h3⟩, h4⟩, h5⟩
    refine ⟨h1, h2, isNum_iff.1 h3, ?_, h5⟩
    cases ht : ts[o.taker.toNat]? with
    | none => rw [ht] at h4; cases h4
    | some t => rw [ht] at h4; simp only [Bool.and_eq_true, decide_eq_true_eq] at h4; exact ⟨t, rfl, h4.1, h4.2⟩
  · rintro ⟨h1, h2⟩
    refine ⟨⟨⟨⟨h1, h2.tag⟩, isNum_iff.2 h2.rng⟩, ?_⟩, h2.item⟩
    obtain ⟨t, ht, h3, h4⟩ := h2.tk
    rw [ht]; simp only [Bool.and_eq_true, decide_eq_true_eq]; exact ⟨h3, h4⟩
theorem outsFrom_iff {ts : List TakerD} {nt : Int} : ∀ {xs : List OutD} {l : Int}, outsFrom ts nt l xs = true ↔ (∀ o ∈ xs, l < o.tag ∧ OutFine ts nt o) ∧ xs.Pairwise (fun a b => a.tag < b.tag)
  | [], l => by simp [outsFrom]
  | x :: r, l => by
    unfold outsFrom
    rw [Bool.and_eq_true, outOk_iff, outsFrom_iff]
    constructor
    · rintro ⟨h1, h2, h3⟩
      refine ⟨fun o ho => ?_, List.pairwise_cons.2 ⟨fun b hb => (h2 b hb).1, h3⟩⟩
      rcases List.mem_cons.1 ho with rfl | ho
      · exact h1
      · have := h2 o ho; exact ⟨by have := h1.1; omega, this.2⟩
    · rintro ⟨h1, h2⟩
      obtain ⟨h3, h4⟩ := List.pairwise_cons.1 h2
      exact ⟨h1 x List.mem_cons_self, fun o ho => ⟨h3 o ho, (h1 o (List.mem_cons_of_mem _ ho)).2⟩, h4⟩
theorem RightX.fine {p : PlanD} {s : StateD} {n : Int} (h : RightX p s n) {o : OutD} (ho : o ∈ s.outs) : 0 ≤ o.tag ∧ OutFine s.takers s.nextTag o := by
  have := (outsFrom_iff.1 h.outs).1 o ho; exact ⟨by omega, this.2⟩
theorem RightX.rise {p : PlanD} {s : StateD} {n : Int} (h : RightX p s n) : s.outs.Pairwise (fun a b => a.tag < b.tag) := (outsFrom_iff.1 h.outs).2
theorem takerOk_iff {nq : Nat} {t : TakerD} : takerOk nq t = true ↔ (t.queue = -1 ∨ 0 ≤ t.queue ∧ t.queue < nq) ∧ 1 ≤ t.most ∧ t.most ≤ 4 := by
  unfold takerOk isNum; simp
theorem heldN_app (s : StateD) (o : OutD) (t : Int) : heldN { s with outs := s.outs ++ [o] } t = heldN s t + if o.taker = t then 1 else 0 := by
  unfold heldN; simp only; rw [List.filter_append]; by_cases h : o.taker = t <;> simp [h]

/-- H1: who joins. -/
def goneIdx (ts : List TakerD) : Nat := ts.findIdx (fun t => decide (t.queue = -1))
def joinX (nq : Nat) (s : StateD) (q most : Int) : Int := if isNum q nq = false then 5 else if inR most 1 4 = false then 3 else if goneIdx s.takers = s.takers.length ∧ 4 ≤ s.takers.length then 2 else 0
def joinE (p : PlanD) (s : StateD) (q most : Int) : Int := if stE p s ≠ 0 then stE p s else joinX p.queues.length s q most
def joinT (ts : List TakerD) (q most : Int) : List TakerD := if goneIdx ts < ts.length then ts.set (goneIdx ts) ⟨q, most⟩ else ts ++ [⟨q, most⟩]
def joinS (s : StateD) (q most : Int) : StateD := { s with takers := joinT s.takers q most }
theorem goneIdx_le (ts : List TakerD) : goneIdx ts ≤ ts.length := List.findIdx_le_length
theorem goneIdx_at {ts : List TakerD} (h : goneIdx ts < ts.length) : ts[goneIdx ts].queue = -1 := by
  have := List.findIdx_getElem (w := h) (p := fun t : TakerD => decide (t.queue = -1)); exact of_decide_eq_true this
theorem joinT_len (ts : List TakerD) (q most : Int) : (joinT ts q most).length = if goneIdx ts < ts.length then ts.length else ts.length + 1 := by
  unfold joinT; split <;> simp
theorem joinT_get {ts : List TakerD} {q most : Int} {i : Nat} (hi : i ≠ goneIdx ts) (hl : i < ts.length) : (joinT ts q most)[i]? = ts[i]? := by
  unfold joinT
  split
  · rw [List.getElem?_set, if_neg (fun e => hi e.symm)]
  · rw [List.getElem?_append_left hl]
theorem joinT_new (ts : List TakerD) (q most : Int) : (joinT ts q most)[goneIdx ts]? = some ⟨q, most⟩ := by
  unfold joinT
  split
  · rename_i h; rw [List.getElem?_set, if_pos rfl, if_pos h]
  · rename_i h
    have := goneIdx_le ts
    have e : goneIdx ts = ts.length := by omega
    rw [e, List.getElem?_append_right (Nat.le_refl _)]; simp
theorem out_ne_gone {p : PlanD} {s : StateD} {n : Int} (h : RightX p s n) {o : OutD} (ho : o ∈ s.outs) : o.taker.toNat ≠ goneIdx s.takers ∧ o.taker.toNat < s.takers.length := by
  obtain ⟨_, hf⟩ := h.fine ho
  obtain ⟨t, ht, h1, h2⟩ := hf.tk
  have hr := hf.rng
  refine ⟨fun e => ?_, by omega⟩
  have hl : goneIdx s.takers < s.takers.length := by omega
  rw [e, List.getElem?_eq_getElem hl] at ht
  have := goneIdx_at hl
  cases ht
  exact h1 this
theorem held_gone_idx {p : PlanD} {s : StateD} {n : Int} (h : RightX p s n) : heldN s (goneIdx s.takers : Nat) = 0 := by
  unfold heldN
  rw [List.length_eq_zero_iff, List.filter_eq_nil_iff]
  intro o ho e
  have e' : o.taker = (goneIdx s.takers : Nat) := by simpa using e
  have := (out_ne_gone h ho).1
  rw [e'] at this; simp at this
theorem RightX.join {p : PlanD} {s : StateD} (h : RightX p s 0) {q most : Int} (hq : isNum q p.queues.length = true) (hm : inR most 1 4 = true) (hk : ¬ (goneIdx s.takers = s.takers.length ∧ 4 ≤ s.takers.length)) : RightX p (joinS s q most) 0 := by
  have hq' := isNum_iff.1 hq
  have hm' : 1 ≤ most ∧ most ≤ 4 := by unfold inR at hm; simpa using hm
  have hg := goneIdx_le s.takers
  refine ⟨h.pl, ?_, h.len, h.line, ?_, ?_, h.ns, h.nt, h.ak, h.dr, h.nodup, h.lt, h.room, ?_, h.sum, h.cs⟩
  · show (joinT s.takers q most).length ≤ 4
    rw [joinT_len]; have := h.tk; split <;> omega
  · intro t ht
    have ht' : t ∈ joinT s.takers q most := ht
    obtain ⟨i, hi, rfl⟩ := List.mem_iff_getElem.1 ht'
    by_cases e : i = goneIdx s.takers
    · have := joinT_new s.takers q most
      rw [← e, List.getElem?_eq_getElem hi] at this
      rw [Option.some.inj this]
      exact takerOk_iff.2 ⟨.inr hq', hm'⟩
    · have hl : i < s.takers.length := by
        rw [joinT_len] at hi; split at hi <;> omega
      have := joinT_get (q := q) (most := most) e hl
      rw [List.getElem?_eq_getElem hi, List.getElem?_eq_getElem hl] at this
      rw [Option.some.inj this]
      exact h.tok _ (List.getElem_mem hl)
  · refine outsFrom_iff.2 ⟨fun o ho => ?_, h.rise⟩
    obtain ⟨h1, h2⟩ := h.fine ho
    obtain ⟨g1, g2⟩ := out_ne_gone h ho
    refine ⟨by omega, h2.tag, ?_, ?_, h2.item⟩
    · have := h2.rng
      show 0 ≤ o.taker ∧ o.taker < ((joinT s.takers q most).length : Nat)
      rw [joinT_len]; split <;> omega
    · show ∃ t, (joinT s.takers q most)[o.taker.toNat]? = some t ∧ _
      rw [joinT_get g1 g2]; exact h2.tk
  · intro k hk'
    show (heldN s k : Int) ≤ ((joinT s.takers q most).getD k ⟨0, 0⟩).most
    rw [List.getD_eq_getElem?_getD]
    by_cases e : k = goneIdx s.takers
    · subst e
      rw [joinT_new, held_gone_idx h]; simp; omega
    · have hl : k < s.takers.length := by
        have hk2 : k < (joinT s.takers q most).length := hk'
        rw [joinT_len] at hk2; split at hk2 <;> omega
      rw [joinT_get e hl]
      have := h.hold k hl
      rw [List.getD_eq_getElem?_getD] at this
      exact this

/-- H2: whose turn it is. -/
def tAt (s : StateD) (k : Nat) : TakerD := s.takers.getD k ⟨0, 0⟩
def freeT (s : StateD) (q : Int) (k : Nat) : Bool := decide ((tAt s k).queue = q) && decide ((heldN s k : Int) < (tAt s k).most)
def lbTo (s : StateD) (q : Int) : Nat → Int × Int
  | 0 => (-1, 4)
  | k + 1 => if freeT s q k = true ∧ (heldN s k : Int) < (lbTo s q k).2 then ((k : Int), (heldN s k : Int)) else lbTo s q k
def nextK (s : StateD) (q : Int) : Int := (lbTo s q s.takers.length).1
def nextE (p : PlanD) (s : StateD) (q : Int) : Int :=
  if stE p s ≠ 0 then stE p s else if isNum q p.queues.length = false then 5 else if lineAt s q.toNat = [] then 8 else if nextK s q = -1 then 9 else 0
/-- Of the first n takers it is the first one that has fewest. -/
structure Least (s : StateD) (q : Int) (n k : Nat) : Prop where
  lt : k < n
  free : freeT s q k = true
  few : heldN s k < 4
  least : ∀ j, j < n → freeT s q j = true → heldN s k ≤ heldN s j
  first : ∀ j, j < k → freeT s q j = true → heldN s k < heldN s j
theorem lb_is (s : StateD) (q : Int) : ∀ n, (lbTo s q n = (-1, 4) ∧ ∀ j, j < n → freeT s q j = true → 4 ≤ heldN s j) ∨ ∃ k : Nat, lbTo s q n = ((k : Int), (heldN s k : Int)) ∧ Least s q n k
  | 0 => .inl ⟨rfl, fun j hj => by omega⟩
  | n + 1 => by
    rcases lb_is s q n with ⟨h1, h2⟩ | ⟨k, h1, h2⟩
    · unfold lbTo
      rw [h1]
      split
      · rename_i hc
        have hc2 : (heldN s n : Int) < 4 := hc.2
        exact .inr ⟨n, rfl, by omega, hc.1, by omega, fun j hj hf => by
          by_cases e : j = n
          · subst e; omega
          · have := h2 j (by omega) hf; omega, fun j hj hf => by have := h2 j hj hf; omega⟩
      · rename_i hc
        exact .inl ⟨rfl, fun j hj hf => by
          by_cases e : j = n
          · subst e
            apply Classical.byContradiction
            intro hlt
            exact hc ⟨hf, by show (heldN s j : Int) < 4; omega⟩
          · exact h2 j (by omega) hf⟩
    · unfold lbTo
      rw [h1]
      split
      · rename_i hc
        have hc2 : (heldN s n : Int) < (heldN s k : Int) := hc.2
        have := h2.few
        exact .inr ⟨n, rfl, by omega, hc.1, by omega, fun j hj hf => by
          by_cases e : j = n
          · subst e; omega
          · have := h2.least j (by omega) hf; omega, fun j hj hf => by have := h2.least j hj hf; omega⟩
      · rename_i hc
        exact .inr ⟨k, rfl, by have := h2.lt; omega, h2.free, h2.few, fun j hj hf => by
          by_cases e : j = n
          · subst e
            apply Classical.byContradiction
            intro hlt
            exact hc ⟨hf, by show (heldN s j : Int) < (heldN s k : Int); omega⟩
          · exact h2.least j (by omega) hf, h2.first⟩
theorem RightX.few {p : PlanD} {s : StateD} {n : Int} (h : RightX p s n) {q : Int} {j : Nat} (hj : j < s.takers.length) (hf : freeT s q j = true) : heldN s j < 4 := by
  unfold freeT tAt at hf
  simp only [Bool.and_eq_true, decide_eq_true_eq] at hf
  rw [List.getD_eq_getElem?_getD, List.getElem?_eq_getElem hj] at hf
  have := (takerOk_iff.1 (h.tok _ (List.getElem_mem hj))).2
  have h2 := hf.2
  simp only [Option.getD_some] at h2
  omega
theorem next_is {p : PlanD} {s : StateD} {n : Int} (h : RightX p s n) (q : Int) : (nextK s q = -1 ∧ ∀ j, j < s.takers.length → freeT s q j = false) ∨ ∃ k : Nat, nextK s q = k ∧ Least s q s.takers.length k := by
  rcases lb_is s q s.takers.length with ⟨h1, h2⟩ | ⟨k, h1, h2⟩
  · refine .inl ⟨by unfold nextK; rw [h1], fun j hj => ?_⟩
    rw [Bool.eq_false_iff]
    intro hf
    have := h.few hj hf
    have := h2 j hj hf
    omega
  · exact .inr ⟨k, by unfold nextK; rw [h1], h2⟩
theorem Least.uniq {s : StateD} {q : Int} {n k j : Nat} (h : Least s q n k) (g : Least s q n j) : k = j := by
  rcases Nat.lt_trichotomy k j with e | e | e
  · have := g.first k e h.free; have := h.least j g.lt g.free; omega
  · exact e
  · have := h.first j e g.free; have := g.least k h.lt h.free; omega

def delE (p : PlanD) (s : StateD) (q : Int) : Int := if nextE p s q ≠ 0 then nextE p s q else if s.nextTag = 1048576 then 2 else 0
def iDef : ItemD := ⟨0, ⟨#[]⟩, ⟨#[]⟩, false, 0⟩
def delO (s : StateD) (q : Int) : OutD := ⟨s.nextTag, nextK s q, q, (lineAt s q.toNat).headD iDef⟩
def delS (s : StateD) (q : Int) : StateD := { s with ready := s.ready.set q.toNat (lineAt s q.toNat).tail, outs := s.outs ++ [delO s q], nextTag := s.nextTag + 1 }
/-- What a Deliver that has no error finds. -/
structure Delivers (p : PlanD) (s : StateD) (q : Int) (k : Nat) (x : ItemD) (r : List ItemD) : Prop where
  right : RightX p s 0
  q0 : 0 ≤ q
  ql : q.toNat < s.ready.length
  line : lineAt s q.toNat = x :: r
  key : nextK s q = k
  least : Least s q s.takers.length k
  tag : s.nextTag < 1048576
theorem next_zero {p : PlanD} {s : StateD} {q : Int} (h : nextE p s q = 0) : RightX p s 0 ∧ 0 ≤ q ∧ q < p.queues.length ∧ (∃ x r, lineAt s q.toNat = x :: r) ∧ ∃ k : Nat, nextK s q = k ∧ Least s q s.takers.length k := by
  unfold nextE at h
  by_cases h1 : stE p s = 0
  · rw [if_neg (by simp [h1])] at h
    by_cases h2 : isNum q p.queues.length = false
    · rw [if_pos h2] at h; cases h
    · rw [if_neg h2] at h
      by_cases h3 : lineAt s q.toNat = []
      · rw [if_pos h3] at h; cases h
      · rw [if_neg h3] at h
        by_cases h4 : nextK s q = -1
        · rw [if_pos h4] at h; cases h
        · have hr := right_of h1
          have hq := isNum_iff.1 (by simpa using h2)
          refine ⟨hr, hq.1, hq.2, ?_, ?_⟩
          · cases hl : lineAt s q.toNat with
            | nil => exact absurd hl h3
            | cons x r => exact ⟨x, r, rfl⟩
          · rcases next_is hr q with ⟨e, _⟩ | hk
            · exact absurd e h4
            · exact hk
  · rw [if_pos h1] at h; exact absurd h h1
theorem del_zero {p : PlanD} {s : StateD} {q : Int} (h : delE p s q = 0) : ∃ k x r, Delivers p s q k x r := by
  unfold delE at h
  by_cases h1 : nextE p s q = 0
  · rw [if_neg (by simp [h1])] at h
    by_cases h2 : s.nextTag = 1048576
    · rw [if_pos h2] at h; cases h
    · obtain ⟨hr, q0, q1, ⟨x, r, hl⟩, k, hk, hL⟩ := next_zero h1
      have := hr.nt
      exact ⟨k, x, r, hr, q0, by rw [hr.len]; omega, hl, hk, hL, by omega⟩
  · rw [if_pos h1] at h; exact absurd h h1
theorem Delivers.out {p : PlanD} {s : StateD} {q : Int} {k : Nat} {x : ItemD} {r : List ItemD} (h : Delivers p s q k x r) : delO s q = ⟨s.nextTag, (k : Int), q, x⟩ := by
  unfold delO; rw [h.key, h.line]; rfl
theorem seqs_del {p : PlanD} {s : StateD} {q : Int} {k : Nat} {x : ItemD} {r : List ItemD} (h : Delivers p s q k x r) : (seqsOf (delS s q)).Perm (seqsOf s) := by
  obtain ⟨A, B, h1, h2⟩ := flat_set (fun l => l.map ItemD.seq) h.ql r
  have e : s.ready[q.toNat]'h.ql = x :: r := by rw [← lineAt_get h.ql]; exact h.line
  have e1 : seqsOf s = A ++ (x.seq :: (r.map ItemD.seq ++ (B ++ s.outs.map fun o => o.item.seq))) := by
    unfold seqsOf; rw [h1, e]; simp only [List.map_cons, List.append_assoc, List.cons_append]
  have e2 : seqsOf (delS s q) = A ++ (r.map ItemD.seq ++ (B ++ s.outs.map fun o => o.item.seq)) ++ [x.seq] := by
    have : seqsOf (delS s q) = ((s.ready.set q.toNat (lineAt s q.toNat).tail).flatMap fun l => l.map ItemD.seq) ++ (s.outs ++ [delO s q]).map fun o => o.item.seq := rfl
    rw [this, h.line, List.tail_cons, h2, h.out, List.map_append]; simp only [List.map_cons, List.map_nil, List.append_assoc]
  rw [e1, e2]
  refine List.perm_append_comm.trans ?_
  rw [List.singleton_append]
  exact List.perm_middle.symm
theorem Delivers.done {p : PlanD} {s : StateD} {q : Int} {k : Nat} {x : ItemD} {r : List ItemD} (h : Delivers p s q k x r) : RightX p (delS s q) 0 := by
  have hR := h.right
  have hp := seqs_del h
  have hlx := hR.line _ (lineAt_mem h.ql)
  rw [h.line] at hlx
  obtain ⟨l1, l2⟩ := lineOk_iff.1 hlx
  have hfree := h.least.free
  unfold freeT at hfree
  simp only [Bool.and_eq_true, decide_eq_true_eq] at hfree
  have htk : s.takers[k]? = some (tAt s k) := by unfold tAt; rw [List.getD_eq_getElem?_getD, List.getElem?_eq_getElem h.least.lt]; rfl
  have hkl := h.least.lt
  refine ⟨hR.pl, hR.tk, by simpa [delS] using hR.len, ?_, hR.tok, ?_, hR.ns, ?_, hR.ak, hR.dr, hp.nodup_iff.2 hR.nodup, fun z hz => hR.lt z (hp.mem_iff.1 hz), ?_, ?_, ?_, hR.cs⟩
  · intro l hl
    rcases List.mem_or_eq_of_mem_set hl with h' | h'
    · exact hR.line l h'
    · rw [h', h.line, List.tail_cons]
      exact lineOk_iff.2 ⟨fun z hz => l1 z (List.mem_cons_of_mem _ hz), (List.pairwise_cons.1 l2).2⟩
  · show outsFrom s.takers (s.nextTag + 1) (-1) (s.outs ++ [delO s q]) = true
    rw [h.out]
    refine outsFrom_iff.2 ⟨fun o ho => ?_, ?_⟩
    · rcases List.mem_append.1 ho with ho | ho
      · obtain ⟨g1, g2⟩ := hR.fine ho
        exact ⟨by omega, by have := g2.tag; omega, g2.rng, g2.tk, g2.item⟩
      · rw [List.mem_singleton.1 ho]
        refine ⟨by have := hR.nt; simp only; omega, by simp only; omega, by simp only; omega, ⟨tAt s k, by simp only [Int.toNat_natCast]; exact htk, by rw [hfree.1]; have := h.q0; omega, hfree.1⟩, l1 x List.mem_cons_self⟩
    · rw [List.pairwise_append]
      exact ⟨hR.rise, by simp, fun a ha b hb => by rw [List.mem_singleton.1 hb]; exact (hR.fine ha).2.tag⟩
  · show 0 ≤ s.nextTag + 1 ∧ s.nextTag + 1 ≤ 1048576; have := hR.nt; have := h.tag; omega
  · intro j hj
    have hj' : j < s.ready.length := by simpa [delS] using hj
    have : lineAt (delS s q) j = if j = q.toNat then (lineAt s q.toNat).tail else lineAt s j := lineAt_set (s := s) h.ql (lineAt s q.toNat).tail 0
    rw [this]
    split
    · rename_i e; subst e; have := hR.room q.toNat hj'; rw [List.length_tail]; omega
    · exact hR.room j hj'
  · intro j hj
    show (heldN { s with outs := s.outs ++ [delO s q] } j : Int) ≤ (s.takers.getD j ⟨0, 0⟩).most
    rw [heldN_app, h.out]
    by_cases e : k = j
    · subst e
      have := hfree.2
      unfold tAt at this
      simp only [if_true]; omega
    · rw [if_neg (by simp only; omega)]; exact hR.hold j hj
  · show s.came = _
    have := hR.sum
    rw [hp.length_eq]; exact this

end Go.Proofs.Ytpoichgodamnkaa

/- Ua -/
namespace Go.Proofs.Ytpoichgodamnkaa
set_option linter.unusedVariables false
set_option maxRecDepth 100000
open Go.RowKit

/-- The cells of a row that lies somewhere. -/
def RowAt (W : World) (a : Option Addr) (cs : List Value) : Prop := cs = [] ∨ ∃ g o, a = some ⟨g, o, none⟩ ∧ g < W.heap.size ∧ ∀ j u, cs[j]? = some u → W.cell? ⟨g, o + j, none⟩ = some u
theorem RowAt.keep {W W' : World} {a : Option Addr} {cs : List Value} (h : RowAt W a cs) (hB : Below W.heap.size W W') : RowAt W' a cs := by
  rcases h with h | ⟨g, o, ha, hg, h⟩
  · exact .inl h
  · exact .inr ⟨g, o, ha, Nat.lt_of_lt_of_le hg hB.size, fun j u hj => (hB.cell (p := ⟨g, o + j, none⟩) hg).trans (h j u hj)⟩
theorem RowAt.news {W : World} {ad : Addr} {cs : List Value} (h : RowAt W (some ad) cs) : ∀ j u, cs[j]? = some u → W.cell? (ad.add j) = some u := by
  intro j u hj
  rcases h with rfl | ⟨g, o, ha, _, h⟩
  · simp at hj
  · cases ha; rw [addr_add]; exact h j u hj
/-- A row of one's own lies somewhere. -/
theorem own_row {W : World} {base : Nat} {T : TypeId} {size : Nat} {v : Value} {n : Nat} {cs : List Value} (h : W.ownsRow base T size v n cs) :
    ∃ a c, v = .slice a n c ∧ n ≤ c ∧ c ≤ maxLen ∧ (a = none → c = 0 ∧ n = 0) ∧ RowAt W a cs := by
  rcases h.2 with ⟨rfl, h0⟩ | ⟨g, cap, cur, rfl, hb, hg, h1, h2, _⟩
  · have hx : cs = [] := List.length_eq_zero_iff.1 (by have := h.1; rw [h0] at this; simpa using this)
    exact ⟨none, 0, by rw [h0], by omega, by unfold maxLen; omega, fun _ => ⟨rfl, h0⟩, .inl hx⟩
  · refine ⟨_, cap, rfl, h1, h2, (fun h => by cases h), .inr ⟨g, 0, rfl, (Array.getElem?_eq_some_iff.1 hg).1, fun j u hj => ?_⟩⟩
    have := h.cells (g := g) rfl _ _ hj
    rw [addr_add] at this
    exact this
/-- Elements of so many cells, one behind the other. -/
theorem flat_length {α : Type} {f : α → List Value} {k : Nat} (hf : ∀ x, (f x).length = k) (xs : List α) : (xs.flatMap f).length = xs.length * k := by
  induction xs with
  | nil => simp
  | cons x r ih => rw [List.flatMap_cons, List.length_append, hf, ih, List.length_cons, Nat.add_mul]; omega
theorem flat_at {α : Type} {f : α → List Value} {k : Nat} (hf : ∀ x, (f x).length = k) : ∀ (xs : List α) (i : Nat) (h : i < xs.length) (j : Nat), j < k → (xs.flatMap f)[i * k + j]? = (f xs[i])[j]?
  | x :: r, 0, _, j, hj => by
    rw [List.flatMap_cons, List.getElem?_append_left (by rw [hf]; omega)]; simp
  | x :: r, i + 1, h, j, hj => by
    have e : (i + 1) * k + j = k + (i * k + j) := by rw [Nat.add_mul]; omega
    rw [List.flatMap_cons, e, List.getElem?_append_right (by rw [hf]; omega), hf, Nat.add_sub_cancel_left]
    exact flat_at hf r i (by simpa using h) j hj
theorem flat_div {k j n : Nat} (hk : 0 < k) (h : j < n * k) : j / k < n ∧ j % k < k ∧ j / k * k + j % k = j :=
  ⟨(Nat.div_lt_iff_lt_mul hk).2 h, Nat.mod_lt _ hk, by rw [Nat.mul_comm]; exact Nat.div_add_mod j k⟩
theorem row_of {α : Type} {f : α → List Value} {k : Nat} (hk : 0 < k) (hf : ∀ x, (f x).length = k) {W : World} {a : Option Addr} {xs : List α}
    (h : xs = [] ∨ ∃ g o, a = some ⟨g, o, none⟩ ∧ g < W.heap.size ∧ ∀ i (h : i < xs.length) j, j < k → W.cell? ⟨g, o + i * k + j, none⟩ = (f xs[i])[j]?) : RowAt W a (xs.flatMap f) := by
  rcases h with rfl | ⟨g, o, ha, hg, h⟩
  · exact .inl rfl
  · refine .inr ⟨g, o, ha, hg, fun j u hj => ?_⟩
    have hjl : j < xs.length * k := by
      rcases Nat.lt_or_ge j (xs.length * k) with h | h
      · exact h
      · rw [List.getElem?_eq_none (by rw [flat_length hf]; exact h)] at hj; cases hj
    obtain ⟨h1, h2, h3⟩ := flat_div hk hjl
    have hc := h _ h1 _ h2
    rw [← flat_at hf xs _ h1 _ h2, h3, Nat.add_assoc, h3, hj] at hc
    exact hc
theorem RowAt.get {α : Type} {f : α → List Value} {k : Nat} (hf : ∀ x, (f x).length = k) {W : World} {a : Option Addr} {xs : List α} (h : RowAt W a (xs.flatMap f)) (hk : 0 < k) :
    xs = [] ∨ ∃ g o, a = some ⟨g, o, none⟩ ∧ g < W.heap.size ∧ ∀ i (h : i < xs.length) j, j < k → W.cell? ⟨g, o + i * k + j, none⟩ = (f xs[i])[j]? := by
  rcases h with h | ⟨g, o, ha, hg, h⟩
  · refine .inl (List.length_eq_zero_iff.1 ?_)
    have := congrArg List.length h
    rw [flat_length hf, List.length_nil] at this
    rcases Nat.mul_eq_zero.1 this with h | h
    · exact h
    · omega
  · refine .inr ⟨g, o, ha, hg, fun i hi j hj => ?_⟩
    have e := flat_at hf xs i hi j hj
    have hv : (f xs[i])[j]? = some ((f xs[i])[j]'(by rw [hf]; exact hj)) := List.getElem?_eq_getElem _
    rw [hv] at e ⊢
    have := h _ _ e
    rw [Nat.add_assoc]; exact this

def TakerD.cells (t : TakerD) : List Value := [.int .i64 t.queue, .int .i64 t.most]
def OutD.cells (o : OutD) : List Value := [.int .i64 o.tag, .int .i64 o.taker, .int .i64 o.queue, .int .i64 o.item.seq, .string o.item.key, .string o.item.body, .bool o.item.again, .int .i64 o.item.deaths]
def takerCells (xs : List TakerD) : List Value := xs.flatMap TakerD.cells
def outCells (xs : List OutD) : List Value := xs.flatMap OutD.cells
theorem takers_row {W : World} {a : Option Addr} {xs : List TakerD} : TakersAt W a xs ↔ RowAt W a (takerCells xs) := by
  constructor
  · intro h
    refine row_of (k := 2) (by omega) (fun _ => rfl) ?_
    rcases h with h | ⟨g, o, ha, hg, h⟩
    · exact .inl h
    · refine .inr ⟨g, o, ha, hg, fun i hi j hj => ?_⟩
      match j, hj with
      | 0, _ => exact (h i hi).1
      | 1, _ => exact (h i hi).2
  · intro h
    rcases RowAt.get (k := 2) (fun _ => rfl) h (by omega) with h | ⟨g, o, ha, hg, h⟩
    · exact .inl h
    · exact .inr ⟨g, o, ha, hg, fun i hi => ⟨h i hi 0 (by omega), h i hi 1 (by omega)⟩⟩
theorem outs_row {W : World} {a : Option Addr} {xs : List OutD} : OutsAt W a xs ↔ RowAt W a (outCells xs) := by
  constructor
  · intro h
    refine row_of (k := 8) (by omega) (fun _ => rfl) ?_
    rcases h with h | ⟨g, o, ha, hg, h⟩
    · exact .inl h
    · refine .inr ⟨g, o, ha, hg, fun i hi j hj => ?_⟩
      obtain ⟨h0, h1, h2, h3⟩ := h i hi
      match j, hj with
      | 0, _ => exact h0
      | 1, _ => exact h1
      | 2, _ => exact h2
      | 3, _ => exact h3.at (j := 0) (by omega)
      | 4, _ => exact h3.at (j := 1) (by omega)
      | 5, _ => exact h3.at (j := 2) (by omega)
      | 6, _ => exact h3.at (j := 3) (by omega)
      | 7, _ => exact h3.at (j := 4) (by omega)
  · intro h
    rcases RowAt.get (k := 8) (fun _ => rfl) h (by omega) with h | ⟨g, o, ha, hg, h⟩
    · exact .inl h
    · refine .inr ⟨g, o, ha, hg, fun i hi => ⟨h i hi 0 (by omega), h i hi 1 (by omega), h i hi 2 (by omega), ItemCells.of fun j hj => ?_⟩⟩
      have := h i hi (3 + j) (by omega)
      rw [← Nat.add_assoc] at this
      rw [this]
      match j, hj with
      | 0, _ => rfl
      | 1, _ => rfl
      | 2, _ => rfl
      | 3, _ => rfl
      | 4, _ => rfl
theorem items_row {W : World} {a : Option Addr} {xs : List ItemD} : ItemsAt W a xs ↔ RowAt W a (itemCells xs) := by
  constructor
  · intro h
    refine row_of (k := 5) (by omega) (fun _ => rfl) ?_
    rcases h with h | ⟨g, o, ha, hg, h⟩
    · exact .inl h
    · exact .inr ⟨g, o, ha, hg, fun i hi j hj => (h i hi).at hj⟩
  · intro h
    rcases RowAt.get (k := 5) (fun _ => rfl) h (by omega) with h | ⟨g, o, ha, hg, h⟩
    · exact .inl h
    · exact .inr ⟨g, o, ha, hg, fun i hi => ItemCells.of fun j hj => h i hi j hj⟩
theorem takerCells_one (xs : List TakerD) : ∀ u ∈ takerCells xs, u.oneCell' = true := by
  intro u hu
  obtain ⟨x, _, hx⟩ := List.mem_flatMap.1 hu
  simp [TakerD.cells] at hx
  rcases hx with rfl | rfl <;> rfl
theorem outCells_one (xs : List OutD) : ∀ u ∈ outCells xs, u.oneCell' = true := by
  intro u hu
  obtain ⟨x, _, hx⟩ := List.mem_flatMap.1 hu
  simp [OutD.cells] at hx
  rcases hx with rfl | rfl | rfl | rfl | rfl | rfl | rfl | rfl <;> rfl

/-- What is known of a list's type. -/
structure ElemT (L E : TypeId) (size bytes : Nat) : Prop where
  ex : ∃ (i0 : TypeInfo) (z : Value), Try.prog.underlying L = some (.slice E) ∧ Try.prog.info? E = some i0 ∧ i0.zero = some z ∧ i0.size = size ∧ i0.bytes = bytes ∧ z.cells.size = size ∧ 0 < size
theorem elemT_of {L E : TypeId} {size bytes : Nat} {z : Value} (hu : Try.prog.underlying L = some (.slice E)) (hi : (Try.prog.info? E).map (fun i => (i.zero, i.size, i.bytes)) = some (some z, size, bytes)) (hz : z.cells.size = size) (h0 : 0 < size) : ElemT L E size bytes := by
  obtain ⟨i0, h1, h2, h3, h4⟩ := info_parts hi
  exact ⟨i0, z, hu, h1, h2, h3, h4, hz, h0⟩

/-- 'append(out, xs...)' at the operation, whatever the elements are. -/
theorem wp_append_row {L E : TypeId} {size bytes : Nat} (hE : ElemT L E size bytes) {w : World} {o : Oper} {act : Act} {K : Act → World → Prop} {Q : Exit → Act → World → Prop} (s x : Operand)
    (ho : o.op = .call { callee := .builtin .append, args := #[s, x], argTypes := #[L, L] })
    (base : Nat) (v : Value) (n : Nat) (cs : List Value) (hs : act.eval s = v) (hown : w.ownsRow base E size v n cs)
    (a : Option Addr) (m c : Nat) (ds : List Value) (hx : act.eval x = .slice a m c) (hm : ds.length = m * size) (hz : a = none → c = 0 ∧ m = 0) (hT : RowAt w a ds) (h1 : ∀ u ∈ ds, u.oneCell' = true)
    (hb : n + m ≤ maxLen) (hby : (n + m) * bytes ≤ 140737488355328) (hbase : base ≤ w.heap.size)
    (h : ∀ v' w', w'.ownsRow base E size v' (n + m) (cs ++ ds) → w.grownBy w' v.ownBlock → (v'.ownBlock = v.ownBlock ∨ v'.ownBlock = some w.heap.size) → K (act.put o.dst v') w') :
    Oper.wp Try.prog o act w K Q := by
  obtain ⟨i0, z, hu, hi, hz0, hz1, hz2, hzs, h0⟩ := hE.ex
  cases a with
  | none =>
    obtain ⟨rfl, rfl⟩ := hz rfl
    have hd : ds = [] := List.length_eq_zero_iff.1 (by rw [hm, Nat.zero_mul])
    subst hd
    have hrun := run_append_owned_none (P := Try.prog) (w := w) base L o.type E i0 size hu hi v n _ hown
    unfold Oper.wp
    simp [execOp, ho, resolve, invoke, builtin, hs, hx, hrun, Result.andThen]
    exact h v w (by simpa using hown) (grown_same _ _) (.inl rfl)
  | some ad =>
    obtain ⟨v', w', hr, h2, h3, h4, h5⟩ := run_append_own_at (P := Try.prog) w base L o.type E i0 z size bytes hu hi hz0 hz1 hz2 hzs h0 v n _ hown ad m c ds hm hT.news h1 hb hby hbase
    unfold Oper.wp execOp
    simp only [ho, resolve, invoke, builtin, Sem.run_bind, Sem.run_pure, Result.andThen_ok, List.map_toArray, List.map_cons, List.map_nil, hs, hx, hr]
    exact h v' w' h2 h3 h5
theorem append_row {L E : TypeId} {size bytes : Nat} (hE : ElemT L E size bytes) {w : World} {ops : Array Oper} {rest : List Oper} {o : Oper} {act : Act} {Q : Exit → Act → World → Prop} (hw : Region.wanted o (yielded ops act.tmps) = true) (s x : Operand)
    (ho : o.op = .call { callee := .builtin .append, args := #[s, x], argTypes := #[L, L] })
    (base : Nat) (v : Value) (n : Nat) (cs : List Value) (hs : act.eval s = v) (hown : w.ownsRow base E size v n cs)
    (a : Option Addr) (m c : Nat) (ds : List Value) (hx : act.eval x = .slice a m c) (hm : ds.length = m * size) (hz : a = none → c = 0 ∧ m = 0) (hT : RowAt w a ds) (h1 : ∀ u ∈ ds, u.oneCell' = true)
    (hb : n + m ≤ maxLen) (hby : (n + m) * bytes ≤ 140737488355328) (hbase : base ≤ w.heap.size)
    (h : ∀ v' w', w'.ownsRow base E size v' (n + m) (cs ++ ds) → w.grownBy w' v.ownBlock → (v'.ownBlock = v.ownBlock ∨ v'.ownBlock = some w.heap.size) → wpList Try.prog ops Q rest (act.put o.dst v') w') : wpList Try.prog ops Q (o :: rest) act w :=
  wpList_step fun K hK => by
    rw [if_pos hw]
    exact wp_append_row hE s x ho base v n cs hs hown a m c ds hx hm hz hT h1 hb hby hbase (fun v' w' h1 h2 h3 => hK _ _ (h v' w' h1 h2 h3))

theorem elemItem : ElemT 49 51 5 56 := elemT_of Try.underlying49 Try.infoItem rfl (by omega)

theorem Try.infoTaker : (Try.prog.info? 56).map (fun i => (i.zero, i.size, i.bytes)) = some (some (.agg #[.int .i64 0, .int .i64 0]), 2, 16) := by kernel_rfl

theorem elemTaker : ElemT 29 56 2 16 := elemT_of Try.underlying29 Try.infoTaker rfl (by omega)

theorem Try.infoOut : (Try.prog.info? 53).map (fun i => (i.zero, i.size, i.bytes)) = some (some (.agg #[.int .i64 0, .int .i64 0, .int .i64 0, .int .i64 0, .string ⟨#[]⟩, .string ⟨#[]⟩, .bool false, .int .i64 0]), 8, 80) := by kernel_rfl

theorem elemOut : ElemT 28 53 8 80 := elemT_of Try.underlying28 Try.infoOut rfl (by omega)

end Go.Proofs.Ytpoichgodamnkaa

/- Ub -/
namespace Go.Proofs.Ytpoichgodamnkaa
set_option linter.unusedVariables false
set_option maxRecDepth 100000
open Go.RowKit

/-- A function that has a body. -/
def Goes (f : FuncId) : Prop := ∀ (args : Array Value) (w : World), Sem.run Try.prog (callFunc f args) w = .ok (.enter f args) w

set_option maxHeartbeats 1000000 in
theorem tried_any (f : FuncId) (hf : Goes f) (cap : Array Value) (R : Int → World → Prop) (w : World)
    (hdo : Calls Try.prog f cap (w.alloc (.cells #[.int .i64 0] 32)) fun e w' => ∃ D, e = askE D ∧ R D w' ∧ w'.heap[w.heap.size]? = some (.cells #[.int .i64 0] 32 (0, 0))) :
    Calls Try.prog 42 #[.func (.func f) #[] cap] w fun e w' => ∃ D w1, e = .returned (.int .i64 D) ∧ R D w1 ∧ w1.heap[w.heap.size]? = some (.cells #[.int .i64 0] 32 (0, 0)) ∧ w' = w1.setCell ⟨w.heap.size, 0, none⟩ (.int .i64 D) := by
  have hmf : ∀ (fn : Fn) (first cap : Array Value) (w : World), (Instr.makeFunc fn first cap).run Try.prog w = .ok (.func fn first cap) w := fun _ _ _ _ => rfl
  have HDO := hidI hdo
  have hf' : ∀ (args : Array Value) (w : World), Sem.run Try.prog (callFunc f args) w = .ok (.enter f args) w := hf
  clear hdo hf
  go_enter_defers Try.func42, Try.ntmps42
  go_wp2_with fail
  refine HDO.out.mono ?_
  rintro e w2 ⟨D, rfl, hR, hb⟩
  have HR := hidI hR
  have HB := hidI hb
  have c0 := cell_of_cells hb 0
  have f0 := free_of_cells hb 0
  simp at c0
  clear hR hb
  by_cases hD : D = 0
  · subst hD
    rw [askE_ok]
    unfold okE
    go_wp2_with fail
    refine leaves_cons (f := 90) (args := #[.pointer (some ⟨w.heap.size, 0, none⟩)]) (by simp) (by simp [go_sem]) ?_
    refine (tried1_idle w.heap.size _).mono ?_
    rintro e u' w'' ⟨rfl, rfl, rfl⟩
    have c1 := cell_of_cells (setCell_block HB.out (j := 0) (.int .i64 0)) 0
    simp at c1
    simp [Leaves, settle, results, Try.results42, go_sem, c1]
    exact ⟨w2, HR.out, HB.out, rfl⟩
  · rw [askE_pan hD]
    unfold panE
    go_wp2_with fail
    refine leaves_cons (f := 90) (args := #[.pointer (some ⟨w.heap.size, 0, none⟩)]) (by simp) (by simp [go_sem]) ?_
    refine (tried1_pan w.heap.size D 0 [] _ c0 f0).mono ?_
    rintro e u' w'' ⟨rfl, rfl, rfl⟩
    have c1 := cell_of_cells (setCell_block HB.out (j := 0) (.int .i64 D)) 0
    simp at c1
    simp [Leaves, settle, results, Try.results42, go_sem, c1]
    exact ⟨w2, HR.out, HB.out, rfl⟩

end Go.Proofs.Ytpoichgodamnkaa

/- Uc -/
namespace Go.Proofs.Ytpoichgodamnkaa
set_option linter.unusedVariables false
set_option maxRecDepth 100000
open Go.RowKit

/-- A line's letters lie in a block of letters from n on (or nowhere). -/
def LineOwn (W : World) (n : Nat) (b : Option Addr) : Prop := b = none ∨ ∃ g o cur, b = some ⟨g, o, none⟩ ∧ n ≤ g ∧ W.heap[g]? = some (.cells cur 51 (0, 0))
/-- A line in a value. -/
structure LineV (W : World) (n : Nat) (xs : List ItemD) (v : Value) (b : Option Addr) (c : Nat) : Prop where
  v : v = .slice b xs.length c
  le : xs.length ≤ c
  cm : c ≤ maxLen
  nil : b = none → c = 0
  it : ItemsAt W b xs
  own : LineOwn W n b
structure LinesV (W : World) (n : Nat) (xss : List (List ItemD)) (vs : List Value) : Prop where
  len : vs.length = xss.length
  get : ∀ i (h : i < xss.length), ∃ v b c, vs[i]? = some v ∧ LineV W n xss[i] v b c
structure OwnSt (W : World) (n : Nat) (b1 b2 b3 : Option Addr) (m1 d1 m2 d2 m3 d3 : Nat) (s : StateD) : Prop where
  l1 : s.ready.length = m1
  l2 : s.outs.length = m2
  l3 : s.takers.length = m3
  x2 : m2 ≤ 100000000
  r1 : ∃ vs, W.ownsRow n 49 1 (.slice b1 m1 d1) m1 vs ∧ LinesV W n s.ready vs
  r2 : W.ownsRow n 53 8 (.slice b2 m2 d2) m2 (outCells s.outs)
  r3 : W.ownsRow n 56 2 (.slice b3 m3 d3) m3 (takerCells s.takers)
/-- What turns: blocks from n on, and block t; no block goes. -/
structure FrameT (n t : Nat) (W W' : World) : Prop where
  os : W'.os = W.os
  tape : W'.tape = W.tape
  output : W'.output = W.output
  size : W.heap.size ≤ W'.heap.size
  block : ∀ k, k < n → k ≠ t → W'.heap[k]? = W.heap[k]?
theorem FrameT.refl (n t : Nat) (W : World) : FrameT n t W W := ⟨rfl, rfl, rfl, Nat.le_refl _, fun _ _ _ => rfl⟩
theorem FrameT.trans {n t : Nat} {A B C : World} (h : FrameT n t A B) (k : FrameT n t B C) : FrameT n t A C :=
  ⟨k.os.trans h.os, k.tape.trans h.tape, k.output.trans h.output, Nat.le_trans h.size k.size, fun i h1 h2 => (k.block i h1 h2).trans (h.block i h1 h2)⟩
theorem FrameT.of_below {n m t : Nat} {A B : World} (h : Below m A B) (hn : n ≤ m) : FrameT n t A B := ⟨h.os, h.tape, h.output, h.size, fun k h1 _ => h.block k (by omega)⟩
theorem FrameT.below {n m t : Nat} {A B : World} (h : FrameT n t A B) (hn : m ≤ n) (ht : m ≤ t) : Below m A B := ⟨h.os, h.tape, h.output, h.size, fun k h1 => h.block k (by omega) (by omega)⟩
theorem FrameT.setCell {n t : Nat} {A B : World} (h : FrameT n t A B) {p : Addr} (hp : n ≤ p.block ∨ p.block = t) (u : Value) : FrameT n t A (B.setCell p u) :=
  h.trans ⟨rfl, rfl, rfl, by simp [World.setCell], fun k h1 h2 => Below.heap_setCell _ _ _ _ (by omega)⟩
theorem FrameT.grown {n t : Nat} {A B C : World} {row : Option Nat} (h : FrameT n t A B) (hg : B.grownBy C row) (hn : n ≤ B.heap.size) (hr : ∀ k, row = some k → n ≤ k) : FrameT n t A C :=
  h.trans ⟨hg.os, hg.tape, hg.output, hg.size, fun k h1 h2 => hg.block k (by omega) (fun e => by have := hr k e.symm; omega)⟩
theorem LineOwn.keep {W W' : World} {n : Nat} {b : Option Addr} (h : LineOwn W n b) (hB : Below W.heap.size W W') : LineOwn W' n b := by
  rcases h with h | ⟨g, o, cur, h1, h2, h3⟩
  · exact .inl h
  · exact .inr ⟨g, o, cur, h1, h2, plan_keep h3 hB⟩
theorem LineV.keep {W W' : World} {n : Nat} {xs : List ItemD} {v : Value} {b : Option Addr} {c : Nat} (h : LineV W n xs v b c) (hB : Below W.heap.size W W') : LineV W' n xs v b c := ⟨h.v, h.le, h.cm, h.nil, h.it.keep hB, h.own.keep hB⟩
theorem LinesV.keep {W W' : World} {n : Nat} {xss : List (List ItemD)} {vs : List Value} (h : LinesV W n xss vs) (hB : Below W.heap.size W W') : LinesV W' n xss vs :=
  ⟨h.len, fun i hi => by obtain ⟨v, b, c, h1, h2⟩ := h.get i hi; exact ⟨v, b, c, h1, h2.keep hB⟩⟩
theorem OwnSt.keep {W W' : World} {n : Nat} {b1 b2 b3 : Option Addr} {m1 d1 m2 d2 m3 d3 : Nat} {s : StateD} (h : OwnSt W n b1 b2 b3 m1 d1 m2 d2 m3 d3 s) (hB : Below W.heap.size W W') : OwnSt W' n b1 b2 b3 m1 d1 m2 d2 m3 d3 s := by
  obtain ⟨vs, h1, h2⟩ := h.r1
  exact ⟨h.l1, h.l2, h.l3, h.x2, ⟨vs, copied_two h1 hB, h2.keep hB⟩, copied_two h.r2 hB, copied_two h.r3 hB⟩
theorem LineOwn.lower {W : World} {n n' : Nat} {b : Option Addr} (h : LineOwn W n b) (hn : n' ≤ n) : LineOwn W n' b := by
  rcases h with h | ⟨g, o, cur, h1, h2, h3⟩
  · exact .inl h
  · exact .inr ⟨g, o, cur, h1, by omega, h3⟩
theorem LinesV.lower {W : World} {n n' : Nat} {xss : List (List ItemD)} {vs : List Value} (h : LinesV W n xss vs) (hn : n' ≤ n) : LinesV W n' xss vs :=
  ⟨h.len, fun i hi => by obtain ⟨v, b, c, h1, h2⟩ := h.get i hi; exact ⟨v, b, c, h1, h2.v, h2.le, h2.cm, h2.nil, h2.it, h2.own.lower hn⟩⟩
theorem OwnSt.lower {W : World} {n n' : Nat} {b1 b2 b3 : Option Addr} {m1 d1 m2 d2 m3 d3 : Nat} {s : StateD} (h : OwnSt W n b1 b2 b3 m1 d1 m2 d2 m3 d3 s) (hn : n' ≤ n) : OwnSt W n' b1 b2 b3 m1 d1 m2 d2 m3 d3 s := by
  obtain ⟨vs, h1, h2⟩ := h.r1
  exact ⟨h.l1, h.l2, h.l3, h.x2, ⟨vs, own_base h1 hn, h2.lower hn⟩, own_base h.r2 hn, own_base h.r3 hn⟩
theorem own_at {W : World} {base : Nat} {T : TypeId} {size : Nat} {a : Option Addr} {n c : Nat} {cs : List Value} (h : W.ownsRow base T size (.slice a n c) n cs) : RowAt W a cs := by
  obtain ⟨a', c', e, _, _, _, hr⟩ := own_row h
  cases e; exact hr
theorem own_le {W : World} {base : Nat} {T : TypeId} {size : Nat} {a : Option Addr} {n c : Nat} {cs : List Value} (h : W.ownsRow base T size (.slice a n c) n cs) : n ≤ c ∧ c ≤ maxLen ∧ (a = none → c = 0 ∧ n = 0) := by
  obtain ⟨a', c', e, h1, h2, h3, hr⟩ := own_row h
  cases e; exact ⟨h1, h2, h3⟩
theorem LinesV.at {W : World} {n : Nat} {xss : List (List ItemD)} {vs : List Value} (h : LinesV W n xss vs) {a : Option Addr} (hr : RowAt W a vs) : LinesAt W a xss := by
  rcases hr with hr | ⟨g, o, ha, hg, hr⟩
  · refine .inl (List.length_eq_zero_iff.1 ?_)
    have := h.len; rw [hr] at this; simpa using this.symm
  · refine .inr ⟨g, o, ha, hg, fun i hi => ?_⟩
    obtain ⟨v, b, c, h1, h2⟩ := h.get i hi
    exact ⟨b, c, by rw [hr _ _ h1, h2.v], h2.le, h2.cm, h2.nil, h2.it⟩
/-- A state of one's own is a state. -/
theorem OwnSt.state {W : World} {n : Nat} {b1 b2 b3 : Option Addr} {m1 d1 m2 d2 m3 d3 : Nat} {s : StateD} (h : OwnSt W n b1 b2 b3 m1 d1 m2 d2 m3 d3 s) : StateAt W b1 b2 b3 m1 m2 m3 s := by
  obtain ⟨vs, h1, h2⟩ := h.r1
  have g1 := own_le h1
  have g3 := own_le h.r3
  have := h.x2
  exact ⟨h.l1, h.l2, h.l3, by omega, by omega, by omega, h2.at (own_at h1), outs_row.2 (own_at h.r2), takers_row.2 (own_at h.r3)⟩
/-- A block of another type stays while one is written. -/
theorem row_other {W : World} {base : Nat} {T T' : TypeId} {size : Nat} {v : Value} {n : Nat} {cs : List Value} (h : W.ownsRow base T size v n cs) {B : Nat} {cur : Array Value} (hB : W.heap[B]? = some (.cells cur T' (0, 0))) (hT : T ≠ T') : v.ownBlock ≠ some B := by
  intro e
  rcases h.2 with ⟨rfl, _⟩ | ⟨g, cap, cur', rfl, _, hg, _⟩
  · cases e
  · have : g = B := by simpa [Value.ownBlock] using e
    subst this
    rw [hg] at hB
    cases hB; exact hT rfl
theorem row_keep {W W' : World} {base : Nat} {T : TypeId} {size : Nat} {v : Value} {n : Nat} {cs : List Value} (h : W.ownsRow base T size v n cs) (hk : ∀ k, v.ownBlock = some k → W'.heap[k]? = W.heap[k]?) : W'.ownsRow base T size v n cs := by
  refine ⟨h.1, ?_⟩
  rcases h.2 with h | ⟨g, cap, cur, h1, h2, h3, h4⟩
  · exact .inl h
  · exact .inr ⟨g, cap, cur, h1, h2, (hk g (by rw [h1]; rfl)).trans h3, h4⟩
theorem RowAt.keepBut {W W' : World} {a : Option Addr} {cs : List Value} (h : RowAt W a cs) (hs : W.heap.size ≤ W'.heap.size) (hk : ∀ g o, a = some ⟨g, o, none⟩ → W'.heap[g]? = W.heap[g]?) : RowAt W' a cs := by
  rcases h with h | ⟨g, o, ha, hg, h⟩
  · exact .inl h
  · exact .inr ⟨g, o, ha, Nat.lt_of_lt_of_le hg hs, fun j u hj => (World.cell?_of_block (w := W) (a := ⟨g, o + j, none⟩) (hk g o ha)).trans (h j u hj)⟩
/-- Blocks of letters from n on stay. -/
structure KeepI (n : Nat) (W W' : World) : Prop where
  size : W.heap.size ≤ W'.heap.size
  block : ∀ g cur, n ≤ g → W.heap[g]? = some (.cells cur 51 (0, 0)) → W'.heap[g]? = W.heap[g]?
theorem KeepI.of_below {n : Nat} {W W' : World} (h : Below W.heap.size W W') : KeepI n W W' := ⟨h.size, fun g cur _ hg => h.block g (lt_of_heap hg)⟩
theorem KeepI.trans {n : Nat} {A B C : World} (h : KeepI n A B) (k : KeepI n B C) : KeepI n A C := ⟨Nat.le_trans h.size k.size, fun g cur hn hg => (k.block g cur hn ((h.block g cur hn hg).trans hg)).trans (h.block g cur hn hg)⟩
theorem KeepI.setCell {n : Nat} {W : World} {B i : Nat} {cur : Array Value} {T : TypeId} (hB : W.heap[B]? = some (.cells cur T (0, 0))) (hT : T ≠ 51) (u : Value) : KeepI n W (W.setCell ⟨B, i, none⟩ u) :=
  ⟨by simp [World.setCell], fun g cur' _ hg => heap_setCell_other _ _ _ _ (fun e => by
    have e' : g = B := e
    rw [e', hB] at hg
    cases hg; exact hT rfl)⟩
theorem LineV.keepT {W W' : World} {n : Nat} {xs : List ItemD} {v : Value} {b : Option Addr} {c : Nat} (h2 : LineV W n xs v b c) (hk : KeepI n W W') : LineV W' n xs v b c := by
  refine ⟨h2.v, h2.le, h2.cm, h2.nil, ?_, ?_⟩
  · refine items_row.2 ((items_row.1 h2.it).keepBut hk.size fun g o ha => ?_)
    rcases h2.own with e | ⟨g', o', cur, e, e2, e3⟩
    · rw [e] at ha; cases ha
    · rw [e] at ha; cases ha; exact hk.block g cur e2 e3
  · rcases h2.own with e | ⟨g', o', cur, e, e2, e3⟩
    · exact .inl e
    · exact .inr ⟨g', o', cur, e, e2, (hk.block g' cur e2 e3).trans e3⟩
/-- The lines stay while blocks of other types are written. -/
theorem LinesV.keepT {W W' : World} {n : Nat} {xss : List (List ItemD)} {vs : List Value} (h : LinesV W n xss vs) (hk : KeepI n W W') : LinesV W' n xss vs := by
  refine ⟨h.len, fun i hi => ?_⟩
  obtain ⟨v, b, c, h1, h2⟩ := h.get i hi
  exact ⟨v, b, c, h1, h2.keepT hk⟩
theorem own_block {W : World} {base : Nat} {T : TypeId} {size g n c : Nat} {cs : List Value} (h : W.ownsRow base T size (.slice (some ⟨g, 0, none⟩) n c) n cs) : base ≤ g ∧ ∃ cur, W.heap[g]? = some (.cells cur T (0, 0)) := by
  rcases h.2 with ⟨e, _⟩ | ⟨g2, cap, cur, e, hb, hg, _⟩
  · cases e
  · cases e; exact ⟨hb, cur, hg⟩
theorem KeepI.row {W : World} {base n : Nat} {T : TypeId} {size g m c : Nat} {cs : List Value} (h : W.ownsRow base T size (.slice (some ⟨g, 0, none⟩) m c) m cs) (hT : T ≠ 51) (i : Nat) (u : Value) : KeepI n W (W.setCell ⟨g, i, none⟩ u) := by
  obtain ⟨_, cur, hg⟩ := own_block h
  exact KeepI.setCell hg hT u

end Go.Proofs.Ytpoichgodamnkaa

/- Ud -/
namespace Go.Proofs.Ytpoichgodamnkaa
set_option linter.unusedVariables false
set_option maxRecDepth 100000
open Go.RowKit Go.Maps

def PlV (W : World) (v : Value) (p : PlanD) : Prop := ∃ a1 a2 a3 n1 c1 n2 c2 n3 c3, v = .agg #[.slice a1 n1 c1, .slice a2 n2 c2, .slice a3 n3 c3] ∧ PlanAt W a1 a2 a3 n1 n2 n3 p
def StV (W : World) (v : Value) (s : StateD) : Prop := ∃ b1 b2 b3 m1 d1 m2 d2 m3 d3, v = .agg #[.slice b1 m1 d1, .slice b2 m2 d2, .slice b3 m3 d3, .int .i64 s.nextSeq, .int .i64 s.nextTag, .int .i64 s.came, .int .i64 s.acked, .int .i64 s.dropped] ∧ StateAt W b1 b2 b3 m1 m2 m3 s ∧ (b2 = none → d2 = 0) ∧ (b3 = none → d3 = 0)
def OwV (W : World) (n : Nat) (v : Value) (s : StateD) : Prop := ∃ b1 b2 b3 m1 d1 m2 d2 m3 d3, v = .agg #[.slice b1 m1 d1, .slice b2 m2 d2, .slice b3 m3 d3, .int .i64 s.nextSeq, .int .i64 s.nextTag, .int .i64 s.came, .int .i64 s.acked, .int .i64 s.dropped] ∧ OwnSt W n b1 b2 b3 m1 d1 m2 d2 m3 d3 s
theorem PlV.keep {W W' : World} {v : Value} {p : PlanD} (h : PlV W v p) (hB : Below W.heap.size W W') : PlV W' v p := by
  obtain ⟨a1, a2, a3, n1, c1, n2, c2, n3, c3, h1, h2⟩ := h
  exact ⟨a1, a2, a3, n1, c1, n2, c2, n3, c3, h1, h2.keep hB⟩
theorem StV.keep {W W' : World} {v : Value} {s : StateD} (h : StV W v s) (hB : Below W.heap.size W W') : StV W' v s := by
  obtain ⟨b1, b2, b3, m1, d1, m2, d2, m3, d3, h1, h2, h3⟩ := h
  exact ⟨b1, b2, b3, m1, d1, m2, d2, m3, d3, h1, h2.keep hB, h3⟩
theorem OwV.keep {W W' : World} {n : Nat} {v : Value} {s : StateD} (h : OwV W n v s) (hB : Below W.heap.size W W') : OwV W' n v s := by
  obtain ⟨b1, b2, b3, m1, d1, m2, d2, m3, d3, h1, h2⟩ := h
  exact ⟨b1, b2, b3, m1, d1, m2, d2, m3, d3, h1, h2.keep hB⟩
theorem OwV.lower {W : World} {n n' : Nat} {v : Value} {s : StateD} (h : OwV W n v s) (hn : n' ≤ n) : OwV W n' v s := by
  obtain ⟨b1, b2, b3, m1, d1, m2, d2, m3, d3, h1, h2⟩ := h
  exact ⟨b1, b2, b3, m1, d1, m2, d2, m3, d3, h1, h2.lower hn⟩
theorem OwnSt.nils {W : World} {n : Nat} {b1 b2 b3 : Option Addr} {m1 d1 m2 d2 m3 d3 : Nat} {s : StateD} (h : OwnSt W n b1 b2 b3 m1 d1 m2 d2 m3 d3 s) : (b2 = none → d2 = 0) ∧ (b3 = none → d3 = 0) :=
  ⟨fun e => ((own_le h.r2).2.2 e).1, fun e => ((own_le h.r3).2.2 e).1⟩
theorem OwV.st {W : World} {n : Nat} {v : Value} {s : StateD} (h : OwV W n v s) : StV W v s := by
  obtain ⟨b1, b2, b3, m1, d1, m2, d2, m3, d3, h1, h2⟩ := h
  exact ⟨b1, b2, b3, m1, d1, m2, d2, m3, d3, h1, h2.state, h2.nils⟩

set_option maxHeartbeats 2000000 in
theorem copyItem_any (xs : List ItemD) (a : Option Addr) (n c : Nat) (w : World) (hn : (itemCells xs).length = n * 5) (hb : n ≤ 100000000) (hz : a = none → c = 0 ∧ n = 0) (hp : RowAt w a (itemCells xs)) :
    Calls Try.prog 113 #[.slice a n c] w fun e w' => ∃ v, e = .returned v ∧ w'.ownsRow w.heap.size 51 5 v n (itemCells xs) ∧ Below w.heap.size w w' := by
  have HN := hidI hn
  have HP := hidI hp
  have HZ := hidI hz
  clear hn hp hz
  go_enter Try.func113, Try.ntmps113
  go_wp2_with (at_builtin; refine append_row elemItem (by kernel_rfl) _ _ rfl w.heap.size (.slice none 0 0) 0 [] rfl (World.ownsRow_nil _ _ _ _) a n c (itemCells xs) rfl HN.out HZ.out HP.out (itemCells_one xs) (by unfold maxLen; omega) (by omega) (Nat.le_refl _) ?_; intro v' w3 hown3 hgrow3 hblk)
  go_ret
  exact ⟨v', rfl, by simpa using hown3, (Below.refl _ _).grown hgrow3 (Nat.le_refl _) (by simp [Value.ownBlock])⟩

set_option maxHeartbeats 2000000 in
theorem copyOut_any (xs : List OutD) (a : Option Addr) (n c : Nat) (w : World) (hn : (outCells xs).length = n * 8) (hb : n ≤ 100000000) (hz : a = none → c = 0 ∧ n = 0) (hp : RowAt w a (outCells xs)) :
    Calls Try.prog 114 #[.slice a n c] w fun e w' => ∃ v, e = .returned v ∧ w'.ownsRow w.heap.size 53 8 v n (outCells xs) ∧ Below w.heap.size w w' := by
  have HN := hidI hn
  have HP := hidI hp
  have HZ := hidI hz
  clear hn hp hz
  go_enter Try.func114, Try.ntmps114
  go_wp2_with (at_builtin; refine append_row elemOut (by kernel_rfl) _ _ rfl w.heap.size (.slice none 0 0) 0 [] rfl (World.ownsRow_nil _ _ _ _) a n c (outCells xs) rfl HN.out HZ.out HP.out (outCells_one xs) (by unfold maxLen; omega) (by omega) (Nat.le_refl _) ?_; intro v' w3 hown3 hgrow3 hblk)
  go_ret
  exact ⟨v', rfl, by simpa using hown3, (Below.refl _ _).grown hgrow3 (Nat.le_refl _) (by simp [Value.ownBlock])⟩

set_option maxHeartbeats 2000000 in
theorem copyTaker_any (xs : List TakerD) (a : Option Addr) (n c : Nat) (w : World) (hn : (takerCells xs).length = n * 2) (hb : n ≤ 100000000) (hz : a = none → c = 0 ∧ n = 0) (hp : RowAt w a (takerCells xs)) :
    Calls Try.prog 115 #[.slice a n c] w fun e w' => ∃ v, e = .returned v ∧ w'.ownsRow w.heap.size 56 2 v n (takerCells xs) ∧ Below w.heap.size w w' := by
  have HN := hidI hn
  have HP := hidI hp
  have HZ := hidI hz
  clear hn hp hz
  go_enter Try.func115, Try.ntmps115
  go_wp2_with (at_builtin; refine append_row elemTaker (by kernel_rfl) _ _ rfl w.heap.size (.slice none 0 0) 0 [] rfl (World.ownsRow_nil _ _ _ _) a n c (takerCells xs) rfl HN.out HZ.out HP.out (takerCells_one xs) (by unfold maxLen; omega) (by omega) (Nat.le_refl _) ?_; intro v' w3 hown3 hgrow3 hblk)
  go_ret
  exact ⟨v', rfl, by simpa using hown3, (Below.refl _ _).grown hgrow3 (Nat.le_refl _) (by simp [Value.ownBlock])⟩


end Go.Proofs.Ytpoichgodamnkaa

/- Ue -/
namespace Go.Proofs.Ytpoichgodamnkaa
set_option linter.unusedVariables false
set_option maxRecDepth 100000
open Go.RowKit Go.Maps

/-- The first k lines lie in these values. -/
structure LinesTo (W : World) (n : Nat) (xss : List (List ItemD)) (k : Nat) (vs : List Value) : Prop where
  len : vs.length = xss.length
  get : ∀ i (h : i < xss.length), i < k → ∃ v b c, vs[i]? = some v ∧ LineV W n xss[i] v b c
theorem LinesTo.keepT {W W' : World} {n k : Nat} {xss : List (List ItemD)} {vs : List Value} (h : LinesTo W n xss k vs) (hk : KeepI n W W') : LinesTo W' n xss k vs := by
  refine ⟨h.len, fun i hi hik => ?_⟩
  obtain ⟨v, b, c, h1, h2⟩ := h.get i hi hik
  exact ⟨v, b, c, h1, h2.keepT hk⟩
theorem LinesTo.set {W : World} {n k : Nat} {xss : List (List ItemD)} {vs : List Value} (h : LinesTo W n xss k vs) (hk : k < xss.length) {v : Value} {b : Option Addr} {c : Nat} (hv : LineV W n xss[k] v b c) : LinesTo W n xss (k + 1) (vs.set k v) := by
  refine ⟨by rw [List.length_set]; exact h.len, fun i hi hik => ?_⟩
  by_cases e : i = k
  · subst e
    exact ⟨v, b, c, by rw [List.getElem?_set, if_pos rfl, if_pos (by rw [h.len]; exact hi)], hv⟩
  · obtain ⟨u, b', c', h1, h2⟩ := h.get i hi (by omega)
    exact ⟨u, b', c', by rw [List.getElem?_set, if_neg (fun e' => e e'.symm)]; exact h1, h2⟩
theorem LinesTo.all {W : World} {n k : Nat} {xss : List (List ItemD)} {vs : List Value} (h : LinesTo W n xss k vs) (hk : xss.length ≤ k) : LinesV W n xss vs := ⟨h.len, fun i hi => h.get i hi (by omega)⟩
/-- A row of letters of one's own is a line. -/
theorem line_of_own {W : World} {base n : Nat} {v : Value} {xs : List ItemD} {m : Nat} (h : W.ownsRow base 51 5 v m (itemCells xs)) (hn : n ≤ base) : ∃ b c, LineV W n xs v b c ∧ m = xs.length := by
  obtain ⟨e, a, c, h1, h2, h3, h4, h5⟩ := own_items h
  refine ⟨a, c, ⟨by rw [h1, e], by omega, h3, fun z => (h4 z).1, h5, ?_⟩, e⟩
  rcases h.2 with ⟨rfl, _⟩ | ⟨g, cap, cur, rfl, hb, hg, _⟩
  · cases h1; exact .inl rfl
  · cases h1; exact .inr ⟨g, 0, cur, rfl, by omega, hg⟩

set_option maxRecDepth 100000 in
set_option maxHeartbeats 4000000 in
theorem copiedS_any (s : StateD) (b1 b2 b3 : Option Addr) (m1 d1 m2 d2 m3 d3 : Nat) (w : World) (hs : StateAt w b1 b2 b3 m1 m2 m3 s) (hn2 : b2 = none → d2 = 0) (hn3 : b3 = none → d3 = 0) (h1 : m1 ≤ 100) (hl : ∀ l ∈ s.ready, l.length ≤ 100) (h2 : m2 ≤ 1000) (h3 : m3 ≤ 100) :
    Calls Try.prog 97 #[.agg #[.slice b1 m1 d1, .slice b2 m2 d2, .slice b3 m3 d3, .int .i64 s.nextSeq, .int .i64 s.nextTag, .int .i64 s.came, .int .i64 s.acked, .int .i64 s.dropped]] w fun e w' => ∃ v, e = .returned v ∧ OwV w' w.heap.size v s ∧ Below w.heap.size w w' := by
  obtain ⟨i0, hi, hz0, hz1, hz2⟩ := info_parts Try.infoLine
  obtain ⟨W2, hW2, hs2, hb0, hb1, hBw⟩ : ∃ W2, W2 = (w.alloc (.cells #[.slice b1 m1 d1, .slice b2 m2 d2, .slice b3 m3 d3, .int .i64 s.nextSeq, .int .i64 s.nextTag, .int .i64 s.came, .int .i64 s.acked, .int .i64 s.dropped] 31)).alloc (.cells #[.slice none 0 0, .slice none 0 0, .slice none 0 0, .int .i64 0, .int .i64 0, .int .i64 0, .int .i64 0, .int .i64 0] 31) ∧ W2.heap.size = w.heap.size + 2 ∧ W2.heap[w.heap.size]? = some (.cells #[.slice b1 m1 d1, .slice b2 m2 d2, .slice b3 m3 d3, .int .i64 s.nextSeq, .int .i64 s.nextTag, .int .i64 s.came, .int .i64 s.acked, .int .i64 s.dropped] 31 (0, 0)) ∧ W2.heap[w.heap.size + 1]? = some (.cells #[.slice none 0 0, .slice none 0 0, .slice none 0 0, .int .i64 0, .int .i64 0, .int .i64 0, .int .i64 0, .int .i64 0] 31 (0, 0)) ∧ Below w.heap.size w W2 := by
    obtain ⟨h1, h2, h3, h4⟩ := two_heap w _ _ _ rfl
    exact ⟨_, rfl, h1, h2, h3, h4⟩
  have HW2 := hidI hW2
  have HB0 := hidI hb0
  have HB1 := hidI hb1
  have HBW := hidI hBw
  have HS := hidI (hs.keep hBw)
  have HM1 : Hid (s.ready.length = m1) := hs.l1
  have HM2 : Hid (s.outs.length = m2) := hs.l2
  have HM3 : Hid (s.takers.length = m3) := hs.l3
  have HS2 : Hid (W2.heap.size = w.heap.size + 2) := hs2
  have HN2 := hidI hn2
  have HN3 := hidI hn3
  have HL := hidI hl
  have s0 := hBw.size
  obtain ⟨y0, y1, y2, y3, y4, y5, y6, y7⟩ := st_cells hb0
  clear hW2 hb0 hb1 hs hs2 hn2 hn3 hl hBw
  go_enter Try.func97, Try.ntmps97
  go_wp2_with (at_make; rw [← HW2.out]; refine wpList_make_full _ rfl _ _ 27 rfl W2.heap.size 49 i0 (.slice none 0 0) 1 Try.underlying27 hi hz0 hz1 _ _ _ _ m1 rfl rfl rfl rfl (by rw [hz2]; omega) (by unfold maxLen; omega) (Nat.le_refl _) ?_; intro w3 hown3 hgrow3; have q3 := (hgrow3.block w.heap.size (by have := HS2.out; omega) (by simp)).trans HB0.out; clear y0 y1 y2 y3 y4 y5 y6 y7; obtain ⟨y0, y1, y2, y3, y4, y5, y6, y7⟩ := st_cells q3)
  clear q3
  have HB3 : Hid (Below W2.heap.size W2 w3) := (Below.refl _ _).grown hgrow3 (Nat.le_refl _) (by simp)
  have HO3 := hidI hown3
  clear hown3 hgrow3 y0 y1 y2 y3 y4 y5 y6 y7
  go_loopw [4, 5, 13] (fun _ _ i wr => ∃ (k : Nat) (vs : List Value), k ≤ m1 ∧ i = .int .i64 k ∧ wr.ownsRow W2.heap.size 49 1 (.slice (some ⟨W2.heap.size, 0, none⟩) m1 m1) m1 vs ∧ LinesTo wr W2.heap.size s.ready k vs ∧ Below W2.heap.size W2 wr) (fun _ _ i _ => m1 - (intOf i).toNat)
  case atStart => exact ⟨0, _, Nat.zero_le _, rfl, HO3.out, ⟨by rw [made_lines, List.length_replicate]; exact HM1.out.symm, fun i hi h => absurd h (Nat.not_lt_zero _)⟩, HB3.out⟩
  case round =>
    obtain ⟨k, vs, hk, rfl, hown, hlt0, hB⟩ := hrel
    have HO := hidI hown
    have HLT0 := hidI hlt0
    have HB := hidI hB
    have hBs := hB.size
    obtain ⟨y0, y1, y2, y3, y4, y5, y6, y7⟩ := st_cells ((hB.block _ (by have := HS2.out; omega)).trans HB0.out)
    clear hown hlt0
    by_cases hlt : k < m1
    · have HLT := hidI hlt
      have hkl : k < s.ready.length := by rw [HM1.out]; exact hlt
      obtain ⟨g, o, b, c, ha, hg, hl⟩ := (HS.out.q1.keep hB).get hkl
      subst ha
      have c1 := hl.cell
      have HLC := hidI hl
      have HKL := hidI hkl
      obtain ⟨n, hn⟩ : ∃ n, n = (s.ready[k]'hkl).length := ⟨_, rfl⟩
      have HNN := hidI hn
      rw [← hn] at c1
      have hn100 : n ≤ 100 := by rw [hn]; exact HL.out _ (List.getElem_mem hkl)
      have j1 : (0 : Int) ≤ (k : Int) := by omega
      have j2 : (k : Int) < m1 := by omega
      clear hl hn
      go_wp2_with fail
      refine (copyItem_any (s.ready[k]'HKL.out) b n c wr (by rw [itemCells_len, HNN.out]) (by omega) (fun e => ⟨HLC.out.nil e, by have := HLC.out.nil e; have := HLC.out.le; have := HNN.out; omega⟩) (items_row.1 HLC.out.it)).mono ?_
      rintro e w5 ⟨v, rfl, hown5, hB5⟩
      obtain ⟨b5, c5, hv5, hn5⟩ := line_of_own hown5 (Nat.le_trans hBs (Nat.le_refl _))
      have hve := hv5.v
      have HV5 := hidI hv5
      have hO5 := copied_two HO.out hB5
      have hf5 := hO5.frozenAt k
      have hc5 := hO5.cellAt k (by omega)
      have HO5 := hidI hO5
      have HB5 := hidI hB5
      have s5 := hB5.size
      have hvs : vs[k]? = some (vs[k]'(by rw [HLT0.out.len]; exact HKL.out)) := List.getElem?_eq_getElem _
      rw [hvs] at hc5
      subst hve
      clear hv5 hO5 hB5 hown5 hn5 hvs
      go_wp2_with fail
      go_roundw
      case rel =>
        have hst := HO5.out.stored k (.slice b5 (s.ready[k]'HKL.out).length c5)
        refine ⟨k + 1, vs.set k (.slice b5 (s.ready[k]'HKL.out).length c5), HLT.out, by have := HLT.out; go_num, hst.1, ?_, ?_⟩
        · have hki := KeepI.row (n := W2.heap.size) HO5.out (by decide) k (.slice b5 (s.ready[k]'HKL.out).length c5)
          exact LinesTo.set ((HLT0.out.keepT (KeepI.of_below HB5.out)).keepT hki) HKL.out (HV5.out.keepT hki)
        · exact (HB.out.trans (HB5.out.mono hBs)).setCell (p := ⟨W2.heap.size, k, none⟩) (Nat.le_refl _) _
      case measure => have := HLT.out; simp [intOf]; omega
    · have hke : m1 = k := by omega
      subst hke
      clear hlt hk
      have hO0 := (hB.block _ (by have := HS2.out; omega)).trans HB0.out
      have HOD : Hid (∀ W, Below wr.heap.size wr.drew W → W.heap[w.heap.size]? = some (.cells #[.slice b1 m1 d1, .slice b2 m2 d2, .slice b3 m3 d3, .int .i64 s.nextSeq, .int .i64 s.nextTag, .int .i64 s.came, .int .i64 s.acked, .int .i64 s.dropped] 31 (0, 0))) := fun W hW => (hW.block _ (by have := HS2.out; omega)).trans hO0
      have HRD : Hid (∀ W, Below wr.heap.size wr.drew W → W.heap[w.heap.size + 1]? = some (.cells #[.slice none 0 0, .slice none 0 0, .slice none 0 0, .int .i64 0, .int .i64 0, .int .i64 0, .int .i64 0, .int .i64 0] 31 (0, 0))) := fun W hW => (hW.block _ (by have := HS2.out; omega)).trans ((hB.block _ (by have := HS2.out; omega)).trans HB1.out)
      have HST := hidI (HS.out.keep hB)
      have hm2 : b2 = none → d2 = 0 ∧ m2 = 0 := fun e => ⟨HN2.out e, by
        rcases HST.out.q2 with h | ⟨_, _, h, _⟩
        · rw [← HM2.out, h]; rfl
        · rw [e] at h; cases h⟩
      have hm3 : b3 = none → d3 = 0 ∧ m3 = 0 := fun e => ⟨HN3.out e, by
        rcases HST.out.q3 with h | ⟨_, _, h, _⟩
        · rw [← HM3.out, h]; rfl
        · rw [e] at h; cases h⟩
      have CO := hidI (copyOut_any s.outs b2 m2 d2 wr.drew (by rw [outCells, flat_length (k := 8) (fun _ => rfl), HM2.out]) (by omega) hm2 (outs_row.1 HST.out.q2))
      have CT : Hid (∀ W, Below wr.heap.size wr.drew W → Calls Try.prog 115 #[.slice b3 m3 d3] W fun e w' => ∃ v, e = .returned v ∧ w'.ownsRow W.heap.size 56 2 v m3 (takerCells s.takers) ∧ Below W.heap.size W w') := fun W hW => copyTaker_any s.takers b3 m3 d3 W (by rw [takerCells, flat_length (k := 2) (fun _ => rfl), HM3.out]) (by omega) hm3 ((takers_row.1 HST.out.q3).keep (below_undrew hW))
      clear hm2 hm3 hO0
      go_wp2_with fail
      go_region_with (first
        | (go_at_call 114; refine CO.out.mono ?_; rintro e w6 ⟨v6, rfl, hown6, hB6⟩; obtain ⟨a6, c6, rfl, l6, l6', l6n, r6⟩ := own_row hown6; have HO6 := hidI hown6; have HB6 := hidI hB6; obtain ⟨z0, z1, z2, z3, z4, z5, z6, z7⟩ := st_cells (HOD.out _ hB6); clear hown6 hB6 l6 l6' l6n r6)
        | (go_at_call 115; refine (CT.out _ HB6.out).mono ?_; rintro e w7 ⟨v7, rfl, hown7, hB7⟩; obtain ⟨a7, c7, rfl, l7, l7', l7n, r7⟩ := own_row hown7; have HO7 := hidI hown7; have HB7 := hidI hB7; have k7 := HB6.out.trans (hB7.mono HB6.out.size); have q7 := HOD.out _ k7; have K7 := hidI k7; obtain ⟨u0, u1, u2, u3, u4, u5, u6, u7⟩ := st_cells q7; have f0 := free_of_cells q7 0; have f1 := free_of_cells q7 1; have f2 := free_of_cells q7 2; have Q7 := hidI q7; have r7b := HRD.out _ K7.out; have R7 := hidI r7b; obtain ⟨x0, x1, x2, x3, x4, x5, x6, x7⟩ := st_cells r7b; have e0 := free_of_cells r7b 0; have e1 := free_of_cells r7b 1; have e2 := free_of_cells r7b 2; have e3 := free_of_cells r7b 3; have e4 := free_of_cells r7b 4; have e5 := free_of_cells r7b 5; have e6 := free_of_cells r7b 6; have e7 := free_of_cells r7b 7; clear r7b hown7 hB7 l7 l7' l7n r7 q7 k7))
      all_goals
        go_wp2_with fail
        generalize hX : World.setCell (World.setCell (World.setCell w7 _ _) _ _) _ _ = X
        generalize hW4 : World.setCell (World.setCell (World.setCell (World.setCell (World.setCell (World.setCell (World.setCell (World.setCell X _ _) _ _) _ _) _ _) _ _) _ _) _ _) _ _ = W4
        have tX : TurnB w.heap.size w7 X := by rw [← hX]; exact ((setCell_turnB _ _ _ _).trans (setCell_turnB _ _ _ _)).trans (setCell_turnB _ _ _ _)
        have hRX : X.heap[w.heap.size + 1]? = _ := (tX.block _ (lt_of_heap R7.out) (by omega)).trans R7.out
        obtain ⟨b4, t4⟩ := store8 hRX hW4
        obtain ⟨z0, z1, z2, z3, z4, z5, z6, z7⟩ := st_cells b4
        exact bodyPost_ret (v := .agg #[.slice (some ⟨W2.heap.size, 0, none⟩) m1 m1, .slice a6 m2 c6, .slice a7 m3 c7, .int .i64 s.nextSeq, .int .i64 s.nextTag, .int .i64 s.came, .int .i64 s.acked, .int .i64 s.dropped]) (by simp [results, Try.results97, go_sem, z0, z1, z2, z3, z4, z5, z6, z7]) rfl (by
          have T4 : ∀ k, W2.heap.size ≤ k → k < w7.heap.size → W4.heap[k]? = w7.heap[k]? := fun k h1 h2 => (t4.block k (Nat.lt_of_lt_of_le h2 tX.size) (by have := HS2.out; omega)).trans (tX.block k h2 (by have := HS2.out; omega))
          have hsz : w7.heap.size ≤ W4.heap.size := Nat.le_trans tX.size t4.size
          have g6 : W2.heap.size ≤ wr.heap.size := hBs
          have g7 : wr.heap.size ≤ w6.heap.size := HB6.out.size
          have B7 : Below wr.heap.size wr w7 := below_undrew K7.out
          have r1 := copied_two HO.out B7
          have KI : KeepI w.heap.size w7 W4 := ⟨hsz, fun g cur hn hg => by
            by_cases hge : W2.heap.size ≤ g
            · exact T4 g hge (lt_of_heap hg)
            · exfalso
              have : g = w.heap.size ∨ g = w.heap.size + 1 := by have := HS2.out; omega
              rcases this with rfl | rfl
              · rw [Q7.out] at hg; cases hg
              · rw [R7.out] at hg; cases hg⟩
          have KR : ∀ {T : TypeId} {size n : Nat} {v : Value} {cs : List Value} {base : Nat}, w7.ownsRow base T size v n cs → W2.heap.size ≤ base → W4.ownsRow w.heap.size T size v n cs := fun h hb => own_base (row_keep h (fun k hk => by have := h.lt k hk; exact T4 k (by omega) this.2)) (by omega)
          refine ⟨_, rfl, ⟨_, _, _, _, _, _, _, _, _, rfl, HM1.out, HM2.out, HM3.out, by omega, ⟨vs, KR r1 (Nat.le_refl _), ?_⟩, KR (copied_two HO6.out HB7.out) g6, KR HO7.out (by omega)⟩, ?_⟩
          · exact (((HLT0.out.all (by rw [HM1.out]; exact Nat.le_refl _)).lower (by omega)).keepT (KeepI.of_below B7)).keepT KI
          · exact HBW.out.trans (((hB.trans (B7.mono hBs)).mono s0).trans ((tX.below (by have := B7.size; omega) (Nat.le_refl _)).trans (t4.below (by have := tX.size; have := B7.size; omega) (by omega)))))

end Go.Proofs.Ytpoichgodamnkaa

/- Uf -/
namespace Go.Proofs.Ytpoichgodamnkaa
set_option linter.unusedVariables false
set_option maxRecDepth 100000
open Go.RowKit Go.Maps

/-- A state of one's own in a box. -/
def StBox (W : World) (n t : Nat) (s : StateD) : Prop := ∃ b1 b2 b3 m1 d1 m2 d2 m3 d3, W.heap[t]? = some (.cells #[.slice b1 m1 d1, .slice b2 m2 d2, .slice b3 m3 d3, .int .i64 s.nextSeq, .int .i64 s.nextTag, .int .i64 s.came, .int .i64 s.acked, .int .i64 s.dropped] 31 (0, 0)) ∧ OwnSt W n b1 b2 b3 m1 d1 m2 d2 m3 d3 s
def zerS : Value := .agg #[.slice none 0 0, .slice none 0 0, .slice none 0 0, .int .i64 0, .int .i64 0, .int .i64 0, .int .i64 0, .int .i64 0]
theorem OwnSt.turn {W W' : World} {n t : Nat} {b1 b2 b3 : Option Addr} {m1 d1 m2 d2 m3 d3 : Nat} {s : StateD} {cur : Array Value} {T : TypeId} (h : OwnSt W n b1 b2 b3 m1 d1 m2 d2 m3 d3 s) (ht : W.heap[t]? = some (.cells cur T (0, 0))) (hT : T ≠ 51 ∧ T ≠ 53 ∧ T ≠ 56 ∧ T ≠ 49) (k : TurnB t W W') : OwnSt W' n b1 b2 b3 m1 d1 m2 d2 m3 d3 s := by
  obtain ⟨vs, h1, h2⟩ := h.r1
  have KR : ∀ {T' : TypeId} {size m : Nat} {v : Value} {cs : List Value}, W.ownsRow n T' size v m cs → T' ≠ T → W'.ownsRow n T' size v m cs := fun h hne => row_keep h (fun j hj => k.block j (h.lt j hj).2 (fun e => row_other h ht hne (by rw [hj, e])))
  refine ⟨h.l1, h.l2, h.l3, h.x2, ⟨vs, KR h1 (fun e => hT.2.2.2 e.symm), h2.keepT ⟨k.size, fun g cur' _ hg => k.block g (lt_of_heap hg) (fun e => ?_)⟩⟩, KR h.r2 (fun e => hT.2.1 e.symm), KR h.r3 (fun e => hT.2.2.1 e.symm)⟩
  rw [e, ht] at hg
  cases hg; exact hT.1 rfl
/-- What a call that changes a state answers: the new state, or nothing. -/
def StRes (W : World) (n : Nat) (v : Value) (E : Int) (s : StateD) : Prop := (E = 0 → OwV W n v s) ∧ (E ≠ 0 → v = zerS)
theorem StRes.keep {W W' : World} {n : Nat} {v : Value} {E : Int} {s : StateD} (h : StRes W n v E s) (hB : Below W.heap.size W W') : StRes W' n v E s := ⟨fun e => (h.1 e).keep hB, h.2⟩
theorem StRes.lower {W : World} {n n' : Nat} {v : Value} {E : Int} {s : StateD} (h : StRes W n v E s) (hn : n' ≤ n) : StRes W n' v E s := ⟨fun e => (h.1 e).lower hn, h.2⟩
/-- What a function that changes a state does: an error, or that state, and that number. -/
def Does (f : FuncId) (cap : Array Value) (w : World) (s : StateD) (E N : Int) (S' : StateD) : Prop :=
  ∀ (W : World) (n t : Nat), Below w.heap.size w W → w.heap.size ≤ t → t < n → n ≤ W.heap.size → StBox W n t s →
    Calls Try.prog f (#[.pointer (some ⟨t, 0, none⟩)] ++ cap) W fun e W' => FrameT n t W W' ∧ ((E ≠ 0 ∧ e = panE E) ∨ (E = 0 ∧ e = .returned (.int .i64 N) ∧ StBox W' n t S'))
theorem small_state {p : PlanD} {s : StateD} (h : RightX p s 0) : s.ready.length ≤ 100 ∧ (∀ l ∈ s.ready, l.length ≤ 100) ∧ s.outs.length ≤ 1000 ∧ s.takers.length ≤ 100 := by
  have h1 := h.rp.few.2.1
  have h2 := h.len
  have h3 := h.tk
  refine ⟨by omega, fun l hl => by have := h.line6 hl; omega, ?_, by omega⟩
  have hall : sumH s s.takers.length = s.outs.length := sumH_all h.outs
  have hk : ∀ k, k ≤ s.takers.length → sumH s k ≤ k * 4 := by
    intro k
    induction k with
    | zero => intro _; exact Nat.le_refl _
    | succ k ih =>
      intro hk
      have a := ih (by omega)
      have b := h.hold k (by omega)
      have hm : (s.takers.getD k ⟨0, 0⟩).most ≤ 4 := by
        rw [List.getD_eq_getElem?_getD, List.getElem?_eq_getElem (by omega)]
        have := h.tok _ (List.getElem_mem (show k < s.takers.length by omega))
        unfold takerOk at this
        simp only [Bool.and_eq_true, decide_eq_true_eq] at this
        exact this.2.2
      show sumH s k + heldN s k ≤ (k + 1) * 4
      omega
  have := hk s.takers.length (Nat.le_refl _)
  omega
theorem StateAt.small {W : World} {b1 b2 b3 : Option Addr} {m1 m2 m3 : Nat} {s : StateD} {p : PlanD} (h : StateAt W b1 b2 b3 m1 m2 m3 s) (hr : RightX p s 0) : m1 ≤ 100 ∧ (∀ l ∈ s.ready, l.length ≤ 100) ∧ m2 ≤ 1000 ∧ m3 ≤ 100 := by
  have := small_state hr
  rw [h.l1, h.l2, h.l3] at this
  exact this

set_option maxRecDepth 100000 in
set_option maxHeartbeats 4000000 in
theorem told1_any (p : PlanD) (a1 a2 a3 : Option Addr) (n1 c1 n2 c2 n3 c3 : Nat) (s : StateD) (b1 b2 b3 : Option Addr) (m1 d1 m2 d2 m3 d3 : Nat) (f : FuncId) (hf : Goes f) (cap : Array Value) (w0 : World) (E N : Int) (S' : StateD) (hE0 : stE p s ≠ 0 → E = stE p s) (hdo : stE p s = 0 → Does f cap w0 s E N S')
    (B : Nat) (hB0 : w0.heap.size ≤ B) (w : World) (h0 : Below w0.heap.size w0 w) (hw : B + 6 < w.heap.size) (hp : PlanAt w a1 a2 a3 n1 n2 n3 p) (hs : StateAt w b1 b2 b3 m1 m2 m3 s) (hn2 : b2 = none → d2 = 0) (hn3 : b3 = none → d3 = 0)
    (x0 : w.heap[B]? = some (.cells #[.slice a1 n1 c1, .slice a2 n2 c2, .slice a3 n3 c3] 26 (0, 0))) (x1 : w.heap[B + 1]? = some (.cells #[.slice b1 m1 d1, .slice b2 m2 d2, .slice b3 m3 d3, .int .i64 s.nextSeq, .int .i64 s.nextTag, .int .i64 s.came, .int .i64 s.acked, .int .i64 s.dropped] 31 (0, 0))) (x2 : w.heap[B + 2]? = some (.cells #[.func (.func f) #[] cap] 91 (0, 0))) (x4 : w.heap[B + 4]? = some (.cells #[.slice none 0 0, .slice none 0 0, .slice none 0 0, .int .i64 0, .int .i64 0, .int .i64 0, .int .i64 0, .int .i64 0] 31 (0, 0))) (x5 : w.heap[B + 5]? = some (.cells #[.int .i64 0] 3 (0, 0))) :
    Calls Try.prog 96 #[.pointer (some ⟨B, 0, none⟩), .pointer (some ⟨B + 1, 0, none⟩), .pointer (some ⟨B + 4, 0, none⟩), .pointer (some ⟨B + 2, 0, none⟩), .pointer (some ⟨B + 5, 0, none⟩)] w fun e w' =>
      e = askE E ∧ w.heap.size ≤ w'.heap.size ∧ (∀ k, k < w.heap.size → k ≠ B + 4 → k ≠ B + 5 → w'.heap[k]? = w.heap[k]?) ∧ w'.os = w.os ∧ w'.tape = w.tape ∧ w'.output = w.output ∧ (E = 0 → (∃ n, w.heap.size ≤ n ∧ StBox w' n (B + 4) S') ∧ w'.heap[B + 5]? = some (.cells #[.int .i64 N] 3 (0, 0))) := by
  obtain ⟨E0, hE0'⟩ : ∃ E0, E0 = stE p s := ⟨_, rfl⟩
  have HE0 := hidI hE0'
  have HEE := hidI hE0
  have HDO := hidI hdo
  have HP := hidI hp
  have HS := hidI hs
  have HN2 := hidI hn2
  have HN3 := hidI hn3
  have H0 := hidI h0
  have X0 := hidI x0
  have X1 := hidI x1
  have X2 := hidI x2
  have X4 := hidI x4
  have X5 := hidI x5
  have hf' : ∀ (args : Array Value) (w : World), Sem.run Try.prog (callFunc f args) w = .ok (.enter f args) w := hf
  obtain ⟨p0, p1, p2⟩ := pl_cells x0
  obtain ⟨y0, y1, y2, y3, y4, y5, y6, y7⟩ := st_cells x1
  clear hE0' hE0 hdo hp hs hn2 hn3 h0 x0 x1 x2 x4 x5 hf
  go_enter Try.func96, Try.ntmps96
  go_wp2_with fail
  refine (scheck_any p _ _ _ _ _ _ _ _ _ s _ _ _ _ _ _ _ _ _ _ HP.out HS.out).mono ?_
  rintro e w1 ⟨rfl, k1⟩
  rw [← HE0.out]
  have s1 := k1.size
  have k1' := k1.alloc s1 (.cells #[.int .i64 E0] 32)
  have s1' := k1'.size
  clear p0 p1 p2 y0 y1 y2 y3 y4 y5 y6 y7
  by_cases hz : E0 = 0
  · subst hz
    go_wp2_with (go_at_call 44; refine (ok_no _ _ (one_new _ _ _) (by simp)).mono ?_; rintro e w2 ⟨rfl, hB2⟩; have k2 := k1'.trans (hB2.mono s1'); have K2 := hidI k2; obtain ⟨y0, y1, y2, y3, y4, y5, y6, y7⟩ := st_cells (plan_keep X1.out k2); clear hB2)
    have hR := right_of HE0.out.symm
    obtain ⟨q1, q2, q3, q4⟩ := HS.out.small hR
    refine (copiedS_any s _ _ _ _ _ _ _ _ _ w2 (HS.out.keep K2.out) HN2.out HN3.out q1 q2 q3 q4).mono ?_
    rintro e w3 ⟨v3, rfl, hv3, k3'⟩
    have k3 := K2.out.trans (k3'.mono K2.out.size)
    obtain ⟨g1, g2, g3, l1, r1, l2, r2, l3, r3, rfl, ho⟩ := hv3
    have HO := hidI ho
    have K3 := hidI k3
    have K3' := hidI k3'
    have q4b := plan_keep X4.out k3
    have Q4 := hidI q4b
    obtain ⟨z0, z1, z2, z3, z4, z5, z6, z7⟩ := st_cells q4b
    have f0 := free_of_cells q4b 0
    have f1 := free_of_cells q4b 1
    have f2 := free_of_cells q4b 2
    have f3 := free_of_cells q4b 3
    have f4 := free_of_cells q4b 4
    have f5 := free_of_cells q4b 5
    have f6 := free_of_cells q4b 6
    have f7 := free_of_cells q4b 7
    have c2 := cell_of_cells (plan_keep X2.out k3) 0
    simp at c2
    clear y0 y1 y2 y3 y4 y5 y6 y7 q4b k3 k3' ho k2
    go_wp2_with fail
    generalize hW4 : World.setCell (World.setCell (World.setCell (World.setCell (World.setCell (World.setCell (World.setCell (World.setCell w3 _ _) _ _) _ _) _ _) _ _) _ _) _ _) _ _ = W4
    obtain ⟨b4, t4⟩ := store8 Q4.out hW4
    have kW4 : FrameT w.heap.size (B + 4) w W4 := (FrameT.of_below K3.out (Nat.le_refl _)).trans ⟨t4.os, t4.tape, t4.output, t4.size, fun k h1 h2 => t4.block k (by have := K3.out.size; omega) h2⟩
    have hdo := HDO.out HE0.out.symm W4 w2.heap.size (B + 4) (H0.out.trans (kW4.below H0.out.size (by omega))) (by omega) (by have := K2.out.size; omega) (by have := K3'.out.size; have := t4.size; omega) ⟨_, _, _, _, _, _, _, _, _, b4, HO.out.turn Q4.out (by decide) t4⟩
    refine hdo.mono ?_
    rintro e w5 ⟨hF, hc⟩
    have hF' : FrameT w.heap.size (B + 4) w w5 := kW4.trans ⟨hF.os, hF.tape, hF.output, hF.size, fun k h1 h2 => hF.block k (by have := K2.out.size; omega) h2⟩
    have HF := hidI hF'
    clear z0 z1 z2 z3 z4 z5 z6 z7 f0 f1 f2 f3 f4 f5 f6 f7 c2
    rcases hc with ⟨hne, rfl⟩ | ⟨rfl, rfl, hbx⟩
    · unfold panE
      exact ⟨rfl, by rw [askE_pan hne]; rfl, HF.out.size, fun k h1 h2 _ => HF.out.block k h1 h2, HF.out.os, HF.out.tape, HF.out.output, fun h => absurd h hne⟩
    · have q5 : w5.heap[B + 5]? = _ := (HF.out.block (B + 5) (by omega) (by omega)).trans X5.out
      have Q5 := hidI q5
      have HBX := hidI hbx
      have c0 := cell_of_cells q5 0
      simp at c0
      have f0 := free_of_cells q5 0
      clear q5 hbx hF hF' hdo
      go_wp2_with fail
      go_end0
      have hT5 := setCell_turnB w5 (B + 5) 0 (.int .i64 N)
      refine ⟨by rw [askE_ok]; rfl, Nat.le_trans HF.out.size hT5.size, fun k h1 h2 h3 => (hT5.block k (by have := HF.out.size; omega) h3).trans (HF.out.block k h1 h2), HF.out.os, HF.out.tape, HF.out.output, ⟨w2.heap.size, K2.out.size, ?_⟩, ?_⟩
      · obtain ⟨e1, e2, e3, i1, j1, i2, j2, i3, j3, hh, ho⟩ := HBX.out
        exact ⟨e1, e2, e3, i1, j1, i2, j2, i3, j3, (hT5.block _ (lt_of_heap hh) (by omega)).trans hh, ho.turn Q5.out (by decide) hT5⟩
      · exact setCell_block Q5.out (j := 0) (.int .i64 N)
  · have HZ := hidI hz
    have hE : E = E0 := by rw [HEE.out (by rw [← HE0.out]; exact hz), HE0.out]
    go_wp2_with (go_at_call 44; refine (ok_yes E0 _ _ (one_new _ _ _) (by simp) HZ.out).mono ?_; rintro e w2 ⟨rfl, hB2⟩)
    have k2 := k1'.trans (hB2.mono s1')
    subst hE
    exact ⟨rfl, by rw [askE_pan HZ.out]; rfl, k2.size, fun k h1 _ _ => k2.block k h1, k2.os, k2.tape, k2.output, fun h => absurd h HZ.out⟩

/-- Blocks that are laid one behind the other. -/
theorem allocs_heap : ∀ (os : List Obj) (w : World), (os.foldl World.alloc w).heap.size = w.heap.size + os.length ∧ (∀ i o, os[i]? = some o → (os.foldl World.alloc w).heap[w.heap.size + i]? = some o) ∧ Below w.heap.size w (os.foldl World.alloc w)
  | [], w => ⟨by simp, fun i o h => by simp at h, Below.refl _ _⟩
  | x :: r, w => by
    obtain ⟨h1, h2, h3⟩ := allocs_heap r (w.alloc x)
    rw [List.foldl_cons]
    have hb : Below w.heap.size w (w.alloc x) := (Below.refl _ _).alloc (Nat.le_refl _) _
    refine ⟨by rw [h1, World.size_alloc, List.length_cons]; omega, fun i o ho => ?_, hb.trans (h3.mono (by simp))⟩
    cases i with
    | zero =>
      simp at ho
      subst ho
      rw [Nat.add_zero, h3.block _ (by simp)]
      exact World.alloc_heap_new w _
    | succ i =>
      have := h2 i o (by simpa using ho)
      rw [World.size_alloc] at this
      rw [show w.heap.size + (i + 1) = w.heap.size + 1 + i by omega]
      exact this

set_option maxRecDepth 100000 in
set_option maxHeartbeats 4000000 in
theorem told_any (p : PlanD) (a1 a2 a3 : Option Addr) (n1 c1 n2 c2 n3 c3 : Nat) (s : StateD) (b1 b2 b3 : Option Addr) (m1 d1 m2 d2 m3 d3 : Nat) (f : FuncId) (hf : Goes f) (cap : Array Value) (E N : Int) (S' : StateD) (w : World) (hp : PlanAt w a1 a2 a3 n1 n2 n3 p) (hs : StateAt w b1 b2 b3 m1 m2 m3 s) (hn2 : b2 = none → d2 = 0) (hn3 : b3 = none → d3 = 0) (hE0 : stE p s ≠ 0 → E = stE p s) (hdo : stE p s = 0 → Does f cap w s E N S') :
    Calls Try.prog 55 #[.agg #[.slice a1 n1 c1, .slice a2 n2 c2, .slice a3 n3 c3], .agg #[.slice b1 m1 d1, .slice b2 m2 d2, .slice b3 m3 d3, .int .i64 s.nextSeq, .int .i64 s.nextTag, .int .i64 s.came, .int .i64 s.acked, .int .i64 s.dropped], .func (.func f) #[] cap] w fun e w' => ∃ v, e = .returned (.tuple #[v, .int .i64 (if E = 0 then N else 0), .int .i64 E]) ∧ StRes w' w.heap.size v E S' ∧ Below w.heap.size w w' := by
  obtain ⟨hz6, hg6, hB6⟩ := allocs_heap [.cells #[.slice a1 n1 c1, .slice a2 n2 c2, .slice a3 n3 c3] 26, .cells #[.slice b1 m1 d1, .slice b2 m2 d2, .slice b3 m3 d3, .int .i64 s.nextSeq, .int .i64 s.nextTag, .int .i64 s.came, .int .i64 s.acked, .int .i64 s.dropped] 31, .cells #[.func (.func f) #[] cap] 91, .cells #[.slice none 0 0, .slice none 0 0, .slice none 0 0, .int .i64 0, .int .i64 0, .int .i64 0, .int .i64 0, .int .i64 0] 31, .cells #[.slice none 0 0, .slice none 0 0, .slice none 0 0, .int .i64 0, .int .i64 0, .int .i64 0, .int .i64 0, .int .i64 0] 31, .cells #[.int .i64 0] 3] w
  obtain ⟨W6, hW6⟩ : ∃ W6, W6 = List.foldl World.alloc w [.cells #[.slice a1 n1 c1, .slice a2 n2 c2, .slice a3 n3 c3] 26, .cells #[.slice b1 m1 d1, .slice b2 m2 d2, .slice b3 m3 d3, .int .i64 s.nextSeq, .int .i64 s.nextTag, .int .i64 s.came, .int .i64 s.acked, .int .i64 s.dropped] 31, .cells #[.func (.func f) #[] cap] 91, .cells #[.slice none 0 0, .slice none 0 0, .slice none 0 0, .int .i64 0, .int .i64 0, .int .i64 0, .int .i64 0, .int .i64 0] 31, .cells #[.slice none 0 0, .slice none 0 0, .slice none 0 0, .int .i64 0, .int .i64 0, .int .i64 0, .int .i64 0, .int .i64 0] 31, .cells #[.int .i64 0] 3] := ⟨_, rfl⟩
  rw [← hW6] at hz6 hg6 hB6
  have x0 := hg6 0 _ rfl
  have x1 := hg6 1 _ rfl
  have x2 := hg6 2 _ rfl
  have x3 := hg6 3 _ rfl
  have x4 := hg6 4 _ rfl
  have x5 := hg6 5 _ rfl
  have hz6' : W6.heap.size = w.heap.size + 6 := by rw [hz6]; rfl
  have l7 : Below W6.heap.size W6 (W6.alloc (.cells #[.int .i64 0] 32)) := (Below.refl _ _).alloc (Nat.le_refl _) _
  have x6 := World.alloc_heap_new W6 (.cells #[.int .i64 0] 32)
  have T1 := told1_any p a1 a2 a3 n1 c1 n2 c2 n3 c3 s b1 b2 b3 m1 d1 m2 d2 m3 d3 f hf cap w E N S' hE0 hdo w.heap.size (Nat.le_refl _) (W6.alloc (.cells #[.int .i64 0] 32)) (hB6.trans (l7.mono hB6.size)) (by rw [World.size_alloc]; omega) ((hp.keep hB6).keep l7) ((hs.keep hB6).keep l7) hn2 hn3 (plan_keep x0 l7) (plan_keep x1 l7) (plan_keep x2 l7) (plan_keep x4 l7) (plan_keep x5 l7)
  have TR := tried_any 96 (fun _ _ => rfl) #[.pointer (some ⟨w.heap.size, 0, none⟩), .pointer (some ⟨w.heap.size + 1, 0, none⟩), .pointer (some ⟨w.heap.size + 4, 0, none⟩), .pointer (some ⟨w.heap.size + 2, 0, none⟩), .pointer (some ⟨w.heap.size + 5, 0, none⟩)]
    (fun D w1 => D = E ∧ W6.heap.size + 1 ≤ w1.heap.size ∧ (∀ k, k < W6.heap.size + 1 → k ≠ w.heap.size + 4 → k ≠ w.heap.size + 5 → w1.heap[k]? = (W6.alloc (.cells #[.int .i64 0] 32)).heap[k]?) ∧ w1.os = w.os ∧ w1.tape = w.tape ∧ w1.output = w.output ∧ (E = 0 → (∃ n, W6.heap.size + 1 ≤ n ∧ StBox w1 n (w.heap.size + 4) S') ∧ w1.heap[w.heap.size + 5]? = some (.cells #[.int .i64 N] 3 (0, 0)))) W6
    (T1.mono (by
      rintro e w' ⟨rfl, g1, g2, g3, g4, g5, g6⟩
      rw [World.size_alloc] at g1 g2 g6
      exact ⟨E, rfl, ⟨rfl, g1, g2, g3.trans hB6.os, g4.trans hB6.tape, g5.trans hB6.output, g6⟩, (g2 _ (Nat.lt_succ_self _) (by omega) (by omega)).trans x6⟩))
  have HW6 : Hid (W6 = ((((((w.alloc (.cells #[.slice a1 n1 c1, .slice a2 n2 c2, .slice a3 n3 c3] 26)).alloc (.cells #[.slice b1 m1 d1, .slice b2 m2 d2, .slice b3 m3 d3, .int .i64 s.nextSeq, .int .i64 s.nextTag, .int .i64 s.came, .int .i64 s.acked, .int .i64 s.dropped] 31)).alloc (.cells #[.func (.func f) #[] cap] 91)).alloc (.cells #[.slice none 0 0, .slice none 0 0, .slice none 0 0, .int .i64 0, .int .i64 0, .int .i64 0, .int .i64 0, .int .i64 0] 31)).alloc (.cells #[.slice none 0 0, .slice none 0 0, .slice none 0 0, .int .i64 0, .int .i64 0, .int .i64 0, .int .i64 0, .int .i64 0] 31)).alloc (.cells #[.int .i64 0] 3))) := hW6
  have HTR := hidI TR
  have HB6 := hidI hB6
  have X3 := hidI x3
  have HZ6 := hidI hz6'
  have hmf : ∀ (fn : Fn) (first cap : Array Value) (w : World), (Instr.makeFunc fn first cap).run Try.prog w = .ok (.func fn first cap) w := fun _ _ _ _ => rfl
  clear T1 TR hW6 hz6 hz6' hg6 hB6 x0 x1 x2 x3 x4 x5 x6 l7 hE0 hdo hf hp hs hn2 hn3
  go_enter Try.func55, Try.ntmps55
  go_wp2_with fail
  rw [← HW6.out]
  refine HTR.out.mono ?_
  rintro e w7 ⟨D, w1, rfl, ⟨rfl, g1, g2, g3, g4, g5, g6⟩, hb, rfl⟩
  have r1 : w1.heap[w.heap.size + 3]? = _ := (g2 _ (by have := HZ6.out; omega) (by omega) (by omega)).trans (((Below.refl W6.heap.size W6).alloc (Nat.le_refl _) (.cells #[.int .i64 0] 32)).block _ (by have := HZ6.out; omega) |>.trans X3.out)
  have t7 := setCell_turnB w1 W6.heap.size 0 (.int .i64 D)
  have r7 := (t7.block _ (lt_of_heap r1) (by have := HZ6.out; omega)).trans r1
  generalize hw7 : w1.setCell ⟨W6.heap.size, 0, none⟩ (.int .i64 D) = w7 at t7 r7
  have hB7 : Below w.heap.size w w7 := by
    refine ⟨t7.os.trans g3, t7.tape.trans g4, t7.output.trans g5, ?_, fun k hk => ?_⟩
    · have := t7.size; have := HZ6.out; omega
    · rw [t7.block k (by have := HZ6.out; omega) (by have := HZ6.out; omega), g2 k (by have := HZ6.out; omega) (by omega) (by omega), Below.heap_alloc _ _ _ (by have := HZ6.out; omega), HB6.out.block k hk]
  have HB7 := hidI hB7
  have R7 := hidI r7
  obtain ⟨x0, x1, x2, x3, x4, x5, x6, x7⟩ := st_cells r7
  have e0 := free_of_cells r7 0
  have e1 := free_of_cells r7 1
  have e2 := free_of_cells r7 2
  have e3 := free_of_cells r7 3
  have e4 := free_of_cells r7 4
  have e5 := free_of_cells r7 5
  have e6 := free_of_cells r7 6
  have e7 := free_of_cells r7 7
  by_cases hD : D = 0
  · subst hD
    obtain ⟨⟨n, hn, g1', g2', g3', l1, r1', l2, r2, l3, r3, hbx, ho⟩, hnb⟩ := g6 rfl
    have hbx7 := (t7.block _ (lt_of_heap hbx) (by have := HZ6.out; omega)).trans hbx
    have hnb7 := (t7.block _ (lt_of_heap hnb) (by have := HZ6.out; omega)).trans hnb
    have ho7 := ho.turn hb (by decide) t7
    have HO7 := hidI ho7
    obtain ⟨y0, y1, y2, y3, y4, y5, y6, y7⟩ := st_cells hbx7
    have cn := cell_of_cells hnb7 0
    simp at cn
    have HN := hidI hn
    clear g1 g2 g3 g4 g5 g6 hb r1 t7 r7 hw7 hB7 hbx hnb ho hbx7 hnb7 ho7 hn
    go_wp2_with fail
    go_region
    generalize hW4 : World.setCell (World.setCell (World.setCell (World.setCell (World.setCell (World.setCell (World.setCell (World.setCell _ _ _) _ _) _ _) _ _) _ _) _ _) _ _) _ _ = W4
    obtain ⟨b4, t4⟩ := store8 R7.out hW4
    obtain ⟨z0, z1, z2, z3, z4, z5, z6, z7⟩ := st_cells b4
    go_wp2_with fail
    exact bodyPost_ret (v := .tuple #[.agg #[.slice g1' l1 r1', .slice g2' l2 r2, .slice g3' l3 r3, .int .i64 S'.nextSeq, .int .i64 S'.nextTag, .int .i64 S'.came, .int .i64 S'.acked, .int .i64 S'.dropped], .int .i64 N, .int .i64 0]) (by simp [results, Try.results55, go_sem, z0, z1, z2, z3, z4, z5, z6, z7]) rfl ⟨_, by first | rfl | rw [if_pos rfl], ⟨fun _ => ⟨_, _, _, _, _, _, _, _, _, rfl, ((HO7.out.turn R7.out (by decide) t4).lower (by have := HN.out; have := HZ6.out; omega)).keep (Below.refl _ _).drew⟩, fun h => absurd rfl h⟩, HB7.out.trans (t4.below (by have := HB7.out.size; omega) (by omega)).drew⟩
  · have hD' : (D != 0) = true := bne_iff_ne.2 hD
    have HDN := hidI hD
    clear g1 g2 g3 g4 g5 g6 hb r1 t7 r7 hw7 hB7 hD
    go_wp2_with fail
    generalize hW4 : World.setCell (World.setCell (World.setCell (World.setCell (World.setCell (World.setCell (World.setCell (World.setCell w7 _ _) _ _) _ _) _ _) _ _) _ _) _ _) _ _ = W4
    obtain ⟨b4, t4⟩ := store8 R7.out hW4
    obtain ⟨z0, z1, z2, z3, z4, z5, z6, z7⟩ := st_cells b4
    exact bodyPost_ret (v := .tuple #[zerS, .int .i64 0, .int .i64 D]) (by simp [results, Try.results55, go_sem, z0, z1, z2, z3, z4, z5, z6, z7, zerS]) rfl ⟨zerS, by first | rfl | rw [if_neg HDN.out], ⟨fun h => absurd h HDN.out, fun _ => rfl⟩, HB7.out.trans (t4.below (by have := HB7.out.size; omega) (by omega))⟩

end Go.Proofs.Ytpoichgodamnkaa
