/- States as plain data; how they lie in memory. -/
import Derived.Test.YthhkpgnjpieckaaTa
import Derived.Test.YthhkpgnjpieckaaLc
namespace Go.Proofs.Ythhkpgnjpieckaa
set_option linter.unusedVariables false
set_option maxRecDepth 100000
open Go.RowKit

structure OutD where
  tag : Int
  taker : Int
  queue : Int
  item : ItemD
structure TakerD where
  queue : Int
  most : Int
structure StateD where
  ready : List (List ItemD)
  outs : List OutD
  takers : List TakerD
  nextSeq : Int
  nextTag : Int
  came : Int
  acked : Int
  dropped : Int

/-- A slice of letters in a cell. -/
structure LineCell (W : World) (g o : Nat) (xs : List ItemD) (b : Option Addr) (c : Nat) : Prop where
  cell : W.cell? ⟨g, o, none⟩ = some (.slice b xs.length c)
  le : xs.length ≤ c
  cm : c ≤ maxLen
  nil : b = none → c = 0
  it : ItemsAt W b xs
def LinesAt (W : World) (a : Option Addr) (xss : List (List ItemD)) : Prop := xss = [] ∨ ∃ g o, a = some ⟨g, o, none⟩ ∧ g < W.heap.size ∧ ∀ i (h : i < xss.length), ∃ b c, LineCell W g (o + i) xss[i] b c
def OutsAt (W : World) (a : Option Addr) (xs : List OutD) : Prop := xs = [] ∨ ∃ g o, a = some ⟨g, o, none⟩ ∧ g < W.heap.size ∧ ∀ i (h : i < xs.length), W.cell? ⟨g, o + i * 8, none⟩ = some (.int .i64 xs[i].tag) ∧ W.cell? ⟨g, o + i * 8 + 1, none⟩ = some (.int .i64 xs[i].taker) ∧ W.cell? ⟨g, o + i * 8 + 2, none⟩ = some (.int .i64 xs[i].queue) ∧ ItemCells W g (o + i * 8 + 3) xs[i].item
def TakersAt (W : World) (a : Option Addr) (xs : List TakerD) : Prop := xs = [] ∨ ∃ g o, a = some ⟨g, o, none⟩ ∧ g < W.heap.size ∧ ∀ i (h : i < xs.length), W.cell? ⟨g, o + i * 2, none⟩ = some (.int .i64 xs[i].queue) ∧ W.cell? ⟨g, o + i * 2 + 1, none⟩ = some (.int .i64 xs[i].most)
theorem LineCell.keep {W W' : World} {g o : Nat} {xs : List ItemD} {b : Option Addr} {c : Nat} (h : LineCell W g o xs b c) (hg : g < W.heap.size) (hB : Below W.heap.size W W') : LineCell W' g o xs b c :=
  ⟨(hB.cell (p := ⟨g, o, none⟩) hg).trans h.cell, h.le, h.cm, h.nil, h.it.keep hB⟩
theorem LinesAt.keep {W W' : World} {a : Option Addr} {xss : List (List ItemD)} (h : LinesAt W a xss) (hB : Below W.heap.size W W') : LinesAt W' a xss := by
  rcases h with h | ⟨g, o, ha, hg, h⟩
  · exact .inl h
  · exact .inr ⟨g, o, ha, Nat.lt_of_lt_of_le hg hB.size, fun i hi => by obtain ⟨b, c, hl⟩ := h i hi; exact ⟨b, c, hl.keep hg hB⟩⟩
theorem OutsAt.keep {W W' : World} {a : Option Addr} {xs : List OutD} (h : OutsAt W a xs) (hB : Below W.heap.size W W') : OutsAt W' a xs := by
  rcases h with h | ⟨g, o, ha, hg, h⟩
  · exact .inl h
  · exact .inr ⟨g, o, ha, Nat.lt_of_lt_of_le hg hB.size, fun i hi => ⟨(hB.cell (p := ⟨g, _, none⟩) hg).trans (h i hi).1, (hB.cell (p := ⟨g, _, none⟩) hg).trans (h i hi).2.1, (hB.cell (p := ⟨g, _, none⟩) hg).trans (h i hi).2.2.1, (h i hi).2.2.2.keep hB hg⟩⟩
theorem TakersAt.keep {W W' : World} {a : Option Addr} {xs : List TakerD} (h : TakersAt W a xs) (hB : Below W.heap.size W W') : TakersAt W' a xs := by
  rcases h with h | ⟨g, o, ha, hg, h⟩
  · exact .inl h
  · exact .inr ⟨g, o, ha, Nat.lt_of_lt_of_le hg hB.size, fun i hi => ⟨(hB.cell (p := ⟨g, _, none⟩) hg).trans (h i hi).1, (hB.cell (p := ⟨g, _, none⟩) hg).trans (h i hi).2⟩⟩

/-- A state lies at three slices. -/
structure StateAt (W : World) (b1 b2 b3 : Option Addr) (m1 m2 m3 : Nat) (s : StateD) : Prop where
  l1 : s.ready.length = m1
  l2 : s.outs.length = m2
  l3 : s.takers.length = m3
  x1 : m1 ≤ maxLen
  x2 : m2 * 80 ≤ 140737488351232
  x3 : m3 ≤ maxLen
  q1 : LinesAt W b1 s.ready
  q2 : OutsAt W b2 s.outs
  q3 : TakersAt W b3 s.takers
theorem StateAt.keep {W W' : World} {b1 b2 b3 : Option Addr} {m1 m2 m3 : Nat} {s : StateD} (h : StateAt W b1 b2 b3 m1 m2 m3 s) (hB : Below W.heap.size W W') : StateAt W' b1 b2 b3 m1 m2 m3 s :=
  ⟨h.l1, h.l2, h.l3, h.x1, h.x2, h.x3, h.q1.keep hB, h.q2.keep hB, h.q3.keep hB⟩

/-- A state as a value, its slices at these places. -/
def stV (b1 b2 b3 : Option Addr) (m1 d1 m2 d2 m3 d3 : Nat) (s : StateD) : Array Value := #[.slice b1 m1 d1, .slice b2 m2 d2, .slice b3 m3 d3, .int .i64 s.nextSeq, .int .i64 s.nextTag, .int .i64 s.came, .int .i64 s.acked, .int .i64 s.dropped]

/-- E1, plain. -/
def takerOk (nq : Nat) (t : TakerD) : Bool := (decide (t.queue = -1) || isNum t.queue nq) && decide (1 ≤ t.most ∧ t.most ≤ 4)
def linesOk (nq : Nat) (xss : List (List ItemD)) : Bool := decide (xss.length = nq) && xss.all lineOk
def outOk (ts : List TakerD) (nt last : Int) (o : OutD) : Bool :=
  decide (last < o.tag) && decide (o.tag < nt) && isNum o.taker ts.length && (match ts[o.taker.toNat]? with | none => false | some t => decide (t.queue ≠ -1) && decide (t.queue = o.queue)) && itemOk o.item
def outsFrom (ts : List TakerD) (nt : Int) : Int → List OutD → Bool
  | _, [] => true
  | last, o :: r => outOk ts nt last o && outsFrom ts nt o.tag r
def countOk (n : Int) : Bool := decide (0 ≤ n ∧ n ≤ 1048576)
def countsOk (s : StateD) : Bool := countOk s.nextSeq && countOk s.nextTag && countOk s.came && countOk s.acked && countOk s.dropped
def seqsOf (s : StateD) : List Int := (s.ready.flatMap (fun l => l.map ItemD.seq)) ++ s.outs.map (fun o => o.item.seq)
def seqsOk (s : StateD) : Bool := decide (seqsOf s).Nodup && (seqsOf s).all (fun n => decide (n < s.nextSeq))
def heldN (s : StateD) (t : Int) : Nat := (s.outs.filter (fun o => decide (o.taker = t))).length
def roomL (p : PlanD) (s : StateD) : Bool := (List.range s.ready.length).all (fun q => decide (((s.ready.getD q []).length : Int) ≤ (p.queues.getD q ⟨⟨#[]⟩, 0, 0⟩).limit))
def roomT (s : StateD) : Bool := (List.range s.takers.length).all (fun k => decide ((heldN s k : Int) ≤ (s.takers.getD k ⟨0, 0⟩).most))
def sumsOk (s : StateD) : Bool := decide (s.came = (seqsOf s).length + s.acked + s.dropped) && decide (s.came = s.nextSeq)
def formedB (p : PlanD) (s : StateD) : Bool := linesOk p.queues.length s.ready && s.takers.all (takerOk p.queues.length) && outsFrom s.takers s.nextTag (-1) s.outs && countsOk s && seqsOk s
def stE (p : PlanD) (s : StateD) : Int :=
  if chkP p ≠ 0 then chkP p else if 4 < s.takers.length then 2 else if formedB p s = false then 1 else if (roomL p s && roomT s) = false then 3 else if sumsOk s = false then 10 else 0
end Go.Proofs.Ythhkpgnjpieckaa
