import Derived.Laws.AppendOwnNone
import Derived.Test.YtpoichgodamnkaaTfx
import Derived.WalkLawsBesides
namespace Go.Proofs.Ytpoichgodamnkaa
open Go.RowKit
set_option linter.unusedVariables false
set_option maxRecDepth 100000
set_option maxHeartbeats 2000000
theorem patErr_zero : ∀ {xs : List BindD}, patErr xs = 0 → ∀ b ∈ xs, perr b.pat.data.toList = 0
 | [], _, b, hb => by simp at hb
 | x :: r, h, b, hb => by
   unfold patErr at h
   by_cases h0 : perr x.pat.data.toList = 0
   ·rw [if_pos h0] at h
    rcases List.mem_cons.1 hb with rfl | hb
    ·exact h0
    ·exact patErr_zero h b hb
   ·rw [if_neg h0] at h; exact absurd h h0
structure RightP (p : PlanD) : Prop where
 few : p.posts.length ≤ 4 ∧ p.queues.length ≤ 4 ∧ p.binds.length ≤ 10
 kinds : ∀ x ∈ p.posts, x.kind = 1 ∨ x.kind = 2 ∨ x.kind = 3
 queues : ∀ x ∈ p.queues, 1 ≤ x.limit ∧ x.limit ≤ 6 ∧ -1 ≤ x.dead ∧ x.dead < p.posts.length
 src : ∀ b ∈ p.binds, 0 ≤ b.src ∧ b.src < p.posts.length
 dst : ∀ b ∈ p.binds, 0 ≤ b.dst ∧ b.dst < (if b.toPost then p.posts.length else p.queues.length : Nat)
 pat : ∀ b ∈ p.binds, perr b.pat.data.toList = 0
theorem chk_right {p : PlanD} (h : chkP p = 0) : RightP p := by
 unfold chkP at h
 by_cases q1 : 4 < p.posts.length ∨ 4 < p.queues.length ∨ 10 < p.binds.length
 ·rw [if_pos q1] at h; cases h
 rw [if_neg q1] at h
 by_cases q2 : ((p.posts.map PostD.name).all (fun x => nameOk x.data.toList) && (p.queues.map QueueD.name).all (fun x => nameOk x.data.toList)) = false
 ·rw [if_pos q2] at h; cases h
 rw [if_neg q2] at h
 by_cases q3 : (dupB (p.posts.map PostD.name) || dupB (p.queues.map QueueD.name)) = true
 ·rw [if_pos q3] at h; cases h
 rw [if_neg q3] at h
 by_cases q4 : p.posts.all kindOk = false
 ·rw [if_pos q4] at h; cases h
 rw [if_neg q4] at h
 by_cases q5 : (p.queues.all (qOk p.posts.length) && p.binds.all (bOk p.posts.length p.queues.length)) = false
 ·rw [if_pos q5] at h; cases h
 rw [if_neg q5] at h
 simp only [Bool.not_eq_false, Bool.and_eq_true, List.all_eq_true] at q4 q5
 refine ⟨by omega, fun x hx => ?_, fun x hx => ?_, fun b hb => ?_, fun b hb => ?_, patErr_zero h⟩
 ·have := q4 x hx; unfold kindOk inR at this; simp at this; omega
 ·have := q5.1 x hx; unfold qOk inR at this; simp at this; omega
 ·have := q5.2 b hb; unfold bOk isNum at this; simp at this; omega
 ·have := q5.2 b hb; unfold bOk isNum at this; simp at this; exact this.2
def fitP (p : PlanD) (i : Nat) (key : ByteArray) : Bool :=
 match p.binds[i]? with
 | none => false
 | some b => match p.posts[b.src.toNat]? with
   | none => false
   | some x => if x.kind = 1 then key.data.toList == b.pat.data.toList else if x.kind = 2 then true else fitL b.pat.data.toList key.data.toList
def fitE (p : PlanD) (n : Int) (key : ByteArray) : Int := if chkP p = 0 then (if isNum n p.binds.length = true then kerr key.data.toList else 5) else chkP p
def fitB (p : PlanD) (n : Int) (key : ByteArray) : Bool := if fitE p n key = 0 then fitP p n.toNat key else false
structure PlanAt (W : World) (a1 a2 a3 : Option Addr) (n1 n2 n3 : Nat) (p : PlanD) : Prop where
 l1 : p.posts.length = n1
 l2 : p.queues.length = n2
 l3 : p.binds.length = n3
 sz : Sized p
 p1 : PostsAt W a1 p.posts
 p2 : QueuesAt W a2 p.queues
 p3 : BindsAt W a3 p.binds
theorem PlanAt.keep {W W' : World} {a1 a2 a3 : Option Addr} {n1 n2 n3 : Nat} {p : PlanD} (h : PlanAt W a1 a2 a3 n1 n2 n3 p) (hB : Below W.heap.size W W') : PlanAt W' a1 a2 a3 n1 n2 n3 p :=
 ⟨h.l1, h.l2, h.l3, h.sz, h.p1.keep hB, h.p2.keep hB, h.p3.keep hB⟩
theorem plan_boxed (w : World) (v1 v2 v3 : Value) (t : TypeId) : ∃ W1, W1 = w.alloc (.cells #[v1, v2, v3] t) ∧ Below w.heap.size w W1 ∧ W1.heap.size = w.heap.size + 1 ∧
 ∀ W, Below W1.heap.size W1 W → W.cell? ⟨w.heap.size, 0, none⟩ = some v1 ∧ W.cell? ⟨w.heap.size, 1, none⟩ = some v2 ∧ W.cell? ⟨w.heap.size, 2, none⟩ = some v3 := by
 obtain ⟨b0, b1, b2⟩ := plan_box w v1 v2 v3 t
 have hs : (w.alloc (.cells #[v1, v2, v3] t)).heap.size = w.heap.size + 1 := by simp
 exact ⟨_, rfl, (Below.refl _ _).alloc (Nat.le_refl _) _, hs, fun W hW => ⟨(hW.cell (p := ⟨w.heap.size, 0, none⟩) (by show w.heap.size < _; omega)).trans b0, (hW.cell (p := ⟨w.heap.size, 1, none⟩) (by show w.heap.size < _; omega)).trans b1, (hW.cell (p := ⟨w.heap.size, 2, none⟩) (by show w.heap.size < _; omega)).trans b2⟩⟩
def bs (l : List UInt8) : ByteArray := ⟨l.toArray⟩
def officeP : PlanD := {
 posts := [⟨⟨#[109, 97, 105, 110]⟩, 3⟩, ⟨⟨#[97, 108, 108]⟩, 2⟩, ⟨⟨#[100, 101, 97, 100]⟩, 1⟩]
 queues := [⟨⟨#[97]⟩, 2, 2⟩, ⟨⟨#[98]⟩, 3, -1⟩, ⟨⟨#[100]⟩, 2, -1⟩]
 binds := [⟨0, false, 0, ⟨#[120, 46, 35]⟩⟩, ⟨0, true, 1, ⟨#[42, 46, 121]⟩⟩, ⟨1, false, 1, ⟨#[35]⟩⟩, ⟨1, true, 0, ⟨#[35]⟩⟩, ⟨2, false, 2, ⟨#[120, 46, 121]⟩⟩] }
def oPosts : Array Value := #[.string ⟨#[109, 97, 105, 110]⟩, .int .i64 3, .string ⟨#[97, 108, 108]⟩, .int .i64 2, .string ⟨#[100, 101, 97, 100]⟩, .int .i64 1]
def oQueues : Array Value := #[.string ⟨#[97]⟩, .int .i64 2, .int .i64 2, .string ⟨#[98]⟩, .int .i64 3, .int .i64 (-1), .string ⟨#[100]⟩, .int .i64 2, .int .i64 (-1)]
def oBinds : Array Value := #[.int .i64 0, .bool false, .int .i64 0, .string ⟨#[120, 46, 35]⟩, .int .i64 0, .bool true, .int .i64 1, .string ⟨#[42, 46, 121]⟩, .int .i64 1, .bool false, .int .i64 1, .string ⟨#[35]⟩, .int .i64 1, .bool true, .int .i64 0, .string ⟨#[35]⟩, .int .i64 2, .bool false, .int .i64 2, .string ⟨#[120, 46, 121]⟩]
theorem heap_four (w : World) (A B C D : Obj) : ((((w.alloc A).alloc B).alloc C).alloc D).heap.size = w.heap.size + 4 ∧ ((((w.alloc A).alloc B).alloc C).alloc D).heap[w.heap.size + 1]? = some B ∧ ((((w.alloc A).alloc B).alloc C).alloc D).heap[w.heap.size + 1 + 1]? = some C ∧ ((((w.alloc A).alloc B).alloc C).alloc D).heap[w.heap.size + 1 + 1 + 1]? = some D := by
 have hB := World.alloc_heap_new (w.alloc A) B
 have hC := World.alloc_heap_new ((w.alloc A).alloc B) C
 have hD := World.alloc_heap_new (((w.alloc A).alloc B).alloc C) D
 simp only [World.size_alloc] at hB hC hD
 refine ⟨by simp only [World.size_alloc], ?_, ?_, hD⟩
 ·rw [Below.heap_alloc _ _ _ (by simp only [World.size_alloc]; omega), Below.heap_alloc _ _ _ (by simp only [World.size_alloc]; omega)]; exact hB
 ·rw [Below.heap_alloc _ _ _ (by simp only [World.size_alloc]; omega)]; exact hC
theorem coc_ {W : World} {b : Nat} {cs : Array Value} {t : TypeId} (h : W.heap[b]? = some (.cells cs t (0, 0))) (i : Nat) : W.cell? ⟨b, i, none⟩ = cs[i]? := by
 unfold World.cell?; simp only; rw [h]; simp
theorem foc_ {W : World} {b : Nat} {cs : Array Value} {t : TypeId} (h : W.heap[b]? = some (.cells cs t (0, 0))) (i : Nat) : W.frozen? ⟨b, i, none⟩ = false := by
 simp [World.frozen?, h]
theorem lth_ {W : World} {b : Nat} {o : Obj} (h : W.heap[b]? = some o) : b < W.heap.size := (Array.getElem?_eq_some_iff.1 h).1
theorem posts_of {W : World} {b : Nat} {cs : Array Value} {t : TypeId} (h : W.heap[b]? = some (.cells cs t (0, 0))) (xs : List PostD)
 (hc : ∀ i (hi : i < xs.length), cs[i * 2]? = some (.string xs[i].name) ∧ cs[i * 2 + 1]? = some (.int .i64 xs[i].kind)) : PostsAt W (some ⟨b, 0, none⟩) xs :=
 .inr ⟨b, 0, rfl, lth_ h, fun i hi => by simp only [Nat.zero_add, coc_ h]; exact hc i hi⟩
theorem queuesAt_of {W : World} {b : Nat} {cs : Array Value} {t : TypeId} (h : W.heap[b]? = some (.cells cs t (0, 0))) (xs : List QueueD)
 (hc : ∀ i (hi : i < xs.length), cs[i * 3]? = some (.string xs[i].name) ∧ cs[i * 3 + 1]? = some (.int .i64 xs[i].limit) ∧ cs[i * 3 + 2]? = some (.int .i64 xs[i].dead)) : QueuesAt W (some ⟨b, 0, none⟩) xs :=
 .inr ⟨b, 0, rfl, lth_ h, fun i hi => by simp only [Nat.zero_add, coc_ h]; exact hc i hi⟩
theorem binds_of {W : World} {b : Nat} {cs : Array Value} {t : TypeId} (h : W.heap[b]? = some (.cells cs t (0, 0))) (xs : List BindD)
 (hc : ∀ i (hi : i < xs.length), cs[i * 4]? = some (.int .i64 xs[i].src) ∧ cs[i * 4 + 1]? = some (.bool xs[i].toPost) ∧ cs[i * 4 + 2]? = some (.int .i64 xs[i].dst) ∧ cs[i * 4 + 3]? = some (.string xs[i].pat)) : BindsAt W (some ⟨b, 0, none⟩) xs :=
 .inr ⟨b, 0, rfl, lth_ h, fun i hi => by simp only [Nat.zero_add, coc_ h]; exact hc i hi⟩
theorem office_raw (w : World) : Calls Try.prog 40 #[] w fun e w' => e = .returned (.agg #[.slice (some ⟨w.heap.size + 1, 0, none⟩) 3 3, .slice (some ⟨w.heap.size + 1 + 1, 0, none⟩) 3 3, .slice (some ⟨w.heap.size + 1 + 1 + 1, 0, none⟩) 5 5]) ∧
 Below w.heap.size w w' ∧ w'.heap.size = w.heap.size + 4 ∧ w'.heap[w.heap.size + 1]? = some (.cells oPosts 70 (0, 0)) ∧ w'.heap[w.heap.size + 1 + 1]? = some (.cells oQueues 72 (0, 0)) ∧ w'.heap[w.heap.size + 1 + 1 + 1]? = some (.cells oBinds 77 (0, 0)) := by
 go_enter Try.func40, Try.ntmps40
 go_wp2_with fail
 exact bodyPost_ret (v := .agg #[.slice (some ⟨w.heap.size + 1, 0, none⟩) 3 3, .slice (some ⟨w.heap.size + 1 + 1, 0, none⟩) 3 3, .slice (some ⟨w.heap.size + 1 + 1 + 1, 0, none⟩) 5 5]) (by simp [results, Try.results40, go_sem]) rfl ⟨rfl, (by repeat (first | exact Below.refl _ _ | assumption | refine Below.drew ?_ | refine Below.alloc ?_ (by first | (simp; done) | (simp; omega) | omega) _ | refine Below.setCell ?_ (by first | (simp; done) | (simp; omega) | omega) _)), heap_four w _ _ _ _⟩
def officeX : PlanD := { officeP with queues := [⟨⟨#[97]⟩, 2, 3⟩, ⟨⟨#[98]⟩, 3, -1⟩, ⟨⟨#[100]⟩, 2, -1⟩] }
def officeY : PlanD := { officeP with posts := [⟨⟨#[109, 97, 105, 110]⟩, 3⟩, ⟨⟨#[109, 97, 105, 110]⟩, 2⟩, ⟨⟨#[100, 101, 97, 100]⟩, 1⟩] }
theorem sized_small {p : PlanD} (h : ((p.posts.map PostD.name).all (fun x => decide (x.size ≤ 100)) && (p.queues.map QueueD.name).all (fun x => decide (x.size ≤ 100))) = true) : Sized p := by
 rw [Bool.and_eq_true, List.all_eq_true, List.all_eq_true] at h
 unfold Sized maxLen
 exact ⟨fun x hx => by have := h.1 x hx; simp at this; omega, fun x hx => by have := h.2 x hx; simp at this; omega⟩
theorem posts3 {cs : Array Value} {x y z : PostD} (h : cs = #[.string x.name, .int .i64 x.kind, .string y.name, .int .i64 y.kind, .string z.name, .int .i64 z.kind]) : ∀ i (hi : i < [x, y, z].length), cs[i * 2]? = some (.string [x, y, z][i].name) ∧ cs[i * 2 + 1]? = some (.int .i64 [x, y, z][i].kind) := by
 subst h
 intro i hi
 match i, hi with
 | 0, _ => exact ⟨rfl, rfl⟩
 | 1, _ => exact ⟨rfl, rfl⟩
 | 2, _ => exact ⟨rfl, rfl⟩
theorem queues3 {cs : Array Value} {x y z : QueueD} (h : cs = #[.string x.name, .int .i64 x.limit, .int .i64 x.dead, .string y.name, .int .i64 y.limit, .int .i64 y.dead, .string z.name, .int .i64 z.limit, .int .i64 z.dead]) : ∀ i (hi : i < [x, y, z].length), cs[i * 3]? = some (.string [x, y, z][i].name) ∧ cs[i * 3 + 1]? = some (.int .i64 [x, y, z][i].limit) ∧ cs[i * 3 + 2]? = some (.int .i64 [x, y, z][i].dead) := by
 subst h
 intro i hi
 match i, hi with
 | 0, _ => exact ⟨rfl, rfl, rfl⟩
 | 1, _ => exact ⟨rfl, rfl, rfl⟩
 | 2, _ => exact ⟨rfl, rfl, rfl⟩
theorem binds5 : ∀ i (hi : i < officeP.binds.length), oBinds[i * 4]? = some (.int .i64 officeP.binds[i].src) ∧ oBinds[i * 4 + 1]? = some (.bool officeP.binds[i].toPost) ∧ oBinds[i * 4 + 2]? = some (.int .i64 officeP.binds[i].dst) ∧ oBinds[i * 4 + 3]? = some (.string officeP.binds[i].pat) := by
 intro i hi
 match i, hi with
 | 0, _ => exact ⟨rfl, rfl, rfl, rfl⟩
 | 1, _ => exact ⟨rfl, rfl, rfl, rfl⟩
 | 2, _ => exact ⟨rfl, rfl, rfl, rfl⟩
 | 3, _ => exact ⟨rfl, rfl, rfl, rfl⟩
 | 4, _ => exact ⟨rfl, rfl, rfl, rfl⟩
theorem office_any (w : World) : Calls Try.prog 40 #[] w fun e w' => e = .returned (.agg #[.slice (some ⟨w.heap.size + 1, 0, none⟩) 3 3, .slice (some ⟨w.heap.size + 1 + 1, 0, none⟩) 3 3, .slice (some ⟨w.heap.size + 1 + 1 + 1, 0, none⟩) 5 5]) ∧
 Below w.heap.size w w' ∧ PlanAt w' (some ⟨w.heap.size + 1, 0, none⟩) (some ⟨w.heap.size + 1 + 1, 0, none⟩) (some ⟨w.heap.size + 1 + 1 + 1, 0, none⟩) 3 3 5 officeP := by
 refine (office_raw w).mono ?_
 rintro e w' ⟨rfl, hB, hs, h1, h2, h3⟩
 exact ⟨rfl, hB, ⟨rfl, rfl, rfl, sized_small (by decide +kernel), posts_of h1 _ (posts3 rfl), queuesAt_of h2 _ (queues3 rfl), binds_of h3 _ binds5⟩⟩
theorem scb_ {W : World} {b j : Nat} {cs : Array Value} {t : TypeId} (h : W.heap[b]? = some (.cells cs t (0, 0))) (u : Value) : (W.setCell ⟨b, j, none⟩ u).heap[b]? = some (.cells (cs.setIfInBounds j u) t (0, 0)) := heap_setCell_same W b j cs t u h
def panE (d : Int) : Ending := .panicked [{ v := .iface 32 (.int .i64 d), recovered := false }]
def okE : Ending := .returned (.tuple #[])
def askE (d : Int) : Ending := if d = 0 then okE else panE d
theorem askE_ok : askE 0 = okE := rfl
theorem askE_pan {d : Int} (h : d ≠ 0) : askE d = panE d := if_neg h
theorem bools_new (w : World) (bs : List Bool) : IsBools (w.alloc (.cells (bs.map Value.bool).toArray 4)) w.heap.size 0 bs := by
 intro i hi
 have h := World.alloc_heap_new w (.cells (bs.map Value.bool).toArray 4)
 rw [coc_ h]; simp [hi]
theorem indexB_any (bs : List Bool) (g n c : Nat) (w : World) (hn : bs.length = n) (hm : n ≤ 100) (h : IsBools w g 0 bs) :
 Calls Try.prog 110 #[.slice (some ⟨g, 0, none⟩) n c, .bool true] w fun e w' => ∃ i : Int, e = .returned (.int .i64 i) ∧ (0 ≤ i ↔ true ∈ bs) ∧ w' = w := by
 have HN : Hid (bs.length = n) := hn
 have H : Hid (IsBools w g 0 bs) := h
 clear hn h
 go_enter Try.func110, Try.ntmps110
 go_wp2_with fail
 go_loopw [5, 8] (fun _ i wr => ∃ (k : Nat), k ≤ n ∧ i = .int .i64 k ∧ (true ∉ bs.take k) ∧ wr = w) (fun _ i _ => n - (intOf i).toNat)
 case atStart => exact ⟨0, Nat.zero_le _, rfl, by simp, rfl⟩
 case round =>
  obtain ⟨k, hk, rfl, hno, rfl⟩ := hrel
  have HNO : Hid (true ∉ bs.take k) := hno
  clear hno
  by_cases hlt : k < n
  ·have hkl : k < bs.length := by rw [HN.out]; exact hlt
   have d1 := H.out k hkl
   rw [Nat.zero_add] at d1
   have HKM : Hid (bs[k] ∈ bs) := List.getElem_mem hkl
   have HTK : Hid (bs.take (k + 1) = bs.take k ++ [bs[k]]) := List.take_succ_eq_append_getElem hkl
   obtain ⟨y, hy⟩ : ∃ y, y = bs[k] := ⟨_, rfl⟩
   rw [← hy] at d1 HKM HTK
   have j1 : (0 : Int) ≤ (k : Int) := by omega
   have j2 : (k : Int) < n := by omega
   clear hy
   cases y with
   | true =>
     go_wp2_with fail
     go_ret
     exact ⟨k, rfl, ⟨fun _ => HKM.out, fun _ => by omega⟩, rfl⟩
   | false =>
     go_wp2_with fail
     go_roundw
     case rel => exact ⟨k + 1, by omega, by go_num, by rw [HTK.out, List.mem_append, List.mem_singleton]; exact fun h => h.elim HNO.out (fun e => nomatch e), by first | trivial | rfl⟩
     case measure => simp [intOf]; omega
  ·have hke : k = n := by omega
   subst hke
   clear hlt hk
   go_wp2_with fail
   go_ret
   refine ⟨-1, rfl, ⟨fun h => by omega, fun h => ?_⟩, rfl⟩
   have := HNO.out
   rw [← HN.out, List.take_length] at this
   exact absurd h this
theorem never_yes (d : Int) (bs : List Bool) (g : Nat) (w : World) (hm : bs.length ≤ 100) (h : IsBools w g 0 bs) (hb : true ∈ bs) :
 Calls Try.prog 45 #[.int .i64 d, .slice (some ⟨g, 0, none⟩) bs.length bs.length] w fun e w' => e = .panicked [{ v := .iface 32 (.int .i64 d), recovered := false }] ∧ w' = w := by
 obtain ⟨n, hn⟩ : ∃ n, n = bs.length := ⟨_, rfl⟩
 rw [← hn] at hm ⊢
 have HN : Hid (n = bs.length) := hn
 have H : Hid (IsBools w g 0 bs) := h
 have HB : Hid (true ∈ bs) := hb
 clear hn h hb
 go_enter Try.func45, Try.ntmps45
 go_wp2_with (first | (go_at_call 110; refine (indexB_any bs g _ _ _ HN.out.symm hm H.out).mono ?_; rintro e w2 ⟨i, rfl, hi, rfl⟩; have hi0 : (0 : Int) ≤ i := hi.2 HB.out; clear hi) | go_in)
 first
  | exact ⟨rfl, rfl, rfl⟩
  | (go_end0; exact ⟨rfl, rfl⟩)
theorem never_no (d : Int) (bs : List Bool) (g : Nat) (w : World) (hm : bs.length ≤ 100) (h : IsBools w g 0 bs) (hb : true ∉ bs) :
 Calls Try.prog 45 #[.int .i64 d, .slice (some ⟨g, 0, none⟩) bs.length bs.length] w fun e w' => e = .returned (.tuple #[]) ∧ w' = w := by
 obtain ⟨n, hn⟩ : ∃ n, n = bs.length := ⟨_, rfl⟩
 rw [← hn] at hm ⊢
 have HN : Hid (n = bs.length) := hn
 have H : Hid (IsBools w g 0 bs) := h
 have HB : Hid (true ∉ bs) := hb
 clear hn h hb
 go_enter Try.func45, Try.ntmps45
 go_wp2_with (first | (go_at_call 110; refine (indexB_any bs g _ _ _ HN.out.symm hm H.out).mono ?_; rintro e w2 ⟨i, rfl, hi, rfl⟩; have hi0 : ¬ (0 : Int) ≤ i := fun h => HB.out (hi.1 h); clear hi) | go_in)
 first
  | exact ⟨rfl, rfl, rfl⟩
  | (go_end0; exact ⟨rfl, rfl⟩)
theorem ok_yes (d : Int) (g : Nat) (w : World) (hc : w.cell? ⟨g, 0, none⟩ = some (.int .i64 d)) (hg : g < w.heap.size) (hd : d ≠ 0) :
 Calls Try.prog 44 #[.slice (some ⟨g, 0, none⟩) 1 1] w fun e w' => e = .panicked [{ v := .iface 32 (.int .i64 d), recovered := false }] ∧ Below w.heap.size w w' := by
 have hd' : (d != 0) = true := bne_iff_ne.2 hd
 go_enter Try.func44, Try.ntmps44
 go_wp2_with fail
 go_loopw [3, 6] (fun _ i wr => i = .int .i64 0 ∧ wr = w) (fun _ _ _ => 0)
 case atStart => exact ⟨rfl, rfl⟩
 case round =>
  obtain ⟨rfl, rfl⟩ := hrel
  go_wp2_with (go_at_call 45; refine (never_yes d [true] _ _ (by simp) (bools_new _ [true]) (by simp)).mono ?_; rintro e w2 ⟨rfl, rfl⟩)
  exact ⟨rfl, rfl, (Below.refl _ _).alloc (Nat.le_refl _) _⟩
theorem ok_no (g : Nat) (w : World) (hc : w.cell? ⟨g, 0, none⟩ = some (.int .i64 0)) (hg : g < w.heap.size) :
 Calls Try.prog 44 #[.slice (some ⟨g, 0, none⟩) 1 1] w fun e w' => e = .returned (.tuple #[]) ∧ Below w.heap.size w w' := by
 go_enter Try.func44, Try.ntmps44
 go_wp2_with fail
 go_loopw [3, 6] (fun _ i wr => ∃ k : Nat, k ≤ 1 ∧ i = .int .i64 k ∧ Below w.heap.size w wr) (fun _ i _ => 1 - (intOf i).toNat)
 case atStart => exact ⟨0, by omega, rfl, Below.refl _ _⟩
 case round =>
  obtain ⟨k, hk, rfl, hB⟩ := hrel
  have hB' := hB.size
  by_cases hlt : k < 1
  ·have hk0 : k = 0 := by omega
   subst hk0
   have hc' := (hB.cell (p := ⟨g, 0, none⟩) hg).trans hc
   go_wp2_with (go_at_call 45; refine (never_no 0 [false] _ _ (by simp) (bools_new _ [false]) (by simp)).mono ?_; rintro e w2 ⟨rfl, rfl⟩)
   go_roundw
   case rel => exact ⟨1, by omega, rfl, hB.alloc hB' _⟩
   case measure => simp [intOf]
  ·have hk1 : k = 1 := by omega
   subst hk1
   go_wp2_with fail
   go_end0
   exact ⟨rfl, hB⟩
end Go.Proofs.Ytpoichgodamnkaa
