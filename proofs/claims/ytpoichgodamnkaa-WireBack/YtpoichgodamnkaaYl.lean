import Derived.Deep.DeepCutAuto
import Derived.Test.YtpoichgodamnkaaYj
import Derived.Test.YtpoichgodamnkaaYk
import Derived.BigQuiet
import Derived.Laws.StructEq
/- Wm -/
namespace Go.Proofs.Ytpoichgodamnkaa
set_option linter.unusedVariables false
set_option maxRecDepth 100000
open Go.RowKit Go.Maps

def postT (x : PostD) : List ThingD := [.text x.name, .num x.kind]
def queueT (x : QueueD) : List ThingD := [.text x.name, .num x.limit, .num (x.dead + 1)]
def bindT (x : BindD) : List ThingD := [.num x.src, .flag x.toPost, .num x.dst, .text x.pat]
def thP (p : PlanD) (k : Nat) : List ThingD := .num p.posts.length :: (p.posts.take k).flatMap postT
def thQ (p : PlanD) (k : Nat) : List ThingD := thP p p.posts.length ++ (.num p.queues.length :: (p.queues.take k).flatMap queueT)
def thB (p : PlanD) (k : Nat) : List ThingD := thQ p p.queues.length ++ (.num p.binds.length :: (p.binds.take k).flatMap bindT)
def planT (p : PlanD) : List ThingD := thB p p.binds.length
theorem flat_flat {α : Type} (xs : List α) (f : α → List ThingD) (g : α → List UInt8) (h : ∀ x, putB_ (f x) = g x) : putB_ (xs.flatMap f) = xs.flatMap g := by
  unfold putB_ at h ⊢
  rw [List.flatMap_assoc]
  congr 1
  funext x
  exact h x
theorem planT_bytes (p : PlanD) : putB_ (planT p) = planB p := by
  have e1 := flat_flat p.posts postT postB (fun x => by simp [putB_, postT, postB, ThingD.bytes])
  have e2 := flat_flat p.queues queueT queueB (fun x => by simp [putB_, queueT, queueB, ThingD.bytes])
  have e3 := flat_flat p.binds bindT bindB (fun x => by simp [putB_, bindT, bindB, ThingD.bytes])
  unfold planT thB thQ thP planB manyB
  rw [List.take_length, List.take_length, List.take_length]
  unfold putB_ at e1 e2 e3 ⊢
  rw [List.flatMap_append, List.flatMap_append, List.flatMap_cons, List.flatMap_cons, List.flatMap_cons, e1, e2, e3]
  simp [ThingD.bytes]
theorem planT_ok {p : PlanD} (h : chkP p = 0) : putE (planT p) = 0 := by
  have hs := chk_small h
  unfold putE
  rw [if_pos]
  unfold planT thB thQ thP
  rw [List.take_length, List.take_length, List.take_length, List.all_append, List.all_append, List.all_cons, List.all_cons, List.all_cons]
  have a1 : (p.posts.flatMap postT).all ThingD.ok = true := by
    rw [List.all_eq_true]
    intro t ht
    obtain ⟨x, hx, hm⟩ := List.mem_flatMap.1 ht
    obtain ⟨h1, h2, h3⟩ := hs.posts.2 x hx
    simp [postT] at hm
    rcases hm with rfl | rfl <;> simp [ThingD.ok] <;> omega
  have a2 : (p.queues.flatMap queueT).all ThingD.ok = true := by
    rw [List.all_eq_true]
    intro t ht
    obtain ⟨x, hx, hm⟩ := List.mem_flatMap.1 ht
    obtain ⟨h1, h2, h3, h4, h5⟩ := hs.queues.2 x hx
    simp [queueT] at hm
    rcases hm with rfl | rfl | rfl <;> simp [ThingD.ok] <;> omega
  have a3 : (p.binds.flatMap bindT).all ThingD.ok = true := by
    rw [List.all_eq_true]
    intro t ht
    obtain ⟨x, hx, hm⟩ := List.mem_flatMap.1 ht
    obtain ⟨h1, h2, h3, h4, h5⟩ := hs.binds.2 x hx
    simp [bindT] at hm
    rcases hm with rfl | rfl | rfl | rfl <;> simp [ThingD.ok] <;> omega
  have b1 := hs.posts.1
  have b2 := hs.queues.1
  have b3 := hs.binds.1
  rw [a1, a2, a3]
  simp [ThingD.ok]
  omega
theorem len_flatT {α : Type} {f : α → List ThingD} {c : Nat} (h : ∀ x, (f x).length = c) (xs : List α) : (xs.flatMap f).length = xs.length * c := by
  induction xs with
  | nil => simp
  | cons x r ih => rw [List.flatMap_cons, List.length_append, h, ih, List.length_cons, Nat.add_mul]; omega
theorem next_thP {p : PlanD} {k : Nat} (hk : k < p.posts.length) : thP p (k + 1) = thP p k ++ postT p.posts[k] := by
  unfold thP; rw [List.take_succ_eq_append_getElem hk, List.flatMap_append, List.flatMap_singleton]; rfl
theorem next_thQ {p : PlanD} {k : Nat} (hk : k < p.queues.length) : thQ p (k + 1) = thQ p k ++ queueT p.queues[k] := by
  unfold thQ; rw [List.take_succ_eq_append_getElem hk, List.flatMap_append, List.flatMap_singleton]; simp
theorem next_thB {p : PlanD} {k : Nat} (hk : k < p.binds.length) : thB p (k + 1) = thB p k ++ bindT p.binds[k] := by
  unfold thB; rw [List.take_succ_eq_append_getElem hk, List.flatMap_append, List.flatMap_singleton]; simp
def thV (l : List ThingD) : List Value := l.map ThingD.val
theorem thV_append (a b : List ThingD) : thV (a ++ b) = thV a ++ thV b := List.map_append
theorem thV_one (l : List ThingD) : ∀ u ∈ thV l, u.oneCell' = true := by
  intro u hu
  obtain ⟨t, _, rfl⟩ := List.mem_map.1 hu
  cases t <;> rfl
def wrV (p : PlanD) : ByteArray := if chkP p = 0 then bytesV (planB p) else ⟨#[]⟩
theorem PostsAt.get {W : World} {a : Option Addr} {xs : List PostD} (h : PostsAt W a xs) {k : Nat} (hk : k < xs.length) : ∃ g o, a = some ⟨g, o, none⟩ ∧ g < W.heap.size ∧ W.cell? ⟨g, o + k * 2, none⟩ = some (.string xs[k].name) ∧ W.cell? ⟨g, o + k * 2 + 1, none⟩ = some (.int .i64 xs[k].kind) := by
  rcases h with h | ⟨g, o, ha, hg, h⟩
  · subst h; simp at hk
  · exact ⟨g, o, ha, hg, h k hk⟩
theorem BindsAt.get {W : World} {a : Option Addr} {xs : List BindD} (h : BindsAt W a xs) {k : Nat} (hk : k < xs.length) : ∃ g o, a = some ⟨g, o, none⟩ ∧ g < W.heap.size ∧ W.cell? ⟨g, o + k * 4, none⟩ = some (.int .i64 xs[k].src) ∧ W.cell? ⟨g, o + k * 4 + 1, none⟩ = some (.bool xs[k].toPost) ∧ W.cell? ⟨g, o + k * 4 + 2, none⟩ = some (.int .i64 xs[k].dst) ∧ W.cell? ⟨g, o + k * 4 + 3, none⟩ = some (.string xs[k].pat) := by
  rcases h with h | ⟨g, o, ha, hg, h⟩
  · subst h; simp at hk
  · exact ⟨g, o, ha, hg, h k hk⟩

theorem Try.infoAny : (Try.prog.info? 20).map (fun i => (i.zero, i.size, i.bytes)) = some (some .nilIface, 1, 16) := by kernel_rfl

theorem elemAny : ElemT 95 20 1 16 := elemT_of Try.underlying95 Try.infoAny rfl (by omega)

set_option maxRecDepth 100000 in
set_option maxHeartbeats 8000000 in
theorem write_any (p : PlanD) (a1 a2 a3 : Option Addr) (n1 c1 n2 c2 n3 c3 : Nat) (w : World) (hp : PlanAt w a1 a2 a3 n1 n2 n3 p) :
    Calls Try.prog 29 #[.agg #[.slice a1 n1 c1, .slice a2 n2 c2, .slice a3 n3 c3]] w fun e w' => e = .returned (.tuple #[.string (wrV p), .int .i64 (chkP p)]) ∧ Below w.heap.size w w' := by
  obtain ⟨E, hE⟩ : ∃ E, E = chkP p := ⟨_, rfl⟩
  obtain ⟨V, hV⟩ : ∃ V, V = wrV p := ⟨_, rfl⟩
  rw [← hE, ← hV]
  obtain ⟨W1, hW1, hBw, hs1, hbx⟩ := plan_boxed w (.slice a1 n1 c1) (.slice a2 n2 c2) (.slice a3 n3 c3) 26
  have HW1 := hidI hW1
  have HE := hidI hE
  have HV := hidI hV
  have HBX := hidI hbx
  have HBW := hidI hBw
  have HP := hidI (hp.keep hBw)
  have s0 := hBw.size
  obtain ⟨x0, x1, x2⟩ := hbx W1 (Below.refl _ _)
  clear hW1 hbx hE hV hp hBw
  go_enter Try.func29, Try.ntmps29
  go_wp2_with fail
  rw [← HW1.out]
  refine (check_any p a1 a2 a3 n1 c1 n2 c2 n3 c3 W1 HP.out.l1 HP.out.l2 HP.out.l3 HP.out.sz HP.out.p1 HP.out.p2 HP.out.p3).mono ?_
  rintro e w2 ⟨rfl, k2⟩
  rw [← HE.out]
  have K2 := hidI k2
  by_cases hz : E = 0
  rotate_left
  · have hz' : (E != 0) = true := bne_iff_ne.2 hz
    have HV0 : Hid (V = ⟨#[]⟩) := by show V = _; rw [HV.out]; unfold wrV; rw [if_neg (by rw [← HE.out]; exact hz)]
    clear hz k2
    go_wp2_with fail
    go_ret2
    exact ⟨by rw [HV0.out]; rfl, HBW.out.trans (K2.out.mono s0)⟩
  subst hz
  have HR := hidI (chk_right HE.out.symm)
  have HL : Hid (p.posts.length = n1 ∧ p.queues.length = n2 ∧ p.binds.length = n3) := ⟨HP.out.l1, HP.out.l2, HP.out.l3⟩
  have hf : n1 ≤ 4 ∧ n2 ≤ 4 ∧ n3 ≤ 10 := by have h1 := HR.out.few; have h2 := HL.out; omega
  obtain ⟨hf1, hf2, hf3⟩ := hf
  clear x0 x1 x2
  obtain ⟨x0, x1, x2⟩ := HBX.out w2 k2
  have hs2 := k2.size
  have lP : ∀ k, k ≤ n1 → (thP p k).length = 1 + k * 2 := fun k hk => by unfold thP; rw [List.length_cons, len_flatT (c := 2) (fun _ => rfl), List.length_take]; have := HL.out; rw [Nat.min_eq_left (by omega)]; omega
  have lQ : ∀ k, k ≤ n2 → (thQ p k).length = 2 + n1 * 2 + k * 3 := fun k hk => by unfold thQ; rw [List.length_append, HL.out.1, lP n1 (Nat.le_refl _), List.length_cons, len_flatT (c := 3) (fun _ => rfl), List.length_take]; have := HL.out; rw [Nat.min_eq_left (by omega)]; omega
  have lB : ∀ k, k ≤ n3 → (thB p k).length = 3 + n1 * 2 + n2 * 3 + k * 4 := fun k hk => by unfold thB; rw [List.length_append, HL.out.2.1, lQ n2 (Nat.le_refl _), List.length_cons, len_flatT (c := 4) (fun _ => rfl), List.length_take]; have := HL.out; rw [Nat.min_eq_left (by omega)]; omega
  have HLP := hidI lP
  have HLQ := hidI lQ
  have HLB := hidI lB
  clear lP lQ lB k2
  go_upto_region 5 with fail
  obtain ⟨W3, hW3⟩ : ∃ W3, W3 = w2.alloc (.cells #[.iface 3 (.int .i64 n1)] 20) := ⟨_, rfl⟩
  rw [← hW3]
  have k3' : Below w2.heap.size w2 W3 := by rw [hW3]; exact (Below.refl _ _).alloc (Nat.le_refl _) _
  have HO3 : Hid (W3.ownsRow W1.heap.size 20 1 (.slice (some ⟨w2.heap.size, 0, none⟩) 1 1) 1 (thV (thP p 0))) := by
    have := World.ownsRow_lit (base := W1.heap.size) (e := 20) (size := 1) w2 #[.iface 3 (.int .i64 n1)] 1 hs2 (by unfold maxLen; omega) rfl
    show W3.ownsRow _ _ _ _ _ _
    rw [hW3]
    have e : thV (thP p 0) = [.iface 3 (.int .i64 n1)] := by unfold thP thV; rw [HL.out.1]; rfl
    rw [e]; exact this
  have K3 := hidI (K2.out.trans (k3'.mono hs2))
  clear hW3 k3' x0 x1 x2
  obtain ⟨x0, x1, x2⟩ := HBX.out W3 K3.out
  go_wp2_with fail
  clear x0 x1 x2
  go_loopw [5, 25] (fun l i wr => ∃ (k : Nat), k ≤ n1 ∧ i = .int .i64 k ∧ wr.ownsRow W1.heap.size 20 1 l (1 + k * 2) (thV (thP p k)) ∧ Below W1.heap.size W1 wr) (fun _ i _ => n1 - (intOf i).toNat)
  case atStart => exact ⟨0, Nat.zero_le _, rfl, HO3.out, K3.out⟩
  case round =>
    obtain ⟨k, hk, rfl, hown, hB⟩ := hrel
    have HO := hidI hown
    have HB := hidI hB
    have hBs := hB.size
    clear hown
    by_cases hlt : k < n1
    · have HLT := hidI hlt
      have hkl : k < p.posts.length := by rw [HL.out.1]; exact hlt
      have HKL := hidI hkl
      obtain ⟨g, o, ha, hg, e0, e1⟩ := (HP.out.p1.keep hB).get hkl
      have HNX := hidI (next_thP hkl)
      obtain ⟨x, hx⟩ : ∃ x, x = p.posts[k]'hkl := ⟨_, rfl⟩
      rw [← hx] at e0 e1 HNX
      subst ha
      have j1 : (0 : Int) ≤ (k : Int) := by omega
      have j2 : (k : Int) < n1 := by omega
      obtain ⟨W4, hW4⟩ : ∃ W4, W4 = wr.alloc (.cells #[.string x.name, .int .i64 x.kind] 70) := ⟨_, rfl⟩
      obtain ⟨W5, hW5⟩ : ∃ W5, W5 = W4.alloc (.cells #[.iface 9 (.string x.name), .iface 3 (.int .i64 x.kind)] 20) := ⟨_, rfl⟩
      have k4 : Below wr.heap.size wr W4 := by rw [hW4]; exact (Below.refl _ _).alloc (Nat.le_refl _) _
      have b4 : W4.heap[wr.heap.size]? = some (.cells #[.string x.name, .int .i64 x.kind] 70 (0, 0)) := by rw [hW4]; exact World.alloc_heap_new wr _
      have k5 : Below W4.heap.size W4 W5 := by rw [hW5]; exact (Below.refl _ _).alloc (Nat.le_refl _) _
      have K5 := hidI (hB.trans ((k4.trans (k5.mono k4.size)).mono hBs))
      have HO5 := hidI (copied_two HO.out (k4.trans (k5.mono k4.size)))
      have HRW : Hid (RowAt W5 (some ⟨W4.heap.size, 0, none⟩) (thV (postT x))) := by show RowAt W5 _ _; rw [hW5]; exact row_new (cs := thV (postT x))
      have HW4 := hidI hW4
      have HW5 := hidI hW5
      have hs5 := K5.out.size
      have HZ4 : Hid (W4.heap.size = wr.heap.size + 1) := by show W4.heap.size = _; rw [hW4]; simp
      have d0 := cell_of_cells b4 0
      have d1 := cell_of_cells b4 1
      simp at d0 d1
      clear hx hW4 hW5 k4 k5 b4
      go_wp2_with (first | (at_builtin; (try rw [← HW4.out]); (try rw [← HW5.out]); (try rw [← HZ4.out]); refine append_row elemAny (by kernel_rfl) _ _ rfl W1.heap.size _ (1 + k * 2) (thV (thP p k)) rfl HO5.out (some ⟨W4.heap.size, 0, none⟩) 2 2 (thV (postT x)) rfl rfl (fun h => by cases h) HRW.out (thV_one _) (by unfold maxLen; omega) (by omega) hs5 ?_; intro v6 w6 hown6 hgrow6 hblk6))
      go_roundw
      case rel => exact ⟨k + 1, HLT.out, by have := HLT.out; go_num, by rw [HNX.out, thV_append, show 1 + (k + 1) * 2 = 1 + k * 2 + 2 by omega]; exact hown6, K5.out.grown hgrow6 hs5 (fun j hj => (HO5.out.lt j hj).1)⟩
      case measure => have := HLT.out; simp [intOf]; omega
    · have hke : k = n1 := by omega
      obtain rfl := hke.symm
      clear hlt hk
      obtain ⟨x0, x1, x2⟩ := HBX.out wr hB
      obtain ⟨W4, hW4⟩ : ∃ W4, W4 = wr.alloc (.cells #[.iface 3 (.int .i64 n2)] 20) := ⟨_, rfl⟩
      have k4 : Below wr.heap.size wr W4 := by rw [hW4]; exact (Below.refl _ _).alloc (Nat.le_refl _) _
      have K4 := hidI (hB.trans (k4.mono hBs))
      have HO4 := hidI (copied_two HO.out k4)
      have HRW : Hid (RowAt W4 (some ⟨wr.heap.size, 0, none⟩) (thV [.num n2])) := by show RowAt W4 _ _; rw [hW4]; exact row_new (cs := thV [.num n2])
      have HW4 := hidI hW4
      have hs4 := K4.out.size
      clear hW4 k4
      go_upto_region 11 with (at_builtin; rw [← HW4.out]; refine append_row elemAny (by kernel_rfl) _ _ rfl W1.heap.size _ (1 + n1 * 2) (thV (thP p n1)) rfl HO4.out (some ⟨wr.heap.size, 0, none⟩) 1 1 (thV [.num n2]) rfl rfl (fun h => by cases h) HRW.out (thV_one _) (by unfold maxLen; omega) (by omega) hs4 ?_; intro v7 w7 hown7 hgrow7 hblk7; clear x0 x1 x2; have k7 := K4.out.grown hgrow7 hs4 (fun j hj => (HO4.out.lt j hj).1); obtain ⟨x0, x1, x2⟩ := HBX.out w7 k7; have K7 := hidI k7; have HO7 := hidI hown7; clear k7 hown7 hgrow7 hblk7)
      go_wp2_with fail
      clear x0 x1 x2
      go_loopw [5, 49] (fun l i wr => ∃ (k : Nat), k ≤ n2 ∧ i = .int .i64 k ∧ wr.ownsRow W1.heap.size 20 1 l (2 + n1 * 2 + k * 3) (thV (thQ p k)) ∧ Below W1.heap.size W1 wr) (fun _ i _ => n2 - (intOf i).toNat)
      case atStart => exact ⟨0, Nat.zero_le _, rfl, by have e : thQ p 0 = thP p n1 ++ [.num n2] := by { unfold thQ; rw [HL.out.1, HL.out.2.1]; rfl }; rw [e, thV_append, show 2 + n1 * 2 + 0 * 3 = 1 + n1 * 2 + 1 by omega]; exact HO7.out, K7.out⟩
      case round =>
        obtain ⟨k, hk, rfl, hown, hB⟩ := hrel
        have HO := hidI hown
        have HB := hidI hB
        have hBs := hB.size
        clear hown
        by_cases hlt : k < n2
        · have HLT := hidI hlt
          have hkl : k < p.queues.length := by rw [HL.out.2.1]; exact hlt
          have HKL := hidI hkl
          obtain ⟨g, o, ha, hg, e0, e1, e2⟩ := (HP.out.p2.keep hB).get hkl
          have HNX := hidI (next_thQ hkl)
          obtain ⟨x, hx⟩ : ∃ x, x = p.queues[k]'hkl := ⟨_, rfl⟩
          rw [← hx] at e0 e1 e2 HNX
          subst ha
          have j1 : (0 : Int) ≤ (k : Int) := by omega
          have j2 : (k : Int) < n2 := by omega
          have jw : IntKind.i64.wrap (x.dead + 1) = x.dead + 1 := by have h1 := HR.out.queues _ (List.getElem_mem HKL.out); rw [← hx] at h1; have h2 := HR.out.few; rw [IntKind.wrap_i64]; omega
          obtain ⟨W4, hW4⟩ : ∃ W4, W4 = wr.alloc (.cells #[.string x.name, .int .i64 x.limit, .int .i64 x.dead] 72) := ⟨_, rfl⟩
          obtain ⟨W5, hW5⟩ : ∃ W5, W5 = W4.alloc (.cells #[.iface 9 (.string x.name), .iface 3 (.int .i64 x.limit), .iface 3 (.int .i64 (x.dead + 1))] 20) := ⟨_, rfl⟩
          have k4 : Below wr.heap.size wr W4 := by rw [hW4]; exact (Below.refl _ _).alloc (Nat.le_refl _) _
          have b4 : W4.heap[wr.heap.size]? = some (.cells #[.string x.name, .int .i64 x.limit, .int .i64 x.dead] 72 (0, 0)) := by rw [hW4]; exact World.alloc_heap_new wr _
          have k5 : Below W4.heap.size W4 W5 := by rw [hW5]; exact (Below.refl _ _).alloc (Nat.le_refl _) _
          have K5 := hidI (hB.trans ((k4.trans (k5.mono k4.size)).mono hBs))
          have HO5 := hidI (copied_two HO.out (k4.trans (k5.mono k4.size)))
          have HRW : Hid (RowAt W5 (some ⟨W4.heap.size, 0, none⟩) (thV (queueT x))) := by show RowAt W5 _ _; rw [hW5]; exact row_new (cs := thV (queueT x))
          have HW4 := hidI hW4
          have HW5 := hidI hW5
          have hs5 := K5.out.size
          have HZ4 : Hid (W4.heap.size = wr.heap.size + 1) := by show W4.heap.size = _; rw [hW4]; simp
          have d0 := cell_of_cells b4 0
          have d1 := cell_of_cells b4 1
          have d2 := cell_of_cells b4 2
          simp at d0 d1 d2
          clear hx hW4 hW5 k4 k5 b4
          go_wp2_with (first | (at_builtin; (try rw [← HW4.out]); (try rw [← HW5.out]); (try rw [← HZ4.out]); refine append_row elemAny (by kernel_rfl) _ _ rfl W1.heap.size _ (2 + n1 * 2 + k * 3) (thV (thQ p k)) rfl HO5.out (some ⟨W4.heap.size, 0, none⟩) 3 3 (thV (queueT x)) rfl rfl (fun h => by cases h) HRW.out (thV_one _) (by unfold maxLen; omega) (by omega) hs5 ?_; intro v6 w6 hown6 hgrow6 hblk6))
          go_roundw
          case rel => exact ⟨k + 1, HLT.out, by have := HLT.out; go_num, by rw [HNX.out, thV_append, show 2 + n1 * 2 + (k + 1) * 3 = 2 + n1 * 2 + k * 3 + 3 by omega]; exact hown6, K5.out.grown hgrow6 hs5 (fun j hj => (HO5.out.lt j hj).1)⟩
          case measure => have := HLT.out; simp [intOf]; omega
        · have hke : k = n2 := by omega
          obtain rfl := hke.symm
          clear hlt hk
          obtain ⟨x0, x1, x2⟩ := HBX.out wr hB
          obtain ⟨W4, hW4⟩ : ∃ W4, W4 = wr.alloc (.cells #[.iface 3 (.int .i64 n3)] 20) := ⟨_, rfl⟩
          have k4 : Below wr.heap.size wr W4 := by rw [hW4]; exact (Below.refl _ _).alloc (Nat.le_refl _) _
          have K4 := hidI (hB.trans (k4.mono hBs))
          have HO4 := hidI (copied_two HO.out k4)
          have HRW : Hid (RowAt W4 (some ⟨wr.heap.size, 0, none⟩) (thV [.num n3])) := by show RowAt W4 _ _; rw [hW4]; exact row_new (cs := thV [.num n3])
          have HW4 := hidI hW4
          have hs4 := K4.out.size
          clear hW4 k4
          go_upto_region 17 with (at_builtin; rw [← HW4.out]; refine append_row elemAny (by kernel_rfl) _ _ rfl W1.heap.size _ (2 + n1 * 2 + n2 * 3) (thV (thQ p n2)) rfl HO4.out (some ⟨wr.heap.size, 0, none⟩) 1 1 (thV [.num n3]) rfl rfl (fun h => by cases h) HRW.out (thV_one _) (by unfold maxLen; omega) (by omega) hs4 ?_; intro v7 w7 hown7 hgrow7 hblk7; clear x0 x1 x2; have k7 := K4.out.grown hgrow7 hs4 (fun j hj => (HO4.out.lt j hj).1); obtain ⟨x0, x1, x2⟩ := HBX.out w7 k7; have K7 := hidI k7; have HO7 := hidI hown7; clear k7 hown7 hgrow7 hblk7)
          go_wp2_with fail
          clear x0 x1 x2
          go_loopw [5, 77] (fun l i wr => ∃ (k : Nat), k ≤ n3 ∧ i = .int .i64 k ∧ wr.ownsRow W1.heap.size 20 1 l (3 + n1 * 2 + n2 * 3 + k * 4) (thV (thB p k)) ∧ Below W1.heap.size W1 wr) (fun _ i _ => n3 - (intOf i).toNat)
          case atStart => exact ⟨0, Nat.zero_le _, rfl, by have e : thB p 0 = thQ p n2 ++ [.num n3] := by { unfold thB; rw [HL.out.2.1, HL.out.2.2]; rfl }; rw [e, thV_append, show 3 + n1 * 2 + n2 * 3 + 0 * 4 = 2 + n1 * 2 + n2 * 3 + 1 by omega]; exact HO7.out, K7.out⟩
          case round =>
            obtain ⟨k, hk, rfl, hown, hB⟩ := hrel
            have HO := hidI hown
            have HB := hidI hB
            have hBs := hB.size
            clear hown
            by_cases hlt : k < n3
            · have HLT := hidI hlt
              have hkl : k < p.binds.length := by rw [HL.out.2.2]; exact hlt
              have HKL := hidI hkl
              obtain ⟨g, o, ha, hg, e0, e1, e2, e3⟩ := (HP.out.p3.keep hB).get hkl
              have HNX := hidI (next_thB hkl)
              obtain ⟨x, hx⟩ : ∃ x, x = p.binds[k]'hkl := ⟨_, rfl⟩
              rw [← hx] at e0 e1 e2 e3 HNX
              subst ha
              have j1 : (0 : Int) ≤ (k : Int) := by omega
              have j2 : (k : Int) < n3 := by omega
              obtain ⟨W4, hW4⟩ : ∃ W4, W4 = wr.alloc (.cells #[.int .i64 x.src, .bool x.toPost, .int .i64 x.dst, .string x.pat] 77) := ⟨_, rfl⟩
              obtain ⟨W5, hW5⟩ : ∃ W5, W5 = W4.alloc (.cells #[.iface 3 (.int .i64 x.src), .iface 4 (.bool x.toPost), .iface 3 (.int .i64 x.dst), .iface 9 (.string x.pat)] 20) := ⟨_, rfl⟩
              have k4 : Below wr.heap.size wr W4 := by rw [hW4]; exact (Below.refl _ _).alloc (Nat.le_refl _) _
              have b4 : W4.heap[wr.heap.size]? = some (.cells #[.int .i64 x.src, .bool x.toPost, .int .i64 x.dst, .string x.pat] 77 (0, 0)) := by rw [hW4]; exact World.alloc_heap_new wr _
              have k5 : Below W4.heap.size W4 W5 := by rw [hW5]; exact (Below.refl _ _).alloc (Nat.le_refl _) _
              have K5 := hidI (hB.trans ((k4.trans (k5.mono k4.size)).mono hBs))
              have HO5 := hidI (copied_two HO.out (k4.trans (k5.mono k4.size)))
              have HRW : Hid (RowAt W5 (some ⟨W4.heap.size, 0, none⟩) (thV (bindT x))) := by show RowAt W5 _ _; rw [hW5]; exact row_new (cs := thV (bindT x))
              have HW4 := hidI hW4
              have HW5 := hidI hW5
              have hs5 := K5.out.size
              have HZ4 : Hid (W4.heap.size = wr.heap.size + 1) := by show W4.heap.size = _; rw [hW4]; simp
              have d0 := cell_of_cells b4 0
              have d1 := cell_of_cells b4 1
              have d2 := cell_of_cells b4 2
              have d3 := cell_of_cells b4 3
              simp at d0 d1 d2 d3
              clear hx hW4 hW5 k4 k5 b4
              go_wp2_with (first | (at_builtin; (try rw [← HW4.out]); (try rw [← HW5.out]); (try rw [← HZ4.out]); refine append_row elemAny (by kernel_rfl) _ _ rfl W1.heap.size _ (3 + n1 * 2 + n2 * 3 + k * 4) (thV (thB p k)) rfl HO5.out (some ⟨W4.heap.size, 0, none⟩) 4 4 (thV (bindT x)) rfl rfl (fun h => by cases h) HRW.out (thV_one _) (by unfold maxLen; omega) (by omega) hs5 ?_; intro v6 w6 hown6 hgrow6 hblk6))
              go_roundw
              case rel => exact ⟨k + 1, HLT.out, by have := HLT.out; go_num, by rw [HNX.out, thV_append, show 3 + n1 * 2 + n2 * 3 + (k + 1) * 4 = 3 + n1 * 2 + n2 * 3 + k * 4 + 4 by omega]; exact hown6, K5.out.grown hgrow6 hs5 (fun j hj => (HO5.out.lt j hj).1)⟩
              case measure => have := HLT.out; simp [intOf]; omega
            · have hke : k = n3 := by omega
              obtain rfl := hke.symm
              clear hlt hk
              obtain ⟨aa, cc, hv, -, -, -, hrow⟩ := own_row HO.out
              subst hv
              have HPT : Hid (planT p = thB p n3) := by show planT p = _; unfold planT; rw [HL.out.2.2]
              have hlen : (planT p).length = 3 + n1 * 2 + n2 * 3 + n3 * 4 := by rw [HPT.out]; exact HLB.out n3 (Nat.le_refl _)
              have hT : ThingsAt wr aa (planT p) := by rw [HPT.out]; exact hrow
              have PU := hidI (put_any (planT p) aa _ cc wr hlen (by omega) (by rw [planT_bytes]; have := planB_short HE.out.symm; omega) hT (fun g o h => by have := HO.out.lt g (by rw [h]; rfl); exact this.2))
              clear hrow hlen hT
              go_wp2_with fail
              refine PU.out.mono ?_
              rintro e w9 ⟨rfl, k9⟩
              have e1 : putE (planT p) = 0 := planT_ok HE.out.symm
              have e2 : putV (planT p) = V := by unfold putV; rw [if_pos e1, planT_bytes, HV.out]; unfold wrV; rw [if_pos HE.out.symm]
              rw [e1, e2]
              have K9 := hidI k9
              clear e1 e2 k9
              go_wp2_with fail
              go_ret2
              exact ⟨rfl, HBW.out.trans ((hB.trans (K9.out.mono hBs)).mono s0)⟩

end Go.Proofs.Ytpoichgodamnkaa

/- Wr -/
namespace Go.Proofs.Ytpoichgodamnkaa
set_option linter.unusedVariables false
set_option maxRecDepth 100000
open Go.RowKit Go.Maps

theorem pp_boxed (w : World) (pv sv : Array Value) : ∃ W2, W2 = (w.alloc (.cells pv 26)).alloc (.cells sv 26) ∧ Below w.heap.size w W2 ∧ W2.heap.size = w.heap.size + 2 ∧
    ∀ W, Below W2.heap.size W2 W → W.heap[w.heap.size]? = some (.cells pv 26 (0, 0)) ∧ W.heap[w.heap.size + 1]? = some (.cells sv 26 (0, 0)) := by
  obtain ⟨h1, h2, h3, h4⟩ := two_heap w _ (.cells pv 26) (.cells sv 26) rfl
  exact ⟨_, rfl, h4, h1, fun W hW => ⟨plan_keep h2 hW, plan_keep h3 hW⟩⟩

set_option maxRecDepth 100000 in
set_option maxHeartbeats 4000000 in
theorem same_plans (p : PlanD) (a1 a2 a3 : Option Addr) (n1 c1 n2 c2 n3 c3 : Nat) (e1 e2 e3 : Option Addr) (f1 f2 f3 : Nat) (w : World) (ha : PlanAt w a1 a2 a3 n1 n2 n3 p) (hb : PlanAt w e1 e2 e3 n1 n2 n3 p) (hl : n1 ≤ 100000 ∧ n2 ≤ 100000 ∧ n3 ≤ 100000) :
    Calls Try.prog 33 #[.agg #[.slice a1 n1 c1, .slice a2 n2 c2, .slice a3 n3 c3], .agg #[.slice e1 n1 f1, .slice e2 n2 f2, .slice e3 n3 f3]] w fun e w' => e = .returned (.bool true) ∧ Below w.heap.size w w' := by
  obtain ⟨W2, hW2, hBw, hs2, hbx⟩ := pp_boxed w #[.slice a1 n1 c1, .slice a2 n2 c2, .slice a3 n3 c3] #[.slice e1 n1 f1, .slice e2 n2 f2, .slice e3 n3 f3]
  have HW2 := hidI hW2
  have BX := hidI hbx
  have HA := hidI (ha.keep hBw)
  have HB := hidI (hb.keep hBw)
  have HBW := hidI hBw
  have HM1 : Hid (p.posts.length = n1) := ha.l1
  have HM2 : Hid (p.queues.length = n2) := ha.l2
  have HM3 : Hid (p.binds.length = n3) := ha.l3
  obtain ⟨hx1, hx2, hx3⟩ := hl
  have s0 := hBw.size
  have g1 : ((n1 : Int) != (n1 : Int)) = false := by simp
  have g2 : ((n2 : Int) != (n2 : Int)) = false := by simp
  have g3 : ((n3 : Int) != (n3 : Int)) = false := by simp
  obtain ⟨y0, y1, y2⟩ := pl_cells (hbx W2 (Below.refl _ _)).1
  obtain ⟨z0, z1, z2⟩ := pl_cells (hbx W2 (Below.refl _ _)).2
  clear hW2 hbx hs2 ha hb hBw
  go_enter Try.func33, Try.ntmps33
  go_wp2_with fail
  rw [← HW2.out]
  clear y0 y1 y2 z0 z1 z2 g1 g2 g3
  go_loopw [5] (fun i wr => ∃ k : Nat, k ≤ n1 ∧ i = .int .i64 k ∧ Below W2.heap.size W2 wr) (fun i _ => n1 - (intOf i).toNat)
  case atStart => exact ⟨0, Nat.zero_le _, rfl, Below.refl _ _⟩
  case round =>
    obtain ⟨k, hk, rfl, hB⟩ := hrel
    have hBs := hB.size
    have HBl := hidI hB
    obtain ⟨y0, y1, y2⟩ := pl_cells (BX.out wr hB).1
    obtain ⟨z0, z1, z2⟩ := pl_cells (BX.out wr hB).2
    by_cases hlt : k < n1
    · have HLT := hidI hlt
      have hkl : k < p.posts.length := by rw [HM1.out]; exact hlt
      obtain ⟨g, o, ha, hg, c0, c1⟩ := (HA.out.p1.keep hB).get hkl
      obtain ⟨g', o', ha', hg', c0', c1'⟩ := (HB.out.p1.keep hB).get hkl
      subst ha ha'
      have j1 : (0 : Int) ≤ (k : Int) := by omega
      have j2 : (k : Int) < n1 := by omega
      go_wp2_with fail
      go_quiet (fail)
      go_wp2_with fail
      go_roundw
      case rel => exact ⟨k + 1, HLT.out, by have := HLT.out; go_num, below_drewL HBl.out⟩
      case measure => have := HLT.out; simp [intOf]; omega
    · have hke : n1 = k := by omega
      subst hke
      clear hlt hk
      go_wp2_with fail
      clear y0 y1 y2 z0 z1 z2
      go_loopw [6] (fun i wr => ∃ k : Nat, k ≤ n2 ∧ i = .int .i64 k ∧ Below W2.heap.size W2 wr) (fun i _ => n2 - (intOf i).toNat)
      case atStart => exact ⟨0, Nat.zero_le _, rfl, hB⟩
      case round =>
        clear hB hBs HBl
        obtain ⟨k, hk, rfl, hB⟩ := hrel
        have hBs := hB.size
        have HBl := hidI hB
        obtain ⟨y0, y1, y2⟩ := pl_cells (BX.out wr hB).1
        obtain ⟨z0, z1, z2⟩ := pl_cells (BX.out wr hB).2
        by_cases hlt : k < n2
        · have HLT := hidI hlt
          have hkl : k < p.queues.length := by rw [HM2.out]; exact hlt
          obtain ⟨g, o, ha, hg, c0, c1, c2⟩ := (HA.out.p2.keep hB).get hkl
          obtain ⟨g', o', ha', hg', c0', c1', c2'⟩ := (HB.out.p2.keep hB).get hkl
          subst ha ha'
          have j1 : (0 : Int) ≤ (k : Int) := by omega
          have j2 : (k : Int) < n2 := by omega
          go_wp2_with fail
          go_quiet (fail)
          go_wp2_with fail
          go_roundw
          case rel => exact ⟨k + 1, HLT.out, by have := HLT.out; go_num, below_drewL HBl.out⟩
          case measure => have := HLT.out; simp [intOf]; omega
        · have hke : n2 = k := by omega
          subst hke
          clear hlt hk
          go_wp2_with fail
          clear y0 y1 y2 z0 z1 z2
          go_loopw [7] (fun i wr => ∃ k : Nat, k ≤ n3 ∧ i = .int .i64 k ∧ Below W2.heap.size W2 wr) (fun i _ => n3 - (intOf i).toNat)
          case atStart => exact ⟨0, Nat.zero_le _, rfl, hB⟩
          case round =>
            clear hB hBs HBl
            obtain ⟨k, hk, rfl, hB⟩ := hrel
            have hBs := hB.size
            have HBl := hidI hB
            obtain ⟨y0, y1, y2⟩ := pl_cells (BX.out wr hB).1
            obtain ⟨z0, z1, z2⟩ := pl_cells (BX.out wr hB).2
            by_cases hlt : k < n3
            · have HLT := hidI hlt
              have hkl : k < p.binds.length := by rw [HM3.out]; exact hlt
              obtain ⟨g, o, ha, hg, c0, c1, c2, c3⟩ := (HA.out.p3.keep hB).get hkl
              obtain ⟨g', o', ha', hg', c0', c1', c2', c3'⟩ := (HB.out.p3.keep hB).get hkl
              subst ha ha'
              have j1 : (0 : Int) ≤ (k : Int) := by omega
              have j2 : (k : Int) < n3 := by omega
              go_wp2_with fail
              go_quiet (fail)
              go_wp2_with fail
              go_roundw
              case rel => exact ⟨k + 1, HLT.out, by have := HLT.out; go_num, below_drewL HBl.out⟩
              case measure => have := HLT.out; simp [intOf]; omega
            · have hke : n3 = k := by omega
              subst hke
              clear hlt hk
              go_wp2_with fail
              go_ret
              exact ⟨rfl, HBW.out.trans (HBl.out.mono s0)⟩
/-- At two values of one plan. -/
theorem same_pl {p : PlanD} {u v : Value} {w : World} (hu : PlV w u p) (hv : PlV w v p) (hl : p.posts.length ≤ 100000 ∧ p.queues.length ≤ 100000 ∧ p.binds.length ≤ 100000) : Calls Try.prog 33 #[u, v] w fun e w' => e = .returned (.bool true) ∧ Below w.heap.size w w' := by
  obtain ⟨a1, a2, a3, n1, c1, n2, c2, n3, c3, rfl, h1⟩ := hu
  obtain ⟨b1, b2, b3, m1, d1, m2, d2, m3, d3, rfl, h2⟩ := hv
  have q1 : m1 = n1 := h2.l1.symm.trans h1.l1
  have q2 : m2 = n2 := h2.l2.symm.trans h1.l2
  have q3 : m3 = n3 := h2.l3.symm.trans h1.l3
  subst q1 q2 q3
  rw [h1.l1, h1.l2, h1.l3] at hl
  exact same_plans p _ _ _ _ _ _ _ _ _ _ _ _ _ _ _ w h1 h2 hl

end Go.Proofs.Ytpoichgodamnkaa
