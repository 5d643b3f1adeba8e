import Derived.Deep.DeepCutAuto
import Derived.Test.YtpoichgodamnkaaGreatSWk
import Derived.Test.YtpoichgodamnkaaGreatSKw
/- Wl -/
namespace Go.Proofs.YtpoichgodamnkaaGreat
set_option linter.unusedVariables false
set_option maxRecDepth 100000
open Go.RowKit Go.Maps

def bytesV (l : List UInt8) : ByteArray := ⟨l.toArray⟩
def putV (l : List ThingD) : ByteArray := if putE l = 0 then bytesV (putB_ l) else ⟨#[]⟩
theorem nums_bytes (l : List UInt8) : strOfNums (l.map (fun b => (b.toNat : Int))) = bytesV l := by
  unfold strOfNums bytesV
  rw [List.map_map]
  congr 1
  have : (fun (n : Int) => UInt8.ofNat n.toNat) ∘ (fun b : UInt8 => (b.toNat : Int)) = id := by
    funext b
    simp
  rw [this, List.map_id]
/-- 'string(b)' of bytes of one's own. -/
theorem run_text (W : World) {n : Nat} {b : Option Addr} {m c : Nat} {l : List UInt8} (h : W.ownsRow n 5 1 (.slice b m c) m (byteCells l)) : (convert 143 9 (.slice b m c)).run Tryz.prog W = .ok (.string (bytesV l)) W := by
  have hl : l.length = m := by have := h.1; rw [byteCells_len] at this; omega
  rcases h.2 with ⟨e, e0⟩ | ⟨g, cap, cur, e, _, hg, _⟩
  · cases e
    have : l = [] := List.length_eq_zero_iff.1 (by omega)
    subst this
    exact run_convert_bytes_nil W 143 5 Tryz.underlying143 Tryz.underlying5 0 0 9 Tryz.underlying9
  · cases e
    have := run_convert_bytes_arg W 143 5 Tryz.underlying143 Tryz.underlying5 g 0 m c (l.map (fun b => (b.toNat : Int))) (by rw [List.length_map]; exact hl) (fun i hi => by
      have hc := h.cells (g := g) rfl i _ (show (byteCells l)[i]? = some (.int .u8 ((l[i]'(by omega)).toNat : Int)) by unfold byteCells; rw [List.getElem?_map, List.getElem?_eq_getElem (by omega)]; rfl)
      rw [addr_add] at hc
      rw [hc, List.getD_eq_getElem?_getD, List.getElem?_map, List.getElem?_eq_getElem (by omega)]; rfl) 9 Tryz.underlying9
    rw [nums_bytes] at this
    exact this

set_option maxRecDepth 100000 in
set_option maxHeartbeats 4000000 in
theorem put_any (l : List ThingD) (a : Option Addr) (n c : Nat) (w : World) (hn : l.length = n) (hm : n ≤ 100000) (hsz : (putB_ l).length ≤ 100000000) (hT : ThingsAt w a l) (hlt : ∀ g o, a = some ⟨g, o, none⟩ → g < w.heap.size) :
    Calls Tryz.prog 119 #[.slice a n c] w fun e w' => e = .returned (.tuple #[.string (putV l), .int .i64 (putE l)]) ∧ Below w.heap.size w w' := by
  obtain ⟨E, hE⟩ : ∃ E, E = putE l := ⟨_, rfl⟩
  obtain ⟨V, hV⟩ : ∃ V, V = putV l := ⟨_, rfl⟩
  rw [← hE, ← hV]
  obtain ⟨W6, hW6⟩ : ∃ W6, W6 = (w.alloc (.cells #[.slice a n c] 198)).alloc (.cells #[.slice none 0 0] 143) := ⟨_, rfl⟩
  obtain ⟨hz6, x0, x1, hB6⟩ : W6.heap.size = w.heap.size + 2 ∧ W6.heap[w.heap.size]? = some (.cells #[.slice a n c] 198 (0, 0)) ∧ W6.heap[w.heap.size + 1]? = some (.cells #[.slice none 0 0] 143 (0, 0)) ∧ Below w.heap.size w W6 := two_heap w _ _ _ hW6
  have l8 : Below W6.heap.size W6 (W6.alloc (.cells #[.int .i64 0] 33)) := (Below.refl _ _).alloc (Nat.le_refl _) _
  have x8 := World.alloc_heap_new W6 (.cells #[.int .i64 0] 33)
  have RD := put1_any l a n c w.heap.size (w.heap.size + 1) (W6.alloc (.cells #[.int .i64 0] 33)) hn hm hsz (RowAt.keep (RowAt.keep hT hB6) l8) (fun g o h => by have := hlt g o h; omega) (plan_keep x0 l8) (plan_keep x1 l8)
  have TR := tried_any 171 (fun _ _ => rfl) #[.pointer (some ⟨w.heap.size, 0, none⟩), .pointer (some ⟨w.heap.size + 1, 0, none⟩)]
    (fun D w1 => D = E ∧ FrameT (W6.heap.size + 1) (w.heap.size + 1) (W6.alloc (.cells #[.int .i64 0] 33)) w1 ∧ (E = 0 → ∃ b m c, BytesBox w1 (W6.heap.size + 1) (w.heap.size + 1) (putB_ l) b m c)) W6
    (RD.mono (by
      rintro e w' ⟨g1, g2, g3⟩
      rw [World.size_alloc] at g1 g3
      rw [← hE] at g2 g3
      exact ⟨E, g2, ⟨rfl, g1, g3⟩, (g1.block W6.heap.size (Nat.lt_succ_self _) (by omega)).trans x8⟩))
  have HTR := hidI TR
  have HW6 := hidI hW6
  have HB6 := hidI hB6
  have HZ6 := hidI hz6
  have HV : Hid (V = if E = 0 then bytesV (putB_ l) else ⟨#[]⟩) := by show V = _; rw [hV, hE]; rfl
  have hmf : ∀ (fn : Fn) (first cap : Array Value) (w : World), (Instr.makeFunc fn first cap).run Tryz.prog w = .ok (.func fn first cap) w := fun _ _ _ _ => rfl
  clear TR RD hz6 hB6 hW6 x0 x1 x8 l8 hE hV hT hn hsz hlt
  go_enter Tryz.func119, Tryz.ntmps119
  go_wp2_with fail
  rw [← HW6.out]
  refine HTR.out.mono ?_
  rintro e w8 ⟨D, w1, rfl, ⟨rfl, hF, hP⟩, hbx, rfl⟩
  have t8 := setCell_turnB w1 W6.heap.size 0 (.int .i64 D)
  have hF8 : Below w.heap.size w w1 := HB6.out.trans ⟨hF.os, hF.tape, hF.output, Nat.le_trans (by simp) hF.size, fun k hk => (hF.block k (by have := HZ6.out; omega) (by omega)).trans (Below.heap_alloc _ _ _ (by have := HZ6.out; omega))⟩
  have hF9 : Below w.heap.size w (w1.setCell ⟨W6.heap.size, 0, none⟩ (.int .i64 D)) := hF8.trans (t8.below hF8.size (by have := HZ6.out; omega))
  generalize hw8 : w1.setCell ⟨W6.heap.size, 0, none⟩ (.int .i64 D) = w8 at t8 hF9 ⊢
  have HF9 := hidI hF9
  by_cases hD : D = 0
  · subst hD
    obtain ⟨b, m, c', hb⟩ := hP rfl
    have hb8 := (t8.block _ (lt_of_heap hb.box) (by have := HZ6.out; omega)).trans hb.box
    have ho8 := row_keep hb.row (W' := w8) (fun g hg => t8.block g (hb.row.lt g hg).2 (by have := (hb.row.lt g hg).1; omega))
    have hcv := run_text w8 ho8
    have c0 := cell_of_cells hb8 0
    simp at c0
    have HV0 : Hid (V = bytesV (putB_ l)) := by show V = _; rw [HV.out, if_pos rfl]
    clear hb hb8 ho8 hP hF hF8 hF9 t8 hw8 hbx
    go_wp2_with fail
    go_ret2
    exact ⟨by rw [HV0.out]; rfl, HF9.out⟩
  · have hD' : (D != 0) = true := bne_iff_ne.2 hD
    have HV0 : Hid (V = ⟨#[]⟩) := by show V = _; rw [HV.out, if_neg hD]
    clear hD hP hF hF8 hF9 t8 hw8 hbx
    go_wp2_with fail
    go_ret2
    exact ⟨by rw [HV0.out]; rfl, HF9.out⟩

end Go.Proofs.YtpoichgodamnkaaGreat

/- Kx -/
namespace Go.Proofs.YtpoichgodamnkaaGreat
set_option linter.unusedVariables false
set_option maxRecDepth 100000
open Go.RowKit Go.Maps

set_option maxRecDepth 100000 in
set_option maxHeartbeats 4000000 in
theorem put_all (l : List ThingD) (a : Option Addr) (n c : Nat) (w : World) (hn : l.length = n) (hm : n ≤ 100000) (hT : ThingsAt w a l) (hlt : ∀ g o, a = some ⟨g, o, none⟩ → g < w.heap.size) :
    Calls Tryz.prog 119 #[.slice a n c] w fun e w' => e = .returned (.tuple #[.string (putV l), .int .i64 (putE l)]) ∧ Below w.heap.size w w' := by
  obtain ⟨E, hE⟩ : ∃ E, E = putE l := ⟨_, rfl⟩
  obtain ⟨V, hV⟩ : ∃ V, V = putV l := ⟨_, rfl⟩
  rw [← hE, ← hV]
  obtain ⟨W6, hW6⟩ : ∃ W6, W6 = (w.alloc (.cells #[.slice a n c] 198)).alloc (.cells #[.slice none 0 0] 143) := ⟨_, rfl⟩
  obtain ⟨hz6, x0, x1, hB6⟩ : W6.heap.size = w.heap.size + 2 ∧ W6.heap[w.heap.size]? = some (.cells #[.slice a n c] 198 (0, 0)) ∧ W6.heap[w.heap.size + 1]? = some (.cells #[.slice none 0 0] 143 (0, 0)) ∧ Below w.heap.size w W6 := two_heap w _ _ _ hW6
  have l8 : Below W6.heap.size W6 (W6.alloc (.cells #[.int .i64 0] 33)) := (Below.refl _ _).alloc (Nat.le_refl _) _
  have x8 := World.alloc_heap_new W6 (.cells #[.int .i64 0] 33)
  have RD := put1_all l a n c w.heap.size (w.heap.size + 1) (W6.alloc (.cells #[.int .i64 0] 33)) hn hm (RowAt.keep (RowAt.keep hT hB6) l8) (fun g o h => by have := hlt g o h; omega) (plan_keep x0 l8) (plan_keep x1 l8)
  have TR := tried_any 171 (fun _ _ => rfl) #[.pointer (some ⟨w.heap.size, 0, none⟩), .pointer (some ⟨w.heap.size + 1, 0, none⟩)]
    (fun D w1 => D = E ∧ FrameT (W6.heap.size + 1) (w.heap.size + 1) (W6.alloc (.cells #[.int .i64 0] 33)) w1 ∧ (E = 0 → ∃ b m c, BytesBox w1 (W6.heap.size + 1) (w.heap.size + 1) (putB_ l) b m c)) W6
    (RD.mono (by
      rintro e w' ⟨g1, g2, g3⟩
      rw [World.size_alloc] at g1 g3
      rw [← hE] at g2 g3
      exact ⟨E, g2, ⟨rfl, g1, g3⟩, (g1.block W6.heap.size (Nat.lt_succ_self _) (by omega)).trans x8⟩))
  have HTR := hidI TR
  have HW6 := hidI hW6
  have HB6 := hidI hB6
  have HZ6 := hidI hz6
  have HV : Hid (V = if E = 0 then bytesV (putB_ l) else ⟨#[]⟩) := by show V = _; rw [hV, hE]; rfl
  have hmf : ∀ (fn : Fn) (first cap : Array Value) (w : World), (Instr.makeFunc fn first cap).run Tryz.prog w = .ok (.func fn first cap) w := fun _ _ _ _ => rfl
  clear TR RD hz6 hB6 hW6 x0 x1 x8 l8 hE hV hT hn hlt
  go_enter Tryz.func119, Tryz.ntmps119
  go_wp2_with fail
  rw [← HW6.out]
  refine HTR.out.mono ?_
  rintro e w8 ⟨D, w1, rfl, ⟨rfl, hF, hP⟩, hbx, rfl⟩
  have t8 := setCell_turnB w1 W6.heap.size 0 (.int .i64 D)
  have hF8 : Below w.heap.size w w1 := HB6.out.trans ⟨hF.os, hF.tape, hF.output, Nat.le_trans (by simp) hF.size, fun k hk => (hF.block k (by have := HZ6.out; omega) (by omega)).trans (Below.heap_alloc _ _ _ (by have := HZ6.out; omega))⟩
  have hF9 : Below w.heap.size w (w1.setCell ⟨W6.heap.size, 0, none⟩ (.int .i64 D)) := hF8.trans (t8.below hF8.size (by have := HZ6.out; omega))
  generalize hw8 : w1.setCell ⟨W6.heap.size, 0, none⟩ (.int .i64 D) = w8 at t8 hF9 ⊢
  have HF9 := hidI hF9
  by_cases hD : D = 0
  · subst hD
    obtain ⟨b, m, c', hb⟩ := hP rfl
    have hb8 := (t8.block _ (lt_of_heap hb.box) (by have := HZ6.out; omega)).trans hb.box
    have ho8 := row_keep hb.row (W' := w8) (fun g hg => t8.block g (hb.row.lt g hg).2 (by have := (hb.row.lt g hg).1; omega))
    have hcv := run_text w8 ho8
    have c0 := cell_of_cells hb8 0
    simp at c0
    have HV0 : Hid (V = bytesV (putB_ l)) := by show V = _; rw [HV.out, if_pos rfl]
    clear hb hb8 ho8 hP hF hF8 hF9 t8 hw8 hbx
    go_wp2_with fail
    go_ret2
    exact ⟨by rw [HV0.out]; rfl, HF9.out⟩
  · have hD' : (D != 0) = true := bne_iff_ne.2 hD
    have HV0 : Hid (V = ⟨#[]⟩) := by show V = _; rw [HV.out, if_neg hD]
    clear hD hP hF hF8 hF9 t8 hw8 hbx
    go_wp2_with fail
    go_ret2
    exact ⟨by rw [HV0.out]; rfl, HF9.out⟩

end Go.Proofs.YtpoichgodamnkaaGreat
