import Derived.Test.YtpoichgodamnkaaYk
import Derived.Deep.DeepCutAuto
import Derived.Test.YtpoichgodamnkaaYn
import Derived.Test.YtpoichgodamnkaaYl
/- Wo -/
namespace Go.Proofs.Ytpoichgodamnkaa
set_option linter.unusedVariables false
set_option maxRecDepth 100000
open Go.RowKit Go.Maps

/-- An ear: what of that text is left from a place on. -/
def EarBox (W : World) (R : Nat) (s : ByteArray) (i : Nat) : Prop := W.heap[R]? = some (.cells #[.string (s.extract i s.size)] 109 (0, 0))
theorem ext_size (s : ByteArray) (i : Nat) : (s.extract i s.size).size = s.size - i := by rw [ByteArray.size_extract]; omega
theorem head_prefix {l : List UInt8} (h : 0 < l.length) : [l[0]] <+: l := by
  cases l with
  | nil => simp at h
  | cons a r => exact ⟨r, rfl⟩
theorem ext_get {s : ByteArray} {i : Nat} (h : i < s.size) : ∃ hz : 0 < (s.extract i s.size).size, (s.extract i s.size)[0] = s[i] := by
  refine ⟨by rw [ext_size]; omega, ?_⟩
  have h1 := Has.of_ext (s := s) (i := i) (n := s.size - i) (by omega)
  rw [show i + (s.size - i) = s.size by omega] at h1
  have hl : 0 < (s.extract i s.size).data.toList.length := by rw [size_list, ext_size]; omega
  have h2 : Has s i [(s.extract i s.size).data.toList[0]'hl] := by
    exact ⟨h1.1, (head_prefix hl).trans h1.2⟩
  obtain ⟨_, e⟩ := Has.one.1 h2
  rw [e]; rfl
theorem ext_ext (s : ByteArray) (i j k : Nat) (h : k ≤ s.size - i) : (s.extract i s.size).extract j k = s.extract (i + j) (i + k) := by
  apply ByteArray.ext
  apply Array.toList_inj.1
  rw [ext_list, ext_list, ext_list]
  rw [List.drop_take, List.drop_drop, List.take_take]
  congr 1
  omega
theorem eNum_le {s : ByteArray} {i : Nat} (h : i ≤ s.size) : (eNum s i).2 ≤ s.size ∧ (eNum s i).1 < 256 := by
  unfold eNum
  split
  · exact ⟨by simp only; omega, UInt8.toNat_lt _⟩
  · exact ⟨h, by simp only; omega⟩

set_option maxRecDepth 100000 in
set_option maxHeartbeats 1000000 in
theorem ebyte_any (s : ByteArray) (i R : Nat) (w : World) (hi : i ≤ s.size) (hs : s.size ≤ 1000000) (hR : EarBox w R s i) :
    Calls Try.prog 76 #[.pointer (some ⟨R, 0, none⟩)] w fun e w' => e = .returned (.int .i64 (eNum s i).1) ∧ EarBox w' R s (eNum s i).2 ∧ FrameT w.heap.size R w w' := by
  have HR := hidI hR
  have c0 := cell_of_cells hR 0
  have f0 := free_of_cells hR 0
  simp at c0
  by_cases hlt : i < s.size
  · obtain ⟨hz, h0⟩ := ext_get hlt
    have e1 : eNum s i = (s[i].toNat, i + 1) := dif_pos hlt
    rw [e1]
    have hex := ext_ext s i 1 (s.extract i s.size).size (by rw [ext_size]; omega)
    rw [ext_size, show i + (s.size - i) = s.size by omega] at hex
    obtain ⟨t, ht⟩ : ∃ t, t = s.extract i s.size := ⟨_, rfl⟩
    obtain ⟨c, hc⟩ : ∃ c, c = s[i]'hlt := ⟨_, rfl⟩
    rw [← hc]
    have hsz : t.size = s.size - i := by rw [ht]; exact ext_size s i
    have h0' : ∃ hz : 0 < t.size, t[0] = c := by rw [ht, hc]; exact ⟨hz, h0⟩
    obtain ⟨tz, t0⟩ := h0'
    rw [← ht] at c0
    obtain ⟨L, hL⟩ : ∃ L, L = t.size := ⟨_, rfl⟩
    have HL := hidI hL
    have HEX : Hid (t.extract 1 t.size = s.extract (i + 1) s.size) := by
      show t.extract 1 t.size = _
      rw [← hex, ht, ext_size]
    have z0 : (0 : Int) < (t.size : Int) := by omega
    have z1 : (1 : Int) ≤ (t.size : Int) := by omega
    have zn : t.toList.isEmpty = false := by
      rw [ByteArray.toList_eq]
      cases hl : t.data.toList with
      | nil => have := size_list t; rw [hl] at this; simp at this; omega
      | cons _ _ => rfl
    have hw : wrap64 (c.toNat : Int) = c.toNat := by have := UInt8.toNat_lt c; simp only [wrap64]; omega
    clear hz h0 e1 hex ht hc hsz hL hlt hR
    go_enter Try.func76, Try.ntmps76
    go_wp2_with fail
    rw [hw]
    go_ret
    exact ⟨rfl, by rw [HEX.out]; exact setCell_block HR.out (j := 0) _, (FrameT.refl _ _ _).setCell (p := ⟨R, 0, none⟩) (.inr rfl) _⟩
  · have e1 : eNum s i = (0, i) := dif_neg hlt
    rw [e1]
    have hie : i = s.size := by omega
    have hem : s.extract i s.size = ⟨#[]⟩ := by
      apply ByteArray.ext
      apply Array.toList_inj.1
      rw [ext_list, List.drop_eq_nil_of_le (by rw [size_list]; omega)]; simp
    rw [hem] at c0
    clear hlt hR e1 hie
    go_enter Try.func76, Try.ntmps76
    go_wp2_with fail
    go_ret
    exact ⟨rfl, HR.out, FrameT.refl _ _ _⟩

set_option maxRecDepth 100000 in
set_option maxHeartbeats 1000000 in
theorem etext_any (s : ByteArray) (i R : Nat) (w : World) (hi : i ≤ s.size) (hs : s.size ≤ 1000000) (hR : EarBox w R s i) :
    Calls Try.prog 77 #[.pointer (some ⟨R, 0, none⟩)] w fun e w' => e = .returned (.string (eText s i).1) ∧ EarBox w' R s (eText s i).2 ∧ FrameT w.heap.size R w w' ∧ (eText s i).2 ≤ s.size ∧ (eText s i).1.size < 256 := by
  have HN := hidI (ebyte_any s i R w hi hs hR)
  obtain ⟨hj, hn⟩ := eNum_le hi
  obtain ⟨j, hjj⟩ : ∃ j, j = (eNum s i).2 := ⟨_, rfl⟩
  obtain ⟨n, hnn⟩ : ∃ n, n = (eNum s i).1 := ⟨_, rfl⟩
  have HT : Hid (eText s i = (s.extract j (j + min n (s.size - j)), j + min n (s.size - j))) := by show eText s i = _; unfold eText; rw [hjj, hnn]
  rw [← hjj] at hj HN
  rw [← hnn] at hn HN
  obtain ⟨r1, hr1⟩ : ∃ r1, r1 = (eText s i).1 := ⟨_, rfl⟩
  obtain ⟨r2, hr2⟩ : ∃ r2, r2 = (eText s i).2 := ⟨_, rfl⟩
  rw [← hr1, ← hr2]
  obtain ⟨M, hM⟩ : ∃ M, M = min n (s.size - j) := ⟨_, rfl⟩
  have HR1 : Hid (r1 = s.extract j (j + M)) := by show r1 = _; rw [hr1, HT.out, hM]
  have HR2 : Hid (r2 = j + M) := by show r2 = _; rw [hr2, HT.out, hM]
  have HM := hidI hM
  have HJ := hidI hj
  have hlt := lt_of_heap hR
  clear hjj hnn hr1 hr2 HT hM hR hi
  go_enter Try.func77, Try.ntmps77
  go_wp2_with fail
  refine HN.out.mono ?_
  rintro e w1 ⟨rfl, hb, hF⟩
  obtain ⟨t, ht⟩ : ∃ t, t = s.extract j s.size := ⟨_, rfl⟩
  have hsz : t.size = s.size - j := by rw [ht]; exact ext_size s j
  have HB := hidI hb
  have c0 := cell_of_cells hb 0
  have f0 := free_of_cells hb 0
  simp at c0
  rw [← ht] at c0
  have HF := hidI hF
  obtain ⟨L, hL⟩ : ∃ L, L = t.size := ⟨_, rfl⟩
  have HL := hidI hL
  have HSZ := hidI hsz
  have HTT := hidI ht
  have E1 : Hid (M ≤ L → t.extract 0 M = r1) := fun h => by
    rw [ht, ext_ext s j 0 M (by omega), HR1.out, Nat.add_zero]
  have E2 : Hid (M ≤ L → t.extract M t.size = s.extract r2 s.size) := fun h => by
    rw [hsz, ht, ext_ext s j M (s.size - j) (Nat.le_refl _), HR2.out, show j + (s.size - j) = s.size by omega]
  clear hb hF hsz ht hL hj
  by_cases hc : L < n
  · have hML : M = L := by have := HM.out; have := HL.out; have := HSZ.out; omega
    have i1 : (t.size : Int) < (n : Int) := by have := HL.out; omega
    go_wp2_with fail
    have hjm : j + M = s.size := by have := HSZ.out; have := HL.out; have := HJ.out; omega
    have e1 : t = r1 := by rw [HR1.out, hjm, HTT.out]
    have e2 : ByteArray.empty = s.extract r2 s.size := by
      apply ByteArray.ext
      apply Array.toList_inj.1
      rw [ext_list, HR2.out, hjm, List.drop_eq_nil_of_le (by rw [size_list]; exact Nat.le_refl _)]; simp [ByteArray.empty, ByteArray.emptyWithCapacity]; rfl
    rw [e2, e1]
    go_ret
    exact ⟨rfl, setCell_block HB.out (j := 0) _, HF.out.setCell (p := ⟨R, 0, none⟩) (.inr rfl) _, by have := HR2.out; have := HM.out; have := HJ.out; omega, by rw [HR1.out, ByteArray.size_extract]; have := HM.out; omega⟩
  · have hML : M = n := by have := HM.out; have := HL.out; have := HSZ.out; omega
    have i1 : ¬ (t.size : Int) < (n : Int) := by have := HL.out; omega
    go_wp2_with fail
    have hle : M ≤ L := by omega
    have e1 := E1.out hle
    have e2 := E2.out hle
    rw [hML] at e1 e2
    rw [e1, e2]
    go_ret
    exact ⟨rfl, setCell_block HB.out (j := 0) _, HF.out.setCell (p := ⟨R, 0, none⟩) (.inr rfl) _, by have := HR2.out; have := HM.out; have := HJ.out; omega, by rw [HR1.out, ByteArray.size_extract]; have := HM.out; omega⟩

end Go.Proofs.Ytpoichgodamnkaa

/- Wi -/
namespace Go.Proofs.Ytpoichgodamnkaa
set_option linter.unusedVariables false
set_option maxRecDepth 100000
open Go.RowKit Go.Maps

def noP : PlanD := ⟨[], [], []⟩
def oE : Option PlanD → Int
  | none => 1
  | some _ => 0
def oP : Option PlanD → PlanD
  | none => noP
  | some p => p
def rdE (s : ByteArray) : Int := if 4096 < s.size then 2 else oE (planOf s)
def rdP (s : ByteArray) : PlanD := if 4096 < s.size then noP else oP (planOf s)
theorem noP_at (W : World) : PlanAt W none none none 0 0 0 noP := ⟨rfl, rfl, rfl, ⟨by simp [noP], by simp [noP]⟩, .inl rfl, .inl rfl, .inl rfl⟩
theorem noP_v (W : World) : PlV W (.agg #[.slice none 0 0, .slice none 0 0, .slice none 0 0]) noP := ⟨none, none, none, 0, 0, 0, 0, 0, 0, rfl, noP_at W⟩
theorem store3 {W W' : World} {B : Nat} {v0 v1 v2 u0 u1 u2 : Value} {t : TypeId} (h : W.heap[B]? = some (.cells #[v0, v1, v2] t (0, 0)))
    (hW : ((W.setCell ⟨B, 0, none⟩ u0).setCell ⟨B, 1, none⟩ u1).setCell ⟨B, 2, none⟩ u2 = W') :
    W'.heap[B]? = some (.cells #[u0, u1, u2] t (0, 0)) ∧ TurnB B W W' := by
  subst hW
  exact ⟨setCell_block (setCell_block (setCell_block h (j := 0) u0) (j := 1) u1) (j := 2) u2, ((setCell_turnB _ _ _ _).trans (setCell_turnB _ _ _ _)).trans (setCell_turnB _ _ _ _)⟩

set_option maxRecDepth 100000 in
set_option maxHeartbeats 4000000 in
theorem read_any (s : ByteArray) (w : World) :
    Calls Try.prog 31 #[.string s] w fun e w' => ∃ v, e = .returned (.tuple #[v, .int .i64 (rdE s)]) ∧ PlV w' v (rdP s) ∧ Below w.heap.size w w' := by
  obtain ⟨L, hL⟩ : ∃ L, L = s.size := ⟨_, rfl⟩
  have HL := hidI hL
  have hmf : ∀ (fn : Fn) (first cap : Array Value) (w : World), (Instr.makeFunc fn first cap).run Try.prog w = .ok (.func fn first cap) w := fun _ _ _ _ => rfl
  by_cases hbig : 4096 < s.size
  · have e1 : rdE s = 2 := if_pos hbig
    have e2 : rdP s = noP := if_pos hbig
    rw [e1, e2]
    rw [← hL] at hbig
    obtain ⟨hz6, hg6, hB6⟩ := allocs_heap [.cells #[.string s] 9, .cells #[.slice none 0 0, .slice none 0 0, .slice none 0 0] 26] w
    obtain ⟨W6, hW6⟩ : ∃ W6, W6 = (w.alloc (.cells #[.string s] 9)).alloc (.cells #[.slice none 0 0, .slice none 0 0, .slice none 0 0] 26) := ⟨_, rfl⟩
    have hW6' : List.foldl World.alloc w [.cells #[.string s] 9, .cells #[.slice none 0 0, .slice none 0 0, .slice none 0 0] 26] = W6 := hW6.symm
    rw [hW6'] at hz6 hg6 hB6
    have x0 := hg6 0 _ rfl
    have x1 := hg6 1 _ rfl
    have HW6 := hidI hW6
    have HB6 := hidI hB6
    have X1 := hidI x1
    have hb : (4096 : Int) < (L : Int) := by omega
    have c0 := cell_of_cells x0 0
    simp at c0
    obtain ⟨y0, y1, y2⟩ := pl_cells x1
    have f0 := free_of_cells x1 0
    have f1 := free_of_cells x1 1
    have f2 := free_of_cells x1 2
    clear hz6 hg6 hB6 hW6' hW6 x0 x1 hbig e1 e2 hL
    go_enter Try.func31, Try.ntmps31
    go_wp2_with (rw [← HW6.out, ← HL.out])
    generalize hW4 : World.setCell (World.setCell (World.setCell W6 _ _) _ _) _ _ = W4
    obtain ⟨b4, t4⟩ := store3 X1.out hW4
    obtain ⟨z0, z1, z2⟩ := pl_cells b4
    exact bodyPost_ret (v := .tuple #[.agg #[.slice none 0 0, .slice none 0 0, .slice none 0 0], .int .i64 2]) (by simp [results, Try.results31, go_sem, z0, z1, z2]) rfl ⟨_, rfl, noP_v _, HB6.out.trans (t4.below HB6.out.size (by omega))⟩
  · obtain ⟨res, hres⟩ : ∃ res, res = planOf s := ⟨_, rfl⟩
    have e1 : rdE s = oE res := by rw [hres]; exact if_neg hbig
    have e2 : rdP s = oP res := by rw [hres]; exact if_neg hbig
    obtain ⟨E, hE⟩ : ∃ E, E = rdE s := ⟨_, rfl⟩
    obtain ⟨PD, hPD⟩ : ∃ PD, PD = rdP s := ⟨_, rfl⟩
    rw [← hE, ← hPD]
    rw [← hE] at e1
    rw [← hPD] at e2
    rw [← hL] at hbig
    obtain ⟨hz7, hg7, hB7⟩ := allocs_heap [.cells #[.string s] 9, .cells #[.slice none 0 0, .slice none 0 0, .slice none 0 0] 26, .cells #[.slice none 0 0, .slice none 0 0, .slice none 0 0] 26] w
    obtain ⟨W6, hW6⟩ : ∃ W6, W6 = (w.alloc (.cells #[.string s] 9)).alloc (.cells #[.slice none 0 0, .slice none 0 0, .slice none 0 0] 26) := ⟨_, rfl⟩
    obtain ⟨W7, hW7⟩ : ∃ W7, W7 = W6.alloc (.cells #[.slice none 0 0, .slice none 0 0, .slice none 0 0] 26) := ⟨_, rfl⟩
    have hW7' : List.foldl World.alloc w [.cells #[.string s] 9, .cells #[.slice none 0 0, .slice none 0 0, .slice none 0 0] 26, .cells #[.slice none 0 0, .slice none 0 0, .slice none 0 0] 26] = W7 := by rw [hW7, hW6]; rfl
    rw [hW7'] at hz7 hg7 hB7
    have x0 := hg7 0 _ rfl
    have x1 := hg7 1 _ rfl
    have x2 := hg7 2 _ rfl
    have hz7' : W7.heap.size = w.heap.size + 3 := by rw [hz7]; rfl
    have l8 : Below W7.heap.size W7 (W7.alloc (.cells #[.int .i64 0] 32)) := (Below.refl _ _).alloc (Nat.le_refl _) _
    have x8 := World.alloc_heap_new W7 (.cells #[.int .i64 0] 32)
    have RD := read1_any s w.heap.size (w.heap.size + 2) (W7.alloc (.cells #[.int .i64 0] 32)) (by omega) (plan_keep x0 l8) (plan_keep x2 l8)
    have TR := tried_any 67 (fun _ _ => rfl) #[.pointer (some ⟨w.heap.size, 0, none⟩), .pointer (some ⟨w.heap.size + 2, 0, none⟩)]
      (fun D w1 => D = E ∧ FrameT (W7.heap.size + 1) (w.heap.size + 2) (W7.alloc (.cells #[.int .i64 0] 32)) w1 ∧ (E = 0 → ∃ a1 a2 a3 n1 c1 n2 c2 n3 c3, w1.heap[w.heap.size + 2]? = some (.cells #[.slice a1 n1 c1, .slice a2 n2 c2, .slice a3 n3 c3] 26 (0, 0)) ∧ OwnP w1 (W7.heap.size + 1) a1 a2 a3 n1 c1 n2 c2 n3 c3 PD)) W7
      (RD.mono (by
        rintro e w' ⟨g1, g2⟩
        rw [World.size_alloc] at g1
        rw [← hres] at g2
        have hx := (g1.block W7.heap.size (Nat.lt_succ_self _) (by omega)).trans x8
        cases res with
        | none =>
          simp only [oE, oP] at e1 e2
          have e3 : e = panE 1 := g2
          exact ⟨1, e3, ⟨e1.symm, g1, fun h => by rw [e1] at h; cases h⟩, hx⟩
        | some p =>
          simp only [oE, oP] at e1 e2
          obtain ⟨e3, a1, a2, a3, n1, c1, n2, c2, n3, c3, h1, h2⟩ := g2
          exact ⟨0, e3, ⟨e1.symm, g1, fun _ => ⟨a1, a2, a3, n1, c1, n2, c2, n3, c3, h1, by rw [e2]; rw [World.size_alloc] at h2; exact h2⟩⟩, hx⟩))
    have HTR := hidI TR
    have HW6 := hidI hW6
    have HW7 := hidI hW7
    have HB7 := hidI hB7
    have X1 := hidI x1
    have HZ7 := hidI hz7'
    have HE1 : Hid (E ≠ 0 → PD = noP) := fun h => by
      cases res with
      | none => exact e2
      | some p => exact absurd e1 h
    have hb : ¬ (4096 : Int) < (L : Int) := by omega
    have k67 : Below W6.heap.size W6 W7 := by rw [hW7]; exact (Below.refl _ _).alloc (Nat.le_refl _) _
    have hz6 : W6.heap.size = w.heap.size + 2 := by rw [hW6]; simp
    have HZ6 := hidI hz6
    have c0 : W6.cell? ⟨w.heap.size, 0, none⟩ = some (.string s) := by
      refine Eq.trans ?_ (cell_of_cells x0 0)
      exact (k67.cell (p := ⟨w.heap.size, 0, none⟩) (show w.heap.size < W6.heap.size by omega)).symm
    clear TR RD hz7 hz7' hg7 hB7 hW7 hW6 hW7' x0 x1 x2 x8 l8 hL hE hPD hbig k67 hz6 e1 e2
    go_enter Try.func31, Try.ntmps31
    go_upto_region 4 with (rw [← HW6.out, ← HL.out])
    rw [← HW7.out, HZ6.out]
    go_wp2_with fail
    refine HTR.out.mono ?_
    rintro e w8 ⟨D, w1, rfl, ⟨rfl, hF, hP⟩, hbx, rfl⟩
    have r1 : w1.heap[w.heap.size + 1]? = _ := (hF.block _ (by have := HZ7.out; omega) (by omega)).trans (((Below.refl W7.heap.size W7).alloc (Nat.le_refl _) (.cells #[.int .i64 0] 32)).block _ (by have := HZ7.out; omega) |>.trans X1.out)
    have t8 := setCell_turnB w1 W7.heap.size 0 (.int .i64 D)
    have r8 := (t8.block _ (lt_of_heap r1) (by have := HZ7.out; omega)).trans r1
    have hF8 : Below w.heap.size w w1 := HB7.out.trans ⟨hF.os, hF.tape, hF.output, Nat.le_trans (by simp) hF.size, fun k hk => (hF.block k (by have := HZ7.out; omega) (by omega)).trans (Below.heap_alloc _ _ _ (by have := HZ7.out; omega))⟩
    have hF9 : Below w.heap.size w (w1.setCell ⟨W7.heap.size, 0, none⟩ (.int .i64 D)) := hF8.trans (t8.below hF8.size (by have := HZ7.out; omega))
    by_cases hD : D = 0
    · subst hD
      obtain ⟨a1, a2, a3, n1, c1, n2, c2, n3, c3, hb1, hp1⟩ := hP rfl
      have hb8 := (t8.block _ (lt_of_heap hb1) (by have := HZ7.out; omega)).trans hb1
      have hp8 := hp1.turn t8 (Nat.lt_succ_self _)
      obtain ⟨y0, y1, y2⟩ := pl_cells r8
      have f0 := free_of_cells r8 0
      have f1 := free_of_cells r8 1
      have f2 := free_of_cells r8 2
      obtain ⟨x0, x1, x2⟩ := pl_cells hb8
      generalize hw8 : w1.setCell ⟨W7.heap.size, 0, none⟩ (.int .i64 0) = w8 at r8 t8 hF9 y0 y1 y2 f0 f1 f2 x0 x1 x2 hp8 hb8 ⊢
      have R8 := hidI r8
      have HF9 := hidI hF9
      have HP8 := hidI hp8
      clear hw8 r8 t8 hF9 hF8 r1 hF hP hbx hb1 hp1 hp8 hb8
      go_wp2_with fail
      generalize hW4 : World.setCell (World.setCell (World.setCell w8 _ _) _ _) _ _ = W4
      obtain ⟨b4, t4⟩ := store3 R8.out hW4
      obtain ⟨z0, z1, z2⟩ := pl_cells b4
      exact bodyPost_ret (v := .tuple #[.agg #[.slice a1 n1 c1, .slice a2 n2 c2, .slice a3 n3 c3], .int .i64 0]) (by simp [results, Try.results31, go_sem, z0, z1, z2]) rfl ⟨_, rfl, ⟨a1, a2, a3, n1, c1, n2, c2, n3, c3, rfl, (HP8.out.turn t4 (by have := HZ7.out; omega)).plan⟩, HF9.out.trans (t4.below HF9.out.size (by omega))⟩
    · have hD' : (D != 0) = true := bne_iff_ne.2 hD
      have HDN := hidI hD
      obtain ⟨y0, y1, y2⟩ := pl_cells r8
      have f0 := free_of_cells r8 0
      have f1 := free_of_cells r8 1
      have f2 := free_of_cells r8 2
      generalize hw8 : w1.setCell ⟨W7.heap.size, 0, none⟩ (.int .i64 D) = w8 at r8 t8 hF9 y0 y1 y2 f0 f1 f2 ⊢
      have R8 := hidI r8
      have HF9 := hidI hF9
      clear hD hw8 r8 t8 hF9 hF8 r1 hF hP hbx
      go_wp2_with fail
      generalize hW4 : World.setCell (World.setCell (World.setCell w8 _ _) _ _) _ _ = W4
      obtain ⟨b4, t4⟩ := store3 R8.out hW4
      obtain ⟨z0, z1, z2⟩ := pl_cells b4
      exact bodyPost_ret (v := .tuple #[.agg #[.slice none 0 0, .slice none 0 0, .slice none 0 0], .int .i64 D]) (by simp [results, Try.results31, go_sem, z0, z1, z2]) rfl ⟨_, rfl, by rw [HE1.out HDN.out]; exact noP_v _, HF9.out.trans (t4.below HF9.out.size (by omega))⟩

end Go.Proofs.Ytpoichgodamnkaa

/- Wq -/
namespace Go.Proofs.Ytpoichgodamnkaa
set_option linter.unusedVariables false
set_option maxRecDepth 100000
open Go.RowKit Go.Maps

theorem eText_small {s : ByteArray} {i : Nat} (h : i ≤ s.size) : (eText s i).1.size < 256 ∧ (eText s i).2 ≤ s.size := by
  obtain ⟨h1, h2⟩ := eNum_le h
  unfold eText
  simp only
  rw [ByteArray.size_extract]
  omega
theorem eList_small {α : Type} {one : Nat → α × Nat} {ok : α → Prop} {N : Nat} (ho : ∀ i, i ≤ N → (one i).2 ≤ N ∧ ok (one i).1) {i : Nat} (hi : i ≤ N) : ∀ k, (eList one i k).2 ≤ N ∧ (∀ x ∈ (eList one i k).1, ok x) ∧ (eList one i k).1.length = k
  | 0 => ⟨hi, by simp [eList], rfl⟩
  | k + 1 => by
    obtain ⟨h1, h2, h3⟩ := eList_small ho hi k
    obtain ⟨g1, g2⟩ := ho _ h1
    refine ⟨g1, fun x hx => ?_, by unfold eList; simp [h3]⟩
    unfold eList at hx
    rcases List.mem_append.1 hx with hx | hx
    · exact h2 x hx
    · rw [List.mem_singleton.1 hx]; exact g2
theorem ePost_small {s : ByteArray} {i : Nat} (h : i ≤ s.size) : (ePost s i).2 ≤ s.size ∧ (ePost s i).1.name.size < 256 := ⟨(eNum_le (eText_small h).2).1, (eText_small h).1⟩
theorem eQueue_small {s : ByteArray} {i : Nat} (h : i ≤ s.size) : (eQueue s i).2 ≤ s.size ∧ (eQueue s i).1.name.size < 256 := ⟨(eNum_le (eNum_le (eText_small h).2).1).1, (eText_small h).1⟩
theorem eBind_small {s : ByteArray} {i : Nat} (h : i ≤ s.size) : (eBind s i).2 ≤ s.size ∧ True := ⟨(eText_small (eNum_le (eNum_le (eNum_le h).1).1).1).2, trivial⟩
theorem row_frame2 {W W' : World} {base n R : Nat} {T : TypeId} {size : Nat} {v : Value} {m : Nat} {cs : List Value} (h : W.ownsRow base T size v m cs) (hF : FrameT W.heap.size R W W') (hR : R < base) : W'.ownsRow base T size v m cs := row_frame h hF hR
theorem own_of {W : World} {base : Nat} {T : TypeId} {size : Nat} {v : Value} {n : Nat} {cs : List Value} (h : W.ownsRow base T size v n cs) {q : Nat} (e : v.ownBlock = some q) : ∃ cur, W.heap[q]? = some (.cells cur T (0, 0)) := by
  rcases h.2 with ⟨rfl, _⟩ | ⟨g, cap, cur, rfl, _, hg, _⟩
  · cases e
  · cases e; exact ⟨cur, hg⟩
def fromB (s : ByteArray) : Bool := (planOf s).isSome
def fromP (s : ByteArray) : PlanD := oP (planOf s)

set_option maxRecDepth 100000 in
set_option maxHeartbeats 16000000 in
theorem planFrom_any (s : ByteArray) (w : World) (hs : s.size ≤ 4096) :
    Calls Try.prog 34 #[.string s] w fun e w' => ∃ v, e = .returned (.tuple #[v, .bool (fromB s)]) ∧ PlV w' v (fromP s) ∧ Below w.heap.size w w' := by
  obtain ⟨FB, hFB⟩ : ∃ FB, FB = fromB s := ⟨_, rfl⟩
  obtain ⟨FP, hFP⟩ : ∃ FP, FP = fromP s := ⟨_, rfl⟩
  rw [← hFB, ← hFP]
  obtain ⟨hz7, hg7, hB7⟩ := allocs_heap [.cells #[.slice none 0 0, .slice none 0 0, .slice none 0 0] 26, .cells #[.string s] 109, .cells #[.slice none 0 0, .slice none 0 0, .slice none 0 0] 26] w
  obtain ⟨W7, hW7⟩ : ∃ W7, W7 = ((w.alloc (.cells #[.slice none 0 0, .slice none 0 0, .slice none 0 0] 26)).alloc (.cells #[.string s] 109)).alloc (.cells #[.slice none 0 0, .slice none 0 0, .slice none 0 0] 26) := ⟨_, rfl⟩
  have hW7' : List.foldl World.alloc w [.cells #[.slice none 0 0, .slice none 0 0, .slice none 0 0] 26, .cells #[.string s] 109, .cells #[.slice none 0 0, .slice none 0 0, .slice none 0 0] 26] = W7 := by rw [hW7]; rfl
  rw [hW7'] at hz7 hg7 hB7
  have x0 := hg7 0 _ rfl
  have x1 := hg7 1 _ rfl
  have x2 := hg7 2 _ rfl
  have hz7' : W7.heap.size = w.heap.size + 3 := by rw [hz7]; rfl
  have HW7 := hidI hW7
  have HB7 := hidI hB7
  have HZ7 := hidI hz7'
  have X0 := hidI x0
  have X2 := hidI x2
  have hext : s.extract 0 s.size = s := by
    apply ByteArray.ext
    apply Array.toList_inj.1
    rw [ext_list, List.drop_zero, Nat.sub_zero]
    exact List.take_of_length_le (by rw [size_list]; exact Nat.le_refl _)
  have XE : Hid (EarBox W7 (w.heap.size + 1) s 0) := by show W7.heap[w.heap.size + 1]? = _; rw [hext]; exact x1
  have HFB := hidI hFB
  have HFP := hidI hFP
  obtain ⟨Be, hBe⟩ : ∃ Be, Be = w.heap.size + 1 := ⟨_, rfl⟩
  obtain ⟨Bp, hBp⟩ : ∃ Bp, Bp = w.heap.size + 2 := ⟨_, rfl⟩
  obtain ⟨N, hN⟩ : ∃ N, N = w.heap.size + 3 := ⟨_, rfl⟩
  have HBe := hidI hBe
  have HBp := hidI hBp
  have HN := hidI hN
  have l1 : Be < N := by omega
  have l2 : Bp < N := by omega
  have l3 : w.heap.size < Be := by omega
  have l4 : Be < Bp := by omega
  rw [← hBe] at XE
  rw [← hBp] at X2
  rw [← hN] at HZ7
  have hs6 : s.size ≤ 1000000 := by omega
  clear hz7 hz7' hg7 hB7 hW7 hW7' x0 x1 x2 hext hFB hFP hBe hBp hN
  go_enter Try.func34, Try.ntmps34
  go_wp2_with fail
  rw [← HW7.out, ← HBe.out, show Be + 1 = Bp by have h1 := HBe.out; have h2 := HBp.out; omega]
  refine (ebyte_any s 0 Be W7 (Nat.zero_le _) hs6 XE.out).mono ?_
  rintro e w1 ⟨rfl, hb1, hF1⟩
  obtain ⟨hj1, hn1⟩ := eNum_le (Nat.zero_le s.size)
  obtain ⟨nn, hnn⟩ : ∃ nn, nn = (eNum s 0).1 := ⟨_, rfl⟩
  obtain ⟨j0, hj0⟩ : ∃ j0, j0 = (eNum s 0).2 := ⟨_, rfl⟩
  rw [← hnn] at hn1 ⊢
  rw [← hj0] at hb1 hj1
  have HM1 : Hid (eMany s (ePost s) 0 = eList (ePost s) j0 nn) := by show eMany s (ePost s) 0 = _; unfold eMany; rw [hnn, hj0]
  have HB1 := hidI hb1
  have HF1 : Hid (FrameT N Be W7 w1) := by show FrameT N Be W7 w1; rw [← HZ7.out]; exact hF1
  have HJ1 := hidI hj1
  have HN1 := hidI hn1
  have HS1 : Hid (N ≤ w1.heap.size) := by show N ≤ w1.heap.size; rw [← HZ7.out]; exact hF1.size
  clear hnn hj0 hb1 hF1 hj1
  go_wp2_with fail
  go_loopw [6] (fun i wr => ∃ (k : Nat) (a : Option Addr) (c : Nat), k ≤ nn ∧ i = .int .i64 ((nn - k : Nat) : Int) ∧ wr.heap[w.heap.size]? = some (.cells #[.slice none 0 0, .slice none 0 0, .slice none 0 0] 26 (0, 0)) ∧ EarBox wr Be s (eList (ePost s) j0 k).2 ∧ wr.heap[Bp]? = some (.cells #[.slice a k c, .slice none 0 0, .slice none 0 0] 26 (0, 0)) ∧ wr.ownsRow N 70 2 (.slice a k c) k ((eList (ePost s) j0 k).1.flatMap PostD.cells) ∧ Below w.heap.size w wr ∧ N ≤ wr.heap.size) (fun i _ => (intOf i).toNat)
  case atStart => exact ⟨0, none, 0, Nat.zero_le _, rfl, (HF1.out.block _ (by omega) (by omega)).trans X0.out, HB1.out, (HF1.out.block _ (by omega) (by omega)).trans X2.out, World.ownsRow_nil _ _ _ _, HB7.out.trans (HF1.out.below (by have := HN.out; omega) (by omega)), HS1.out⟩
  case round =>
    obtain ⟨k, a, c, hk, rfl, hres, hear, hbox, hown, hbel, hN⟩ := hrel
    obtain ⟨hi, hsmall, hlen⟩ := eList_small (one := ePost s) (ok := fun x => x.name.size < 256) (fun i h => ePost_small h) HJ1.out k
    obtain ⟨xs, hxs⟩ : ∃ xs, xs = (eList (ePost s) j0 k).1 := ⟨_, rfl⟩
    obtain ⟨i0, hi0⟩ : ∃ i0, i0 = (eList (ePost s) j0 k).2 := ⟨_, rfl⟩
    have HNX : Hid (eList (ePost s) j0 (k + 1) = (xs ++ [(ePost s i0).1], (ePost s i0).2)) := by show eList (ePost s) j0 (k + 1) = _; rw [hxs, hi0]; rfl
    have HXS : Hid (xs = (eList (ePost s) j0 k).1) := hxs
    have HI0 : Hid (i0 = (eList (ePost s) j0 k).2) := hi0
    rw [← hi0] at hear hi
    rw [← hxs] at hown hlen hsmall
    have HRES := hidI hres
    have HBOX := hidI hbox
    have HOWN := hidI hown
    have HBEL := hidI hbel
    have HEAR := hidI hear
    have HLEN := hidI hlen
    have HSM := hidI hsmall
    clear hres hbox hown hbel hear hxs hi0 hlen hsmall
    by_cases hlt : k < nn
    · have HLT := hidI hlt
      have z0 : (0 : Int) < ((nn - k : Nat) : Int) := by omega
      go_wp2_with fail
      refine (etext_any s i0 Be wr hi hs6 HEAR.out).mono ?_
      rintro e y0 ⟨rfl, hb, hF, hq, hsz⟩
      obtain ⟨t, ht⟩ : ∃ t, t = (eText s i0).1 := ⟨_, rfl⟩
      obtain ⟨p0, hpp0⟩ : ∃ p0, p0 = (eText s i0).2 := ⟨_, rfl⟩
      rw [← ht] at hsz ⊢
      rw [← hpp0] at hb hq
      have HV0 := hidI ht
      have HQ0 := hidI hpp0
      have hp0 := hq
      clear ht hpp0 hq
      clear hsz
      have F0 := hF
      obtain ⟨bx, hbx⟩ : ∃ bx, bx = y0.heap.size := ⟨_, rfl⟩
      obtain ⟨X0, hX0⟩ : ∃ X0, X0 = y0.alloc (.cells #[(.string t), .int .i64 0] 70) := ⟨_, rfl⟩
      have b0 : X0.heap[bx]? = some (.cells #[(.string t), .int .i64 0] 70 (0, 0)) := by rw [hX0, hbx]; exact World.alloc_heap_new y0 _
      have kx : Below y0.heap.size y0 X0 := by rw [hX0]; exact (Below.refl _ _).alloc (Nat.le_refl _) _
      have FX0 : Hid (FrameT wr.heap.size Be wr X0) := F0.trans (FrameT.of_below kx F0.size)
      have EA0 : Hid (EarBox X0 Be s p0) := plan_keep hb kx
      have lbx : wr.heap.size ≤ bx := by have := F0.size; omega
      have HX0 : Hid (X0 = _) := hX0
      have HBXX := hidI hbx
      have HB0 := hidI b0
      clear hF hb kx F0 hX0 hbx b0
      go_wp2_with fail
      (try rw [← HX0.out])
      rw [← HBXX.out]
      refine (ebyte_any s p0 Be X0 hp0 hs6 EA0.out).mono ?_
      rintro e y1 ⟨rfl, hb, hF⟩
      obtain ⟨hq, hsz⟩ := eNum_le hp0
      obtain ⟨kd, hkd⟩ : ∃ kd, kd = (eNum s p0).1 := ⟨_, rfl⟩
      obtain ⟨p1, hpp1⟩ : ∃ p1, p1 = (eNum s p0).2 := ⟨_, rfl⟩
      rw [← hkd] at hsz ⊢
      rw [← hpp1] at hb hq
      have HV1 := hidI hkd
      have HQ1 := hidI hpp1
      have hp1 := hq
      clear hkd hpp1 hq
      have hv1 := hsz
      clear hsz
      have hbx1 : y1.heap[bx]? = some (.cells #[(.string t), .int .i64 0] 70 (0, 0)) := (hF.block bx (lt_of_heap HB0.out) (by omega)).trans HB0.out
      (try clear cc ff)
      have cc := cell_of_cells hbx1 1
      have ff := free_of_cells hbx1 1
      simp at cc
      obtain ⟨X1, hX1⟩ : ∃ X1, X1 = y1.setCell ⟨bx, 1, none⟩ (.int .i64 (kd : Int)) := ⟨_, rfl⟩
      have b1 : X1.heap[bx]? = some (.cells #[(.string t), (.int .i64 (kd : Int))] 70 (0, 0)) := by rw [hX1]; exact setCell_block hbx1 (j := 1) _
      have FX1 : Hid (FrameT wr.heap.size Be wr X1) := by show FrameT wr.heap.size Be wr X1; rw [hX1]; exact ((FX0.out.trans ⟨hF.os, hF.tape, hF.output, hF.size, fun q h1 h2 => hF.block q (by have := FX0.out.size; omega) h2⟩)).setCell (p := ⟨bx, 1, none⟩) (.inl lbx) _
      have EA1 : Hid (EarBox X1 Be s p1) := by show EarBox X1 Be s p1; rw [hX1]; exact ((setCell_turnB y1 bx 1 _).block Be (lt_of_heap hb) (by omega)).trans hb
      have HX1 := hidI hX1
      have HB1 := hidI b1
      clear hF hb hX1 b1 hbx1
      go_upto_region 8 with fail
      rw [← HX1.out]
      clear cc ff
      obtain ⟨c0, c1, c2⟩ := pl_cells ((FX1.out.block Bp (by omega) (by omega)).trans HBOX.out)
      have g0 := cell_of_cells HB1.out 0
      have g1 := cell_of_cells HB1.out 1
      simp at g0 g1
      obtain ⟨X9, hX9⟩ : ∃ X9, X9 = X1.alloc (.cells #[(.string t), (.int .i64 (kd : Int))] 70) := ⟨_, rfl⟩
      have k9 : Below X1.heap.size X1 X9 := by rw [hX9]; exact (Below.refl _ _).alloc (Nat.le_refl _) _
      have HRW : Hid (RowAt X9 (some ⟨X1.heap.size, 0, none⟩) (PostD.cells ⟨t, kd⟩)) := by show RowAt X9 _ _; rw [hX9]; exact row_new (cs := PostD.cells ⟨t, kd⟩)
      have HO9 := hidI (copied_two (row_frame HOWN.out FX1.out l1) k9)
      have K9 := hidI k9
      have HX9 := hidI hX9
      have s9 : N ≤ X9.heap.size := by have h1 := FX1.out.size; have h2 := k9.size; omega
      have B9 : Hid (Below w.heap.size w X9) := HBEL.out.trans ((FX1.out.below (by omega) (by omega)).trans (k9.mono (by have := FX1.out.size; omega)))
      have F9 : Hid (FrameT wr.heap.size Be wr X9) := FX1.out.trans (FrameT.of_below k9 FX1.out.size)
      have E9 : Hid (EarBox X9 Be s p1) := plan_keep EA1.out k9
      clear hX9 k9
      go_wp2_with (at_builtin; (try rw [← HX1.out]); (try rw [← HX9.out]); refine append_row elemPost (by kernel_rfl) _ _ rfl N _ k (xs.flatMap PostD.cells) rfl HO9.out (some ⟨X1.heap.size, 0, none⟩) 1 1 (PostD.cells ⟨t, kd⟩) rfl rfl (fun h => by cases h) HRW.out (cells1_Post _) (by unfold maxLen; omega) (by omega) s9 ?_; intro v6 w6 hown6 hgrow6 hblk6; have hb6 := (hgrow6.block Bp (by omega) (fun e => by have := HO9.out.lt Bp e.symm; omega)).trans ((F9.out.block Bp (by omega) (by omega)).trans HBOX.out); obtain ⟨a6, c6, hv6, -⟩ := own_row hown6; subst hv6; clear c0 c1 c2; obtain ⟨c0, c1, c2⟩ := pl_cells hb6; have ff0 := free_of_cells hb6 0; have HB6 := hidI hb6; have HO6 := hidI hown6; have HG6 := hidI hgrow6; clear hb6 hown6 hgrow6 hblk6)
      go_roundw
      case rel =>
        have hT := setCell_turnB w6 Bp 0 (.slice a6 (k + 1) c6)
        have ev : ePost s i0 = (⟨t, kd⟩, p1) := by simp only [ePost, HV0.out, HQ0.out, HV1.out, HQ1.out]
        have gB := B9.out.grown HG6.out (by have := HBEL.out.size; omega) (fun q hq => by have := (HO9.out.lt q hq).1; have := HN.out; omega)
        refine ⟨k + 1, a6, c6, HLT.out, by have := HLT.out; go_num, ?_, ?_, setCell_block HB6.out (j := 0) _, ?_, gB.trans (hT.below gB.size (by omega)), by have h1 := HG6.out.size; have h2 := hT.size; omega⟩
        · exact (hT.block _ (by have h1 := HG6.out.size; omega) (by omega)).trans ((HG6.out.block _ (by omega) (fun e => by have := HO9.out.lt _ e.symm; have := HN.out; omega)).trans ((F9.out.block _ (by omega) (by omega)).trans HRES.out))
        · rw [HNX.out, ev]; exact (hT.block _ (by have h1 := HG6.out.size; omega) (by omega)).trans ((HG6.out.block _ (by omega) (fun e => by have := HO9.out.lt _ e.symm; omega)).trans E9.out)
        · rw [HNX.out, ev, List.flatMap_append, List.flatMap_singleton]; exact row_turn HO6.out hT l2
      case measure => have := HLT.out; simp [intOf]; omega
    · have hke : k = nn := by omega
      obtain rfl := hke.symm
      clear hlt hk
      have zf : ¬ (0 : Int) < ((nn - nn : Nat) : Int) := by omega
      obtain ⟨a1, rfl⟩ : ∃ a1, a1 = a := ⟨_, rfl⟩
      obtain ⟨d1, rfl⟩ : ∃ d1, d1 = c := ⟨_, rfl⟩
      go_wp2_with fail
      refine (ebyte_any s i0 Be wr hi hs6 HEAR.out).mono ?_
      rintro e wq ⟨rfl, hb, hF⟩
      obtain ⟨hjq, hnq⟩ := eNum_le hi
      obtain ⟨nm, hnn⟩ : ∃ nm, nm = (eNum s i0).1 := ⟨_, rfl⟩
      obtain ⟨j1, hjj⟩ : ∃ j1, j1 = (eNum s i0).2 := ⟨_, rfl⟩
      rw [← hnn] at hnq ⊢
      rw [← hjj] at hb hjq
      have HM2 : Hid (eMany s (eQueue s) (eMany s (ePost s) 0).2 = eList (eQueue s) j1 nm) := by show eMany s (eQueue s) _ = _; rw [HM1.out, ← HI0.out]; unfold eMany; rw [hnn, hjj]
      have QR := hidI ((hF.block w.heap.size (by omega) (by omega)).trans HRES.out)
      have QE : Hid (EarBox wq Be s j1) := hb
      have QP := hidI ((hF.block Bp (by omega) (by omega)).trans HBOX.out)
      have QB : Hid (Below w.heap.size w wq) := HBEL.out.trans (hF.below (by omega) (by omega))
      have QN : Hid (N ≤ wq.heap.size) := by have := hF.size; show N ≤ wq.heap.size; omega
      have QW1 := hidI (row_frame HOWN.out hF l1)
      rw [HXS.out] at QW1
      have HJ2 := hidI hjq
      have HN2 := hidI hnq
      clear hnn hjj hb hF hjq zf
      go_wp2_with fail
      go_loopw [8] (fun i wr => ∃ (k : Nat) (a : Option Addr) (c : Nat), k ≤ nm ∧ i = .int .i64 ((nm - k : Nat) : Int) ∧ wr.heap[w.heap.size]? = some (.cells #[.slice none 0 0, .slice none 0 0, .slice none 0 0] 26 (0, 0)) ∧ EarBox wr Be s (eList (eQueue s) j1 k).2 ∧ wr.heap[Bp]? = some (.cells #[.slice a1 nn d1, .slice a k c, .slice none 0 0] 26 (0, 0)) ∧ wr.ownsRow N 72 3 (.slice a k c) k ((eList (eQueue s) j1 k).1.flatMap QueueD.cells) ∧ Below w.heap.size w wr ∧ N ≤ wr.heap.size ∧ wr.ownsRow N 70 2 (.slice a1 nn d1) nn ((eList (ePost s) j0 nn).1.flatMap PostD.cells)) (fun i _ => (intOf i).toNat)
      case atStart => exact ⟨0, none, 0, Nat.zero_le _, rfl, QR.out, QE.out, QP.out, World.ownsRow_nil _ _ _ _, QB.out, QN.out, QW1.out⟩
      case round =>
        obtain ⟨k, a, c, hk, rfl, hres, hear, hbox, hown, hbel, hN, hw1⟩ := hrel
        obtain ⟨hi, hsmall, hlen⟩ := eList_small (one := eQueue s) (ok := fun x => x.name.size < 256) (fun i h => eQueue_small h) HJ2.out k
        obtain ⟨xs, hxs⟩ : ∃ xs, xs = (eList (eQueue s) j1 k).1 := ⟨_, rfl⟩
        obtain ⟨i0, hi0⟩ : ∃ i0, i0 = (eList (eQueue s) j1 k).2 := ⟨_, rfl⟩
        have HNX : Hid (eList (eQueue s) j1 (k + 1) = (xs ++ [(eQueue s i0).1], (eQueue s i0).2)) := by show eList (eQueue s) j1 (k + 1) = _; rw [hxs, hi0]; rfl
        have HXS : Hid (xs = (eList (eQueue s) j1 k).1) := hxs
        have HI0 : Hid (i0 = (eList (eQueue s) j1 k).2) := hi0
        rw [← hi0] at hear hi
        rw [← hxs] at hown hlen hsmall
        have HRES := hidI hres
        have HBOX := hidI hbox
        have HOWN := hidI hown
        have HBEL := hidI hbel
        have HEAR := hidI hear
        have HLEN := hidI hlen
        have HSM := hidI hsmall
        have HWW1 := hidI hw1
        clear hres hbox hown hbel hear hxs hi0 hlen hsmall hw1
        by_cases hlt : k < nm
        · have HLT := hidI hlt
          have z0 : (0 : Int) < ((nm - k : Nat) : Int) := by omega
          go_wp2_with fail
          refine (etext_any s i0 Be wr hi hs6 HEAR.out).mono ?_
          rintro e y0 ⟨rfl, hb, hF, hq, hsz⟩
          obtain ⟨t, ht⟩ : ∃ t, t = (eText s i0).1 := ⟨_, rfl⟩
          obtain ⟨p0, hpp0⟩ : ∃ p0, p0 = (eText s i0).2 := ⟨_, rfl⟩
          rw [← ht] at hsz ⊢
          rw [← hpp0] at hb hq
          have HV0 := hidI ht
          have HQ0 := hidI hpp0
          have hp0 := hq
          clear ht hpp0 hq
          clear hsz
          have F0 := hF
          obtain ⟨bx, hbx⟩ : ∃ bx, bx = y0.heap.size := ⟨_, rfl⟩
          obtain ⟨X0, hX0⟩ : ∃ X0, X0 = y0.alloc (.cells #[(.string t), .int .i64 0, .int .i64 0] 72) := ⟨_, rfl⟩
          have b0 : X0.heap[bx]? = some (.cells #[(.string t), .int .i64 0, .int .i64 0] 72 (0, 0)) := by rw [hX0, hbx]; exact World.alloc_heap_new y0 _
          have kx : Below y0.heap.size y0 X0 := by rw [hX0]; exact (Below.refl _ _).alloc (Nat.le_refl _) _
          have FX0 : Hid (FrameT wr.heap.size Be wr X0) := F0.trans (FrameT.of_below kx F0.size)
          have EA0 : Hid (EarBox X0 Be s p0) := plan_keep hb kx
          have lbx : wr.heap.size ≤ bx := by have := F0.size; omega
          have HX0 : Hid (X0 = _) := hX0
          have HBXX := hidI hbx
          have HB0 := hidI b0
          clear hF hb kx F0 hX0 hbx b0
          go_wp2_with fail
          (try rw [← HX0.out])
          rw [← HBXX.out]
          refine (ebyte_any s p0 Be X0 hp0 hs6 EA0.out).mono ?_
          rintro e y1 ⟨rfl, hb, hF⟩
          obtain ⟨hq, hsz⟩ := eNum_le hp0
          obtain ⟨li, hli⟩ : ∃ li, li = (eNum s p0).1 := ⟨_, rfl⟩
          obtain ⟨p1, hpp1⟩ : ∃ p1, p1 = (eNum s p0).2 := ⟨_, rfl⟩
          rw [← hli] at hsz ⊢
          rw [← hpp1] at hb hq
          have HV1 := hidI hli
          have HQ1 := hidI hpp1
          have hp1 := hq
          clear hli hpp1 hq
          have hv1 := hsz
          clear hsz
          have hbx1 : y1.heap[bx]? = some (.cells #[(.string t), .int .i64 0, .int .i64 0] 72 (0, 0)) := (hF.block bx (lt_of_heap HB0.out) (by omega)).trans HB0.out
          (try clear cc ff)
          have cc := cell_of_cells hbx1 1
          have ff := free_of_cells hbx1 1
          simp at cc
          obtain ⟨X1, hX1⟩ : ∃ X1, X1 = y1.setCell ⟨bx, 1, none⟩ (.int .i64 (li : Int)) := ⟨_, rfl⟩
          have b1 : X1.heap[bx]? = some (.cells #[(.string t), (.int .i64 (li : Int)), .int .i64 0] 72 (0, 0)) := by rw [hX1]; exact setCell_block hbx1 (j := 1) _
          have FX1 : Hid (FrameT wr.heap.size Be wr X1) := by show FrameT wr.heap.size Be wr X1; rw [hX1]; exact ((FX0.out.trans ⟨hF.os, hF.tape, hF.output, hF.size, fun q h1 h2 => hF.block q (by have := FX0.out.size; omega) h2⟩)).setCell (p := ⟨bx, 1, none⟩) (.inl lbx) _
          have EA1 : Hid (EarBox X1 Be s p1) := by show EarBox X1 Be s p1; rw [hX1]; exact ((setCell_turnB y1 bx 1 _).block Be (lt_of_heap hb) (by omega)).trans hb
          have HX1 := hidI hX1
          have HB1 := hidI b1
          clear hF hb hX1 b1 hbx1
          go_wp2_with fail
          (try rw [← HX1.out])
          refine (ebyte_any s p1 Be X1 hp1 hs6 EA1.out).mono ?_
          rintro e y2 ⟨rfl, hb, hF⟩
          obtain ⟨hq, hsz⟩ := eNum_le hp1
          obtain ⟨de, hde⟩ : ∃ de, de = (eNum s p1).1 := ⟨_, rfl⟩
          obtain ⟨p2, hpp2⟩ : ∃ p2, p2 = (eNum s p1).2 := ⟨_, rfl⟩
          rw [← hde] at hsz ⊢
          rw [← hpp2] at hb hq
          have HV2 := hidI hde
          have HQ2 := hidI hpp2
          have hp2 := hq
          clear hde hpp2 hq
          have hv2 := hsz
          clear hsz
          have hbx2 : y2.heap[bx]? = some (.cells #[(.string t), (.int .i64 (li : Int)), .int .i64 0] 72 (0, 0)) := (hF.block bx (lt_of_heap HB1.out) (by omega)).trans HB1.out
          (try clear cc ff)
          have cc := cell_of_cells hbx2 2
          have ff := free_of_cells hbx2 2
          simp at cc
          obtain ⟨X2, hX2⟩ : ∃ X2, X2 = y2.setCell ⟨bx, 2, none⟩ (.int .i64 ((de : Int) - 1)) := ⟨_, rfl⟩
          have b2 : X2.heap[bx]? = some (.cells #[(.string t), (.int .i64 (li : Int)), (.int .i64 ((de : Int) - 1))] 72 (0, 0)) := by rw [hX2]; exact setCell_block hbx2 (j := 2) _
          have FX2 : Hid (FrameT wr.heap.size Be wr X2) := by show FrameT wr.heap.size Be wr X2; rw [hX2]; exact ((FX1.out.trans ⟨hF.os, hF.tape, hF.output, hF.size, fun q h1 h2 => hF.block q (by have := FX1.out.size; omega) h2⟩)).setCell (p := ⟨bx, 2, none⟩) (.inl lbx) _
          have EA2 : Hid (EarBox X2 Be s p2) := by show EarBox X2 Be s p2; rw [hX2]; exact ((setCell_turnB y2 bx 2 _).block Be (lt_of_heap hb) (by omega)).trans hb
          have HX2 := hidI hX2
          have HB2 := hidI b2
          have jw : IntKind.i64.wrap ((de : Int) - 1) = (de : Int) - 1 := by rw [IntKind.wrap_i64]; omega
          clear hF hb hX2 b2 hbx2
          go_upto_region 15 with fail
          rw [← HX2.out]
          clear cc ff
          obtain ⟨c0, c1, c2⟩ := pl_cells ((FX2.out.block Bp (by omega) (by omega)).trans HBOX.out)
          have g0 := cell_of_cells HB2.out 0
          have g1 := cell_of_cells HB2.out 1
          have g2 := cell_of_cells HB2.out 2
          simp at g0 g1 g2
          obtain ⟨X9, hX9⟩ : ∃ X9, X9 = X2.alloc (.cells #[(.string t), (.int .i64 (li : Int)), (.int .i64 ((de : Int) - 1))] 72) := ⟨_, rfl⟩
          have k9 : Below X2.heap.size X2 X9 := by rw [hX9]; exact (Below.refl _ _).alloc (Nat.le_refl _) _
          have HRW : Hid (RowAt X9 (some ⟨X2.heap.size, 0, none⟩) (QueueD.cells ⟨t, li, (de : Int) - 1⟩)) := by show RowAt X9 _ _; rw [hX9]; exact row_new (cs := QueueD.cells ⟨t, li, (de : Int) - 1⟩)
          have HO9 := hidI (copied_two (row_frame HOWN.out FX2.out l1) k9)
          have K9 := hidI k9
          have HX9 := hidI hX9
          have s9 : N ≤ X9.heap.size := by have h1 := FX2.out.size; have h2 := k9.size; omega
          have B9 : Hid (Below w.heap.size w X9) := HBEL.out.trans ((FX2.out.below (by omega) (by omega)).trans (k9.mono (by have := FX2.out.size; omega)))
          have F9 : Hid (FrameT wr.heap.size Be wr X9) := FX2.out.trans (FrameT.of_below k9 FX2.out.size)
          have E9 : Hid (EarBox X9 Be s p2) := plan_keep EA2.out k9
          clear hX9 k9
          go_wp2_with (at_builtin; (try rw [← HX2.out]); (try rw [← HX9.out]); refine append_row elemQueue (by kernel_rfl) _ _ rfl N _ k (xs.flatMap QueueD.cells) rfl HO9.out (some ⟨X2.heap.size, 0, none⟩) 1 1 (QueueD.cells ⟨t, li, (de : Int) - 1⟩) rfl rfl (fun h => by cases h) HRW.out (cells1_Queue _) (by unfold maxLen; omega) (by omega) s9 ?_; intro v6 w6 hown6 hgrow6 hblk6; have hb6 := (hgrow6.block Bp (by omega) (fun e => by have := HO9.out.lt Bp e.symm; omega)).trans ((F9.out.block Bp (by omega) (by omega)).trans HBOX.out); obtain ⟨a6, c6, hv6, -⟩ := own_row hown6; subst hv6; clear c0 c1 c2; obtain ⟨c0, c1, c2⟩ := pl_cells hb6; have ff0 := free_of_cells hb6 1; have HB6 := hidI hb6; have HO6 := hidI hown6; have HG6 := hidI hgrow6; clear hb6 hown6 hgrow6 hblk6)
          go_roundw
          case rel =>
            have hT := setCell_turnB w6 Bp 1 (.slice a6 (k + 1) c6)
            have ev : eQueue s i0 = (⟨t, li, (de : Int) - 1⟩, p2) := by simp only [eQueue, HV0.out, HQ0.out, HV1.out, HQ1.out, HV2.out, HQ2.out]
            have gB := B9.out.grown HG6.out (by have := HBEL.out.size; omega) (fun q hq => by have := (HO9.out.lt q hq).1; have := HN.out; omega)
            refine ⟨k + 1, a6, c6, HLT.out, by have := HLT.out; go_num, ?_, ?_, setCell_block HB6.out (j := 1) _, ?_, gB.trans (hT.below gB.size (by omega)), by have h1 := HG6.out.size; have h2 := hT.size; omega, ?_⟩
            · exact (hT.block _ (by have h1 := HG6.out.size; omega) (by omega)).trans ((HG6.out.block _ (by omega) (fun e => by have := HO9.out.lt _ e.symm; have := HN.out; omega)).trans ((F9.out.block _ (by omega) (by omega)).trans HRES.out))
            · rw [HNX.out, ev]; exact (hT.block _ (by have h1 := HG6.out.size; omega) (by omega)).trans ((HG6.out.block _ (by omega) (fun e => by have := HO9.out.lt _ e.symm; omega)).trans E9.out)
            · rw [HNX.out, ev, List.flatMap_append, List.flatMap_singleton]; exact row_turn HO6.out hT l2
            · refine row_turn (row_keep (copied_two (row_frame HWW1.out FX2.out l1) K9.out) (fun q hq => ?_)) hT l2
              have q1 := (copied_two (row_frame HWW1.out FX2.out l1) K9.out)
              exact HG6.out.block q (q1.lt q hq).2 (fun e => row_other q1 (own_of HO9.out e.symm).choose_spec (by decide) hq)
          case measure => have := HLT.out; simp [intOf]; omega
        · have hke : k = nm := by omega
          obtain rfl := hke.symm
          clear hlt hk
          have zf : ¬ (0 : Int) < ((nm - nm : Nat) : Int) := by omega
          obtain ⟨a2, rfl⟩ : ∃ a2, a2 = a := ⟨_, rfl⟩
          obtain ⟨d2, rfl⟩ : ∃ d2, d2 = c := ⟨_, rfl⟩
          go_wp2_with fail
          refine (ebyte_any s i0 Be wr hi hs6 HEAR.out).mono ?_
          rintro e wq ⟨rfl, hb, hF⟩
          obtain ⟨hjq, hnq⟩ := eNum_le hi
          obtain ⟨nb, hnn⟩ : ∃ nb, nb = (eNum s i0).1 := ⟨_, rfl⟩
          obtain ⟨j2, hjj⟩ : ∃ j2, j2 = (eNum s i0).2 := ⟨_, rfl⟩
          rw [← hnn] at hnq ⊢
          rw [← hjj] at hb hjq
          have HM3 : Hid (eMany s (eBind s) (eMany s (eQueue s) (eMany s (ePost s) 0).2).2 = eList (eBind s) j2 nb) := by show eMany s (eBind s) _ = _; rw [HM2.out, ← HI0.out]; unfold eMany; rw [hnn, hjj]
          have QR := hidI ((hF.block w.heap.size (by omega) (by omega)).trans HRES.out)
          have QE : Hid (EarBox wq Be s j2) := hb
          have QP := hidI ((hF.block Bp (by omega) (by omega)).trans HBOX.out)
          have QB : Hid (Below w.heap.size w wq) := HBEL.out.trans (hF.below (by omega) (by omega))
          have QN : Hid (N ≤ wq.heap.size) := by have := hF.size; show N ≤ wq.heap.size; omega
          have QW2 := hidI (row_frame HOWN.out hF l1)
          have QW1 := hidI (row_frame HWW1.out hF l1)
          rw [HXS.out] at QW2
          have HJ3 := hidI hjq
          have HN3 := hidI hnq
          clear hnn hjj hb hF hjq zf
          go_wp2_with fail
          go_loopw [10] (fun i wr => ∃ (k : Nat) (a : Option Addr) (c : Nat), k ≤ nb ∧ i = .int .i64 ((nb - k : Nat) : Int) ∧ wr.heap[w.heap.size]? = some (.cells #[.slice none 0 0, .slice none 0 0, .slice none 0 0] 26 (0, 0)) ∧ EarBox wr Be s (eList (eBind s) j2 k).2 ∧ wr.heap[Bp]? = some (.cells #[.slice a1 nn d1, .slice a2 nm d2, .slice a k c] 26 (0, 0)) ∧ wr.ownsRow N 77 4 (.slice a k c) k ((eList (eBind s) j2 k).1.flatMap BindD.cells) ∧ Below w.heap.size w wr ∧ N ≤ wr.heap.size ∧ wr.ownsRow N 70 2 (.slice a1 nn d1) nn ((eList (ePost s) j0 nn).1.flatMap PostD.cells) ∧ wr.ownsRow N 72 3 (.slice a2 nm d2) nm ((eList (eQueue s) j1 nm).1.flatMap QueueD.cells)) (fun i _ => (intOf i).toNat)
          case atStart => exact ⟨0, none, 0, Nat.zero_le _, rfl, QR.out, QE.out, QP.out, World.ownsRow_nil _ _ _ _, QB.out, QN.out, QW1.out, QW2.out⟩
          case round =>
            obtain ⟨k, a, c, hk, rfl, hres, hear, hbox, hown, hbel, hN, hw1,hw2⟩ := hrel
            obtain ⟨hi, hsmall, hlen⟩ := eList_small (one := eBind s) (ok := fun _ => True) (fun i h => eBind_small h) HJ3.out k
            obtain ⟨xs, hxs⟩ : ∃ xs, xs = (eList (eBind s) j2 k).1 := ⟨_, rfl⟩
            obtain ⟨i0, hi0⟩ : ∃ i0, i0 = (eList (eBind s) j2 k).2 := ⟨_, rfl⟩
            have HNX : Hid (eList (eBind s) j2 (k + 1) = (xs ++ [(eBind s i0).1], (eBind s i0).2)) := by show eList (eBind s) j2 (k + 1) = _; rw [hxs, hi0]; rfl
            have HXS : Hid (xs = (eList (eBind s) j2 k).1) := hxs
            have HI0 : Hid (i0 = (eList (eBind s) j2 k).2) := hi0
            rw [← hi0] at hear hi
            rw [← hxs] at hown hlen hsmall
            have HRES := hidI hres
            have HBOX := hidI hbox
            have HOWN := hidI hown
            have HBEL := hidI hbel
            have HEAR := hidI hear
            have HLEN := hidI hlen
            have HSM := hidI hsmall
            have HWW1 := hidI hw1
            have HWW2 := hidI hw2
            clear hres hbox hown hbel hear hxs hi0 hlen hsmall hw1 hw2
            by_cases hlt : k < nb
            · have HLT := hidI hlt
              have z0 : (0 : Int) < ((nb - k : Nat) : Int) := by omega
              go_wp2_with fail
              refine (ebyte_any s i0 Be wr hi hs6 HEAR.out).mono ?_
              rintro e y0 ⟨rfl, hb, hF⟩
              obtain ⟨hq, hsz⟩ := eNum_le hi
              obtain ⟨sa, hsa⟩ : ∃ sa, sa = (eNum s i0).1 := ⟨_, rfl⟩
              obtain ⟨p0, hpp0⟩ : ∃ p0, p0 = (eNum s i0).2 := ⟨_, rfl⟩
              rw [← hsa] at hsz ⊢
              rw [← hpp0] at hb hq
              have HV0 := hidI hsa
              have HQ0 := hidI hpp0
              have hp0 := hq
              clear hsa hpp0 hq
              have hv0 := hsz
              clear hsz
              have F0 := hF
              obtain ⟨bx, hbx⟩ : ∃ bx, bx = y0.heap.size := ⟨_, rfl⟩
              obtain ⟨X0, hX0⟩ : ∃ X0, X0 = y0.alloc (.cells #[(.int .i64 (sa : Int)), .bool false, .int .i64 0, .string ⟨#[]⟩] 77) := ⟨_, rfl⟩
              have b0 : X0.heap[bx]? = some (.cells #[(.int .i64 (sa : Int)), .bool false, .int .i64 0, .string ⟨#[]⟩] 77 (0, 0)) := by rw [hX0, hbx]; exact World.alloc_heap_new y0 _
              have kx : Below y0.heap.size y0 X0 := by rw [hX0]; exact (Below.refl _ _).alloc (Nat.le_refl _) _
              have FX0 : Hid (FrameT wr.heap.size Be wr X0) := F0.trans (FrameT.of_below kx F0.size)
              have EA0 : Hid (EarBox X0 Be s p0) := plan_keep hb kx
              have lbx : wr.heap.size ≤ bx := by have := F0.size; omega
              have HX0 : Hid (X0 = _) := hX0
              have HBXX := hidI hbx
              have HB0 := hidI b0
              clear hF hb kx F0 hX0 hbx b0
              go_wp2_with fail
              (try rw [← HX0.out])
              rw [← HBXX.out]
              refine (ebyte_any s p0 Be X0 hp0 hs6 EA0.out).mono ?_
              rintro e y1 ⟨rfl, hb, hF⟩
              obtain ⟨hq, hsz⟩ := eNum_le hp0
              obtain ⟨fl, hfl⟩ : ∃ fl, fl = (eNum s p0).1 := ⟨_, rfl⟩
              obtain ⟨p1, hpp1⟩ : ∃ p1, p1 = (eNum s p0).2 := ⟨_, rfl⟩
              rw [← hfl] at hsz ⊢
              rw [← hpp1] at hb hq
              have HV1 := hidI hfl
              have HQ1 := hidI hpp1
              have hp1 := hq
              clear hfl hpp1 hq
              have hv1 := hsz
              clear hsz
              have hbx1 : y1.heap[bx]? = some (.cells #[(.int .i64 (sa : Int)), .bool false, .int .i64 0, .string ⟨#[]⟩] 77 (0, 0)) := (hF.block bx (lt_of_heap HB0.out) (by omega)).trans HB0.out
              (try clear cc ff)
              have cc := cell_of_cells hbx1 1
              have ff := free_of_cells hbx1 1
              simp at cc
              obtain ⟨X1, hX1⟩ : ∃ X1, X1 = y1.setCell ⟨bx, 1, none⟩ (.bool ((fl : Int) == 1)) := ⟨_, rfl⟩
              have b1 : X1.heap[bx]? = some (.cells #[(.int .i64 (sa : Int)), (.bool ((fl : Int) == 1)), .int .i64 0, .string ⟨#[]⟩] 77 (0, 0)) := by rw [hX1]; exact setCell_block hbx1 (j := 1) _
              have FX1 : Hid (FrameT wr.heap.size Be wr X1) := by show FrameT wr.heap.size Be wr X1; rw [hX1]; exact ((FX0.out.trans ⟨hF.os, hF.tape, hF.output, hF.size, fun q h1 h2 => hF.block q (by have := FX0.out.size; omega) h2⟩)).setCell (p := ⟨bx, 1, none⟩) (.inl lbx) _
              have EA1 : Hid (EarBox X1 Be s p1) := by show EarBox X1 Be s p1; rw [hX1]; exact ((setCell_turnB y1 bx 1 _).block Be (lt_of_heap hb) (by omega)).trans hb
              have HX1 := hidI hX1
              have HB1 := hidI b1
              clear hF hb hX1 b1 hbx1
              go_wp2_with fail
              (try rw [← HX1.out])
              refine (ebyte_any s p1 Be X1 hp1 hs6 EA1.out).mono ?_
              rintro e y2 ⟨rfl, hb, hF⟩
              obtain ⟨hq, hsz⟩ := eNum_le hp1
              obtain ⟨sd, hsd⟩ : ∃ sd, sd = (eNum s p1).1 := ⟨_, rfl⟩
              obtain ⟨p2, hpp2⟩ : ∃ p2, p2 = (eNum s p1).2 := ⟨_, rfl⟩
              rw [← hsd] at hsz ⊢
              rw [← hpp2] at hb hq
              have HV2 := hidI hsd
              have HQ2 := hidI hpp2
              have hp2 := hq
              clear hsd hpp2 hq
              have hv2 := hsz
              clear hsz
              have hbx2 : y2.heap[bx]? = some (.cells #[(.int .i64 (sa : Int)), (.bool ((fl : Int) == 1)), .int .i64 0, .string ⟨#[]⟩] 77 (0, 0)) := (hF.block bx (lt_of_heap HB1.out) (by omega)).trans HB1.out
              (try clear cc ff)
              have cc := cell_of_cells hbx2 2
              have ff := free_of_cells hbx2 2
              simp at cc
              obtain ⟨X2, hX2⟩ : ∃ X2, X2 = y2.setCell ⟨bx, 2, none⟩ (.int .i64 (sd : Int)) := ⟨_, rfl⟩
              have b2 : X2.heap[bx]? = some (.cells #[(.int .i64 (sa : Int)), (.bool ((fl : Int) == 1)), (.int .i64 (sd : Int)), .string ⟨#[]⟩] 77 (0, 0)) := by rw [hX2]; exact setCell_block hbx2 (j := 2) _
              have FX2 : Hid (FrameT wr.heap.size Be wr X2) := by show FrameT wr.heap.size Be wr X2; rw [hX2]; exact ((FX1.out.trans ⟨hF.os, hF.tape, hF.output, hF.size, fun q h1 h2 => hF.block q (by have := FX1.out.size; omega) h2⟩)).setCell (p := ⟨bx, 2, none⟩) (.inl lbx) _
              have EA2 : Hid (EarBox X2 Be s p2) := by show EarBox X2 Be s p2; rw [hX2]; exact ((setCell_turnB y2 bx 2 _).block Be (lt_of_heap hb) (by omega)).trans hb
              have HX2 := hidI hX2
              have HB2 := hidI b2
              clear hF hb hX2 b2 hbx2
              go_wp2_with fail
              (try rw [← HX2.out])
              refine (etext_any s p2 Be X2 hp2 hs6 EA2.out).mono ?_
              rintro e y3 ⟨rfl, hb, hF, hq, hsz⟩
              obtain ⟨t, ht⟩ : ∃ t, t = (eText s p2).1 := ⟨_, rfl⟩
              obtain ⟨p3, hpp3⟩ : ∃ p3, p3 = (eText s p2).2 := ⟨_, rfl⟩
              rw [← ht] at hsz ⊢
              rw [← hpp3] at hb hq
              have HV3 := hidI ht
              have HQ3 := hidI hpp3
              have hp3 := hq
              clear ht hpp3 hq
              clear hsz
              have hbx3 : y3.heap[bx]? = some (.cells #[(.int .i64 (sa : Int)), (.bool ((fl : Int) == 1)), (.int .i64 (sd : Int)), .string ⟨#[]⟩] 77 (0, 0)) := (hF.block bx (lt_of_heap HB2.out) (by omega)).trans HB2.out
              (try clear cc ff)
              have cc := cell_of_cells hbx3 3
              have ff := free_of_cells hbx3 3
              simp at cc
              obtain ⟨X3, hX3⟩ : ∃ X3, X3 = y3.setCell ⟨bx, 3, none⟩ (.string t) := ⟨_, rfl⟩
              have b3 : X3.heap[bx]? = some (.cells #[(.int .i64 (sa : Int)), (.bool ((fl : Int) == 1)), (.int .i64 (sd : Int)), (.string t)] 77 (0, 0)) := by rw [hX3]; exact setCell_block hbx3 (j := 3) _
              have FX3 : Hid (FrameT wr.heap.size Be wr X3) := by show FrameT wr.heap.size Be wr X3; rw [hX3]; exact ((FX2.out.trans ⟨hF.os, hF.tape, hF.output, hF.size, fun q h1 h2 => hF.block q (by have := FX2.out.size; omega) h2⟩)).setCell (p := ⟨bx, 3, none⟩) (.inl lbx) _
              have EA3 : Hid (EarBox X3 Be s p3) := by show EarBox X3 Be s p3; rw [hX3]; exact ((setCell_turnB y3 bx 3 _).block Be (lt_of_heap hb) (by omega)).trans hb
              have HX3 := hidI hX3
              have HB3 := hidI b3
              clear hF hb hX3 b3 hbx3
              go_upto_region 23 with fail
              rw [← HX3.out]
              clear cc ff
              obtain ⟨c0, c1, c2⟩ := pl_cells ((FX3.out.block Bp (by omega) (by omega)).trans HBOX.out)
              have g0 := cell_of_cells HB3.out 0
              have g1 := cell_of_cells HB3.out 1
              have g2 := cell_of_cells HB3.out 2
              have g3 := cell_of_cells HB3.out 3
              simp at g0 g1 g2 g3
              obtain ⟨X9, hX9⟩ : ∃ X9, X9 = X3.alloc (.cells #[(.int .i64 (sa : Int)), (.bool ((fl : Int) == 1)), (.int .i64 (sd : Int)), (.string t)] 77) := ⟨_, rfl⟩
              have k9 : Below X3.heap.size X3 X9 := by rw [hX9]; exact (Below.refl _ _).alloc (Nat.le_refl _) _
              have HRW : Hid (RowAt X9 (some ⟨X3.heap.size, 0, none⟩) (BindD.cells ⟨sa, (fl : Int) == 1, sd, t⟩)) := by show RowAt X9 _ _; rw [hX9]; exact row_new (cs := BindD.cells ⟨sa, (fl : Int) == 1, sd, t⟩)
              have HO9 := hidI (copied_two (row_frame HOWN.out FX3.out l1) k9)
              have K9 := hidI k9
              have HX9 := hidI hX9
              have s9 : N ≤ X9.heap.size := by have h1 := FX3.out.size; have h2 := k9.size; omega
              have B9 : Hid (Below w.heap.size w X9) := HBEL.out.trans ((FX3.out.below (by omega) (by omega)).trans (k9.mono (by have := FX3.out.size; omega)))
              have F9 : Hid (FrameT wr.heap.size Be wr X9) := FX3.out.trans (FrameT.of_below k9 FX3.out.size)
              have E9 : Hid (EarBox X9 Be s p3) := plan_keep EA3.out k9
              clear hX9 k9
              go_wp2_with (at_builtin; (try rw [← HX3.out]); (try rw [← HX9.out]); refine append_row elemBind (by kernel_rfl) _ _ rfl N _ k (xs.flatMap BindD.cells) rfl HO9.out (some ⟨X3.heap.size, 0, none⟩) 1 1 (BindD.cells ⟨sa, (fl : Int) == 1, sd, t⟩) rfl rfl (fun h => by cases h) HRW.out (cells1_Bind _) (by unfold maxLen; omega) (by omega) s9 ?_; intro v6 w6 hown6 hgrow6 hblk6; have hb6 := (hgrow6.block Bp (by omega) (fun e => by have := HO9.out.lt Bp e.symm; omega)).trans ((F9.out.block Bp (by omega) (by omega)).trans HBOX.out); obtain ⟨a6, c6, hv6, -⟩ := own_row hown6; subst hv6; clear c0 c1 c2; obtain ⟨c0, c1, c2⟩ := pl_cells hb6; have ff0 := free_of_cells hb6 2; have HB6 := hidI hb6; have HO6 := hidI hown6; have HG6 := hidI hgrow6; clear hb6 hown6 hgrow6 hblk6)
              go_roundw
              case rel =>
                have hT := setCell_turnB w6 Bp 2 (.slice a6 (k + 1) c6)
                have ev : eBind s i0 = (⟨sa, (fl : Int) == 1, sd, t⟩, p3) := by rw [show ((fl : Int) == 1) = (fl == 1) by rw [Bool.eq_iff_iff]; simp; omega]; simp only [eBind, HV0.out, HQ0.out, HV1.out, HQ1.out, HV2.out, HQ2.out, HV3.out, HQ3.out]
                have gB := B9.out.grown HG6.out (by have := HBEL.out.size; omega) (fun q hq => by have := (HO9.out.lt q hq).1; have := HN.out; omega)
                refine ⟨k + 1, a6, c6, HLT.out, by have := HLT.out; go_num, ?_, ?_, setCell_block HB6.out (j := 2) _, ?_, gB.trans (hT.below gB.size (by omega)), by have h1 := HG6.out.size; have h2 := hT.size; omega, ?_, ?_⟩
                · exact (hT.block _ (by have h1 := HG6.out.size; omega) (by omega)).trans ((HG6.out.block _ (by omega) (fun e => by have := HO9.out.lt _ e.symm; have := HN.out; omega)).trans ((F9.out.block _ (by omega) (by omega)).trans HRES.out))
                · rw [HNX.out, ev]; exact (hT.block _ (by have h1 := HG6.out.size; omega) (by omega)).trans ((HG6.out.block _ (by omega) (fun e => by have := HO9.out.lt _ e.symm; omega)).trans E9.out)
                · rw [HNX.out, ev, List.flatMap_append, List.flatMap_singleton]; exact row_turn HO6.out hT l2
                · refine row_turn (row_keep (copied_two (row_frame HWW1.out FX3.out l1) K9.out) (fun q hq => ?_)) hT l2
                  have q1 := (copied_two (row_frame HWW1.out FX3.out l1) K9.out)
                  exact HG6.out.block q (q1.lt q hq).2 (fun e => row_other q1 (own_of HO9.out e.symm).choose_spec (by decide) hq)
                · refine row_turn (row_keep (copied_two (row_frame HWW2.out FX3.out l1) K9.out) (fun q hq => ?_)) hT l2
                  have q1 := (copied_two (row_frame HWW2.out FX3.out l1) K9.out)
                  exact HG6.out.block q (q1.lt q hq).2 (fun e => row_other q1 (own_of HO9.out e.symm).choose_spec (by decide) hq)
              case measure => have := HLT.out; simp [intOf]; omega
            · have hke : k = nb := by omega
              obtain rfl := hke.symm
              clear hlt hk
              have zf : ¬ (0 : Int) < ((nb - nb : Nat) : Int) := by omega
              obtain ⟨P, hP⟩ : ∃ P, P = ePlan s := ⟨_, rfl⟩
              have e1 : P.posts = (eList (ePost s) j0 nn).1 := by rw [hP]; show (eMany s (ePost s) 0).1 = _; rw [HM1.out]
              have e2 : P.queues = (eList (eQueue s) j1 nm).1 := by rw [hP]; show (eMany s (eQueue s) _).1 = _; rw [HM2.out]
              have e3 : P.binds = xs := by rw [hP, HXS.out]; show (eMany s (eBind s) _).1 = _; rw [HM3.out]
              obtain ⟨q1, q2, q3⟩ := eList_small (one := ePost s) (ok := fun x => x.name.size < 256) (fun i h => ePost_small h) HJ1.out nn
              obtain ⟨r1, r2, r3⟩ := eList_small (one := eQueue s) (ok := fun x => x.name.size < 256) (fun i h => eQueue_small h) HJ2.out nm
              have hOP : OwnP wr N a1 a2 a nn d1 nm d2 nb c P := ⟨by rw [e1]; exact q3, by rw [e2]; exact r3, by rw [e3]; exact HLEN.out, ⟨fun x hx => by rw [e1] at hx; obtain ⟨y, hy, rfl⟩ := List.mem_map.1 hx; have := q2 y hy; unfold maxLen; omega, fun x hx => by rw [e2] at hx; obtain ⟨y, hy, rfl⟩ := List.mem_map.1 hx; have := r2 y hy; unfold maxLen; omega⟩, by rw [e1]; exact HWW1.out, by rw [e2]; exact HWW2.out, by rw [e3]; exact HOWN.out⟩
              have HOP := hidI hOP
              have HPE := hidI hP
              obtain ⟨y0, y1, y2⟩ := pl_cells HBOX.out
              have hEAR := planOf_ear s
              rw [← hP] at hEAR
              have HEAR2 := hidI hEAR
              clear e1 e2 e3 q1 q2 q3 r1 r2 r3 hOP hP hEAR
              go_wp2_with fail
              refine (rcheck_any P a1 a2 a nn d1 nm d2 nb c wr HOP.out.l1 HOP.out.l2 HOP.out.l3 HOP.out.sz HOP.out.plan.p1 HOP.out.plan.p2 HOP.out.plan.p3).mono ?_
              rintro e w2 ⟨rfl, k2⟩
              obtain ⟨E, hE⟩ : ∃ E, E = chkP P := ⟨_, rfl⟩
              rw [← hE]
              have HE := hidI hE
              have K2 := hidI k2
              have HOP2 := hidI (HOP.out.keep k2)
              have hb2 := plan_keep HBOX.out k2
              have hr2 := plan_keep HRES.out k2
              have HBB2 := hidI hb2
              have HRR2 := hidI hr2
              have s2 := k2.size
              clear y0 y1 y2
              obtain ⟨y0, y1, y2⟩ := pl_cells hb2
              have QB2 : Hid (Below w.heap.size w w2) := HBEL.out.trans (k2.mono (by omega))
              clear k2 hE hb2
              by_cases hz : E = 0
              · subst hz
                have HC0 : Hid (chkP P = 0) := HE.out.symm
                go_wp2_with fail
                refine (planBytes_any P a1 a2 a nn d1 nm d2 nb c w2 HOP2.out.plan HC0.out).mono ?_
                rintro e w3 ⟨rfl, k3⟩
                obtain ⟨bv, hbv⟩ : ∃ bv, bv = bytesV (planB P) := ⟨_, rfl⟩
                rw [← hbv]
                have HBV := hidI hbv
                have K3 := hidI k3
                have hb3 := plan_keep HBB2.out k3
                have hr3 := plan_keep HRR2.out k3
                have HRR3 := hidI hr3
                have HOP3 := hidI (HOP2.out.keep k3)
                have s3 := k3.size
                have QB3 : Hid (Below w.heap.size w w3) := QB2.out.trans (k3.mono (by omega))
                clear y0 y1 y2
                obtain ⟨y0, y1, y2⟩ := pl_cells hb3
                have f0 := free_of_cells hr3 0
                have f1 := free_of_cells hr3 1
                have f2 := free_of_cells hr3 2
                obtain ⟨x0, x1, x2⟩ := pl_cells hr3
                clear hbv k3 hb3 hr3 hr2
                by_cases heq : planB P = s.data.toList
                · have hbs : bv = s := by rw [HBV.out]; apply ByteArray.ext; apply Array.toList_inj.1; exact heq
                  subst hbs
                  have HN0 : Hid (planOf bv = some P) := by show planOf bv = some P; rw [HEAR2.out, if_pos ⟨HC0.out, heq⟩]
                  clear heq
                  go_wp2_with fail
                  generalize hW4 : World.setCell (World.setCell (World.setCell w3 _ _) _ _) _ _ = W4
                  obtain ⟨b4, t4⟩ := store3 HRR3.out hW4
                  obtain ⟨z0, z1, z2⟩ := pl_cells b4
                  exact bodyPost_ret (v := .tuple #[.agg #[.slice a1 nn d1, .slice a2 nm d2, .slice a nb c], .bool true]) (by simp [results, Try.results34, go_sem, z0, z1, z2]) rfl ⟨_, by rw [HFB.out]; unfold fromB; rw [HN0.out]; rfl, by rw [HFP.out]; unfold fromP; rw [HN0.out]; exact ⟨a1, a2, a, nn, d1, nm, d2, nb, c, rfl, (HOP3.out.turn t4 (by omega)).plan⟩, QB3.out.trans (t4.below (by omega) (Nat.le_refl _))⟩
                · have HN0 : Hid (planOf s = none) := by show planOf s = none; rw [HEAR2.out, if_neg (fun h => heq h.2)]
                  have hne : (bv.toList == s.toList) = false := by
                    rw [beq_eq_false_iff_ne, ByteArray.toList_eq, ByteArray.toList_eq, HBV.out]; exact heq
                  clear heq
                  go_wp2_with fail
                  generalize hW4 : World.setCell (World.setCell (World.setCell w3 _ _) _ _) _ _ = W4
                  obtain ⟨b4, t4⟩ := store3 HRR3.out hW4
                  obtain ⟨z0, z1, z2⟩ := pl_cells b4
                  exact bodyPost_ret (v := .tuple #[.agg #[.slice none 0 0, .slice none 0 0, .slice none 0 0], .bool false]) (by simp [results, Try.results34, go_sem, z0, z1, z2]) rfl ⟨_, by rw [HFB.out]; unfold fromB; rw [HN0.out]; rfl, by rw [HFP.out]; unfold fromP; rw [HN0.out]; exact noP_v _, QB3.out.trans (t4.below (by omega) (Nat.le_refl _))⟩
              · have hz' : (E != 0) = true := bne_iff_ne.2 hz
                have HN0 : Hid (planOf s = none) := by show planOf s = none; rw [HEAR2.out, if_neg]; rintro ⟨h1, _⟩; rw [← HE.out] at h1; exact hz h1
                have f0 := free_of_cells hr2 0
                have f1 := free_of_cells hr2 1
                have f2 := free_of_cells hr2 2
                obtain ⟨x0, x1, x2⟩ := pl_cells hr2
                clear hz hr2
                go_wp2_with fail
                generalize hW4 : World.setCell (World.setCell (World.setCell w2 _ _) _ _) _ _ = W4
                obtain ⟨b4, t4⟩ := store3 HRR2.out hW4
                obtain ⟨z0, z1, z2⟩ := pl_cells b4
                exact bodyPost_ret (v := .tuple #[.agg #[.slice none 0 0, .slice none 0 0, .slice none 0 0], .bool false]) (by simp [results, Try.results34, go_sem, z0, z1, z2]) rfl ⟨_, by rw [HFB.out]; unfold fromB; rw [HN0.out]; rfl, by rw [HFP.out]; unfold fromP; rw [HN0.out]; exact noP_v _, QB2.out.trans (t4.below (by omega) (Nat.le_refl _))⟩

end Go.Proofs.Ytpoichgodamnkaa

/- Ws -/
namespace Go.Proofs.Ytpoichgodamnkaa
set_option linter.unusedVariables false
set_option maxRecDepth 100000
open Go.RowKit Go.Maps

def offB : ByteArray := bytesV (planB officeP)
def offX : ByteArray := offB ++ ⟨#[120]⟩
theorem off_facts : chkP officeP = 0 ∧ offB.size = 63 ∧ rdE offX = 1 := by decide +kernel
theorem off_write : wrV officeP = offB := if_pos off_facts.1
theorem bytesV_list (l : List UInt8) : (bytesV l).data.toList = l := rfl
theorem read_back {p : PlanD} (h : chkP p = 0) : rdE (bytesV (planB p)) = 0 ∧ rdP (bytesV (planB p)) = p := by
  have hs : ¬ 4096 < (bytesV (planB p)).size := by
    have := planB_short h
    have e : (bytesV (planB p)).size = (planB p).length := by rw [← size_list]; rfl
    omega
  have ho := planOf_back (s := bytesV (planB p)) h rfl
  unfold rdE rdP
  rw [if_neg hs, if_neg hs, ho]
  exact ⟨rfl, rfl⟩

set_option maxRecDepth 100000 in
set_option maxHeartbeats 4000000 in
theorem wireBegun_any (w : World) : Calls Try.prog 32 #[] w fun e w' => e = .returned (.bool true) ∧ Below w.heap.size w w' := by
  have hc := off_facts.1
  obtain ⟨r0, rp⟩ := read_back hc
  obtain ⟨B, hB⟩ : ∃ B, B = offB := ⟨_, rfl⟩
  obtain ⟨X, hX⟩ : ∃ X, X = B ++ (⟨#[120]⟩ : ByteArray) := ⟨_, rfl⟩
  have FW : Hid (wrV officeP = B) := by show wrV officeP = B; rw [hB]; exact off_write
  have FC : Hid (chkP officeP = 0) := hc
  have FS : Hid (B.size = 63) := by show B.size = 63; rw [hB]; exact off_facts.2.1
  have FR : Hid (rdE B = 0 ∧ rdP B = officeP) := by show rdE B = 0 ∧ rdP B = officeP; rw [hB]; exact ⟨r0, rp⟩
  have FX : Hid (rdE X = 1) := by show rdE X = 1; rw [hX, hB]; exact off_facts.2.2
  have HX := hidI hX
  have hb63 : B.size ≤ 63 := by have := FS.out; omega
  clear hc r0 rp hB hX
  go_enter Try.func32, Try.ntmps32
  go_wp2_with fail
  refine (office_any w).mono ?_
  rintro e w1 ⟨rfl, k1, hp1⟩
  have K1 := hidI k1
  have HP1 := hidI hp1
  clear k1 hp1
  go_wp2_with fail
  refine (write_any officeP _ _ _ _ _ _ _ _ _ w1 HP1.out).mono ?_
  rintro e w2 ⟨rfl, k2⟩
  rw [FW.out, FC.out]
  have K2 := hidI (K1.out.trans (k2.mono K1.out.size))
  clear k2
  go_wp2_with fail
  refine (read_any B w2).mono ?_
  rintro e w3 ⟨v3, rfl, hv3, k3⟩
  rw [FR.out.1]
  rw [FR.out.2] at hv3
  obtain ⟨a1, a2, a3, n1, c1, n2, c2, n3, c3, rfl, hp3⟩ := hv3
  have K3 := hidI (K2.out.trans (k3.mono K2.out.size))
  have HP3 := hidI hp3
  obtain ⟨W4, hW4⟩ : ∃ W4, W4 = w3.alloc (.cells #[.slice a1 n1 c1, .slice a2 n2 c2, .slice a3 n3 c3] 26) := ⟨_, rfl⟩
  have k4 : Below w3.heap.size w3 W4 := by rw [hW4]; exact (Below.refl _ _).alloc (Nat.le_refl _) _
  have b4 : W4.heap[w3.heap.size]? = some (.cells #[.slice a1 n1 c1, .slice a2 n2 c2, .slice a3 n3 c3] 26 (0, 0)) := by rw [hW4]; exact World.alloc_heap_new w3 _
  have K4 := hidI (K3.out.trans (k4.mono K3.out.size))
  have HP4 := hidI (hp3.keep k4)
  have HW4 := hidI hW4
  have HB4 := hidI b4
  clear k3 hp3 hW4 k4 b4
  go_upto_region 3 with fail
  rw [← HW4.out]
  go_wp2_with fail
  rw [← HX.out]
  refine (read_any X W4).mono ?_
  rintro e w5 ⟨v5, rfl, hv5, k5⟩
  rw [FX.out]
  obtain ⟨d1, d2, d3, m1, f1, m2, f2, m3, f3, rfl, -⟩ := hv5
  have K5 := hidI (K4.out.trans (k5.mono K4.out.size))
  have HB5 := hidI (plan_keep HB4.out k5)
  have HP5 := hidI (HP4.out.keep k5)
  clear k5
  go_upto_region 4 with fail
  obtain ⟨W6, hW6⟩ : ∃ W6, W6 = w5.alloc (.cells #[.slice d1 m1 f1, .slice d2 m2 f2, .slice d3 m3 f3] 26) := ⟨_, rfl⟩
  rw [← hW6]
  have k6 : Below w5.heap.size w5 W6 := by rw [hW6]; exact (Below.refl _ _).alloc (Nat.le_refl _) _
  have K6 := hidI (K5.out.trans (k6.mono K5.out.size))
  have HB6 := hidI (plan_keep HB5.out k6)
  have HP6 := hidI (HP5.out.keep k6)
  clear hW6 k6
  have SS : Hid (∀ W', Below W6.heap.size W6 W' → (W'.cell? ⟨w3.heap.size, 0, none⟩ = some (.slice a1 n1 c1) ∧ W'.cell? ⟨w3.heap.size, 1, none⟩ = some (.slice a2 n2 c2) ∧ W'.cell? ⟨w3.heap.size, 2, none⟩ = some (.slice a3 n3 c3))) := fun W' h => pl_cells (plan_keep HB6.out h)
  have hsz : ((B.size : Int) == 63) = true := by rw [beq_iff_eq]; have := FS.out; omega
  refine wp_region_held_drew (S := fun W' => (W'.cell? ⟨w3.heap.size, 0, none⟩ = some (.slice a1 n1 c1) ∧ W'.cell? ⟨w3.heap.size, 1, none⟩ = some (.slice a2 n2 c2) ∧ W'.cell? ⟨w3.heap.size, 2, none⟩ = some (.slice a3 n3 c3))) (by kernel_rfl) (SS.out _ (Below.refl _ _).drew) (fun hHeld => ?_)
  (refine wpAnyH_take (i := 0) (v := ?_) rfl (by kernel_rfl) (by kernel_rfl) (by kernel_rfl) (fun _ _ _ h => h) (Or.inl ⟨by kernel_rfl, ?_⟩) (by assumption) ?_; rotate_left; (focus (intro w hSw; (try dsimp only at hSw); go_simp; (try with_reducible rfl))); (try simp only [Act.put, List.getElem_toArray, List.getElem_cons_zero, List.setIfInBounds_toArray, List.set_cons_zero, List.set_cons_succ]))
  (refine wpAnyH_take (i := 1) (v := ?_) rfl (by kernel_rfl) (by kernel_rfl) (by kernel_rfl) (fun _ _ _ h => h) (Or.inl ⟨by kernel_rfl, ?_⟩) (by assumption) ?_; rotate_left; (focus (intro w hSw; (try dsimp only at hSw); go_simp; (try with_reducible rfl))); (try simp only [Act.put, List.getElem_toArray, List.getElem_cons_succ, List.getElem_cons_zero, List.setIfInBounds_toArray, List.set_cons_zero, List.set_cons_succ]))
  (refine wpAnyH_take (i := 2) (v := ?_) rfl (by kernel_rfl) (by kernel_rfl) (by kernel_rfl) (fun _ _ _ h => h) (Or.inl ⟨by kernel_rfl, ?_⟩) (by assumption) ?_; rotate_left; (focus (intro w hSw; (try dsimp only at hSw); go_simp; (try with_reducible rfl))); (try simp only [Act.put, List.getElem_toArray, List.getElem_cons_succ, List.getElem_cons_zero, List.setIfInBounds_toArray, List.set_cons_zero, List.set_cons_succ]))
  (refine wpAnyH_take (i := 3) (v := ?_) rfl (by kernel_rfl) (by kernel_rfl) (by kernel_rfl) (fun _ _ _ h => h) (Or.inl ⟨by kernel_rfl, ?_⟩) (by assumption) ?_; rotate_left; (focus (intro w hSw; (try dsimp only at hSw); go_simp; (try with_reducible rfl))); (try simp only [Act.put, List.getElem_toArray, List.getElem_cons_succ, List.getElem_cons_zero, List.setIfInBounds_toArray, List.set_cons_zero, List.set_cons_succ]))
  (refine wpAnyH_take (i := 4) (v := ?_) rfl (by kernel_rfl) (by kernel_rfl) (by kernel_rfl) (fun _ _ _ h => h) (Or.inl ⟨by kernel_rfl, ?_⟩) (by assumption) ?_; rotate_left; (focus (intro w hSw; (try dsimp only at hSw); go_simp; (try with_reducible rfl))); (try simp only [Act.put, List.getElem_toArray, List.getElem_cons_succ, List.getElem_cons_zero, List.setIfInBounds_toArray, List.set_cons_zero, List.set_cons_succ]))
  (refine wpAnyH_take (i := 5) (v := ?_) rfl (by kernel_rfl) (by kernel_rfl) (by kernel_rfl) (fun _ _ _ h => h) (Or.inl ⟨by kernel_rfl, ?_⟩) (by assumption) ?_; rotate_left; (focus (intro w hSw; (try dsimp only at hSw); go_simp; (try with_reducible rfl))); (try simp only [Act.put, List.getElem_toArray, List.getElem_cons_succ, List.getElem_cons_zero, List.setIfInBounds_toArray, List.set_cons_zero, List.set_cons_succ]))
  (refine wpAnyH_take (i := 6) (v := ?_) rfl (by kernel_rfl) (by kernel_rfl) (by kernel_rfl) (fun _ _ _ h => h) (Or.inl ⟨by kernel_rfl, ?_⟩) (by assumption) ?_; rotate_left; (focus (intro w hSw; (try dsimp only at hSw); go_simp; (try with_reducible rfl))); (try simp only [Act.put, List.getElem_toArray, List.getElem_cons_succ, List.getElem_cons_zero, List.setIfInBounds_toArray, List.set_cons_zero, List.set_cons_succ]))
  (refine wpAnyH_take (i := 7) (v := ?_) rfl (by kernel_rfl) (by kernel_rfl) (by kernel_rfl) (fun _ _ _ h => h) (Or.inl ⟨by kernel_rfl, ?_⟩) (by assumption) ?_; rotate_left; (focus (intro w hSw; (try dsimp only at hSw); go_simp; (try with_reducible rfl))); (try simp only [Act.put, List.getElem_toArray, List.getElem_cons_succ, List.getElem_cons_zero, List.setIfInBounds_toArray, List.set_cons_zero, List.set_cons_succ]))
  (refine wpAnyH_take (i := 8) (v := ?_) rfl (by kernel_rfl) (by kernel_rfl) (by kernel_rfl) (fun _ _ _ h => h) (Or.inl ⟨by kernel_rfl, ?_⟩) (by assumption) ?_; rotate_left; (focus (intro w hSw; (try dsimp only at hSw); go_simp; (try with_reducible rfl))); (try simp only [Act.put, List.getElem_toArray, List.getElem_cons_succ, List.getElem_cons_zero, List.setIfInBounds_toArray, List.set_cons_zero, List.set_cons_succ]))
  (refine wpAnyH_take (i := 9) (v := ?_) rfl (by kernel_rfl) (by kernel_rfl) (by kernel_rfl) (fun _ _ _ h => h) (Or.inl ⟨by kernel_rfl, ?_⟩) (by assumption) ?_; rotate_left; (focus (intro w hSw; (try dsimp only at hSw); go_simp; (try with_reducible rfl))); (try simp only [Act.put, List.getElem_toArray, List.getElem_cons_succ, List.getElem_cons_zero, List.setIfInBounds_toArray, List.set_cons_zero, List.set_cons_succ]))
  (refine wpAnyH_take (i := 10) (v := ?_) rfl (by kernel_rfl) (by kernel_rfl) (by kernel_rfl) (fun _ _ _ h => h) (Or.inl ⟨by kernel_rfl, ?_⟩) (by assumption) ?_; rotate_left; (focus (intro w hSw; (try dsimp only at hSw); go_simp; (try with_reducible rfl))); (try simp only [Act.put, List.getElem_toArray, List.getElem_cons_succ, List.getElem_cons_zero, List.setIfInBounds_toArray, List.set_cons_zero, List.set_cons_succ]))
  (refine wpAnyH_take (i := 11) (v := ?_) rfl (by kernel_rfl) (by kernel_rfl) (by kernel_rfl) (fun _ _ _ h => h) (Or.inl ⟨by kernel_rfl, ?_⟩) (by assumption) ?_; rotate_left; (focus (intro w hSw; (try dsimp only at hSw); go_simp; (try with_reducible rfl))); (try simp only [Act.put, List.getElem_toArray, List.getElem_cons_succ, List.getElem_cons_zero, List.setIfInBounds_toArray, List.set_cons_zero, List.set_cons_succ]))
  (refine wpAnyH_take (i := 12) (v := ?_) rfl (by kernel_rfl) (by kernel_rfl) (by kernel_rfl) (fun _ _ _ h => h) (Or.inl ⟨by kernel_rfl, ?_⟩) (by assumption) ?_; rotate_left; (focus (intro w hSw; (try dsimp only at hSw); go_simp; (try with_reducible rfl))); (try simp only [Act.put, List.getElem_toArray, List.getElem_cons_succ, List.getElem_cons_zero, List.setIfInBounds_toArray, List.set_cons_zero, List.set_cons_succ]))
  (refine wpAnyH_take (i := 13) (v := ?_) rfl (by kernel_rfl) (by kernel_rfl) (by kernel_rfl) (fun _ _ _ h => h) (Or.inl ⟨by kernel_rfl, ?_⟩) (by assumption) ?_; rotate_left; (focus (intro w hSw; (try dsimp only at hSw); go_simp; (try with_reducible rfl))); (try simp only [Act.put, List.getElem_toArray, List.getElem_cons_succ, List.getElem_cons_zero, List.setIfInBounds_toArray, List.set_cons_zero, List.set_cons_succ]))
  (refine wpAnyH_take (i := 14) (v := ?_) rfl (by kernel_rfl) (by kernel_rfl) (by kernel_rfl) (fun _ _ _ h => h) (Or.inl ⟨by kernel_rfl, ?_⟩) (by assumption) ?_; rotate_left; (focus (intro w hSw; (try dsimp only at hSw); go_simp; (try with_reducible rfl))); (try simp only [Act.put, List.getElem_toArray, List.getElem_cons_succ, List.getElem_cons_zero, List.setIfInBounds_toArray, List.set_cons_zero, List.set_cons_succ]))
  (refine wpAnyH_take (i := 15) (v := ?_) rfl (by kernel_rfl) (by kernel_rfl) (by kernel_rfl) (fun _ _ _ h => h) (Or.inl ⟨by kernel_rfl, ?_⟩) (by assumption) ?_; rotate_left; (focus (intro w hSw; (try dsimp only at hSw); go_simp; (try with_reducible rfl))); (try simp only [Act.put, List.getElem_toArray, List.getElem_cons_succ, List.getElem_cons_zero, List.setIfInBounds_toArray, List.set_cons_zero, List.set_cons_succ]))
  (refine wpAnyH_take (i := 16) (v := ?_) rfl (by kernel_rfl) (by kernel_rfl) (by kernel_rfl) (fun _ _ _ h => h) (Or.inl ⟨by kernel_rfl, ?_⟩) (by assumption) ?_; rotate_left; (focus (intro w hSw; (try dsimp only at hSw); go_simp; (try with_reducible rfl))); (try simp only [Act.put, List.getElem_toArray, List.getElem_cons_succ, List.getElem_cons_zero, List.setIfInBounds_toArray, List.set_cons_zero, List.set_cons_succ]))
  refine wpAnyH_ready (rs := [17]) (by kernel_rfl) (by simp) ?_
  refine AllReadyH.cons rfl (fun K hK => ?_) AllReadyH.nil
  go_simp
  refine (office_any _).mono ?_
  rintro e w7 ⟨rfl, k7', hp7⟩
  have k7 : Below W6.heap.size W6 w7 := below_undrew k7'
  refine hK.out _ _ (SS.out _ k7) (fun _ => ?_)
  clear hK K
  (try simp only [Act.put, List.getElem_toArray, List.getElem_cons_succ, List.getElem_cons_zero, List.setIfInBounds_toArray, List.set_cons_zero, List.set_cons_succ])
  refine wpAnyH_ready (rs := [18]) (by kernel_rfl) (by simp) ?_
  refine AllReadyH.cons rfl (fun K hK => ?_) AllReadyH.nil
  go_simp
  refine (same_pl (p := officeP) ⟨_, _, _, _, _, _, _, _, _, rfl, HP6.out.keep k7⟩ ⟨_, _, _, _, _, _, _, _, _, rfl, hp7⟩ (by decide)).mono ?_
  rintro e w8 ⟨rfl, k8⟩
  have k8' : Below W6.heap.size W6 w8 := k7.trans (k8.mono k7.size)
  refine hK.out _ _ (SS.out _ k8') (fun _ => ?_)
  clear hK K
  (try simp only [Act.put, List.getElem_toArray, List.getElem_cons_succ, List.getElem_cons_zero, List.setIfInBounds_toArray, List.set_cons_zero, List.set_cons_succ])
  (refine wpAnyH_take (i := 19) (v := ?_) rfl (by kernel_rfl) (by kernel_rfl) (by kernel_rfl) (fun _ _ _ h => h) (Or.inl ⟨by kernel_rfl, ?_⟩) (by assumption) ?_; rotate_left; (focus (intro w hSw; (try dsimp only at hSw); go_simp; (try with_reducible rfl))); (try simp only [Act.put, List.getElem_toArray, List.getElem_cons_succ, List.getElem_cons_zero, List.setIfInBounds_toArray, List.set_cons_zero, List.set_cons_succ]))
  (refine wpAnyH_take (i := 20) (v := ?_) rfl (by kernel_rfl) (by kernel_rfl) (by kernel_rfl) (fun _ _ _ h => h) (Or.inl ⟨by kernel_rfl, ?_⟩) (by assumption) ?_; rotate_left; (focus (intro w hSw; (try dsimp only at hSw); go_simp; (try with_reducible rfl))); (try simp only [Act.put, List.getElem_toArray, List.getElem_cons_succ, List.getElem_cons_zero, List.setIfInBounds_toArray, List.set_cons_zero]))
  refine wpAnyH_done (by kernel_rfl) ?_ _
  have K8 := hidI (K6.out.trans (k8'.mono K6.out.size))
  clear k7 k7' k8 k8' hp7
  go_wp2_with fail
  go_ret
  exact ⟨rfl, K8.out⟩

end Go.Proofs.Ytpoichgodamnkaa
