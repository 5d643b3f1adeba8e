/- lines.Push. -/
import Derived.Test.YthhkpgnjpieckaaLr
namespace Go.Proofs.Ythhkpgnjpieckaa
set_option linter.unusedVariables false
set_option maxRecDepth 100000
open Go.RowKit

/-- The first letter whose Seq is not below q; how many lie ahead of it. -/
def idxSeq (q : Int) : List ItemD → Nat
  | [] => 0
  | x :: r => if q ≤ x.seq then 0 else idxSeq q r + 1
def idxI (q : Int) (xs : List ItemD) : Int := if idxSeq q xs < xs.length then idxSeq q xs else -1

theorem idxSeq_le (q : Int) : ∀ xs : List ItemD, idxSeq q xs ≤ xs.length
  | [] => by simp [idxSeq]
  | x :: r => by
    have := idxSeq_le q r
    unfold idxSeq
    split <;> simp <;> omega

set_option maxHeartbeats 1000000 in
theorem push1_any (s d : Int) (k b : ByteArray) (a : Bool) (B : Nat) (q : Int) (w : World) (hB : B < w.heap.size) (hq : w.cell? ⟨B, 0, none⟩ = some (.int .i64 q)) :
    Calls Try.prog 87 #[.agg #[.int .i64 s, .string k, .string b, .bool a, .int .i64 d], .pointer (some ⟨B, 0, none⟩)] w fun e w' => e = .returned (.bool (decide (q ≤ s))) ∧ Below w.heap.size w w' := by
  have hne : ¬ w.heap.size = B := by omega
  go_enter Try.func87, Try.ntmps87
  go_wp2
  go_ret
  exact ⟨rfl, (Below.refl _ _).alloc (Nat.le_refl _) _⟩

set_option maxHeartbeats 2000000 in
theorem indexFunc_any (xs : List ItemD) (a : Option Addr) (n c : Nat) (B : Nat) (q : Int) (w : World) (hn : xs.length = n) (hm : n ≤ maxLen) (hp : ItemsAt w a xs) (hB : B < w.heap.size) (hq : w.cell? ⟨B, 0, none⟩ = some (.int .i64 q)) :
    Calls Try.prog 86 #[.slice a n c, .func (.func 87) #[] #[.pointer (some ⟨B, 0, none⟩)]] w fun e w' => e = .returned (.int .i64 (idxI q xs)) ∧ Below w.heap.size w w' := by
  have HN : Hid (xs.length = n) := hn
  have HP : Hid (ItemsAt w a xs) := hp
  unfold maxLen at hm
  clear hn hp
  go_enter Try.func86, Try.ntmps86
  go_wp2
  go_loopw [8] (fun i wr => ∃ (k : Nat), k ≤ n ∧ i = .int .i64 k ∧ idxSeq q xs = k + idxSeq q (xs.drop k) ∧ Below w.heap.size w wr) (fun i _ => n - (intOf i).toNat)
  case atStart => exact ⟨0, Nat.zero_le _, rfl, by simp, Below.refl _ _⟩
  case round =>
    obtain ⟨k, hk, rfl, ha, hBl⟩ := hrel
    have HA : Hid (idxSeq q xs = k + idxSeq q (xs.drop k)) := ha
    have hBs := hBl.size
    have hqc := (hBl.cell (p := ⟨B, 0, none⟩) hB).trans hq
    clear ha
    by_cases hlt : k < n
    · have hkl : k < xs.length := by rw [HN.out]; exact hlt
      obtain ⟨g, o, rfl, hg, hx⟩ := HP.out.cells (by omega)
      obtain ⟨x, hxx⟩ : ∃ x, x = xs[k] := ⟨_, rfl⟩
      have hc := (hx k hkl).keep hBl hg
      rw [← hxx] at hc
      have hd : xs.drop k = x :: xs.drop (k + 1) := by rw [hxx]; exact List.drop_eq_getElem_cons hkl
      clear hx hxx
      obtain ⟨s, ky, b, ag, d⟩ := x
      obtain ⟨c0, c1, c2, c3, c4⟩ := hc
      dsimp only at c0 c1 c2 c3 c4
      have j1 : (0 : Int) ≤ (k : Int) := by omega
      have j2 : (k : Int) < n := by omega
      by_cases hle : q ≤ s
      · have HF : Hid (idxI q xs = k) := by
          show idxI q xs = k
          have e : idxSeq q xs = k := by rw [HA.out, hd, idxSeq, if_pos hle]; rfl
          unfold idxI; rw [e, if_pos hkl]
        have HD : Hid (decide (q ≤ s) = true) := by show decide (q ≤ s) = true; simpa using hle
        clear hd hle
        go_wp2_with fail
        refine (push1_any _ _ _ _ _ _ q _ (by omega) hqc).mono ?_
        rintro e w2 ⟨rfl, hB2⟩
        rw [HD.out]
        go_wp2_with fail
        go_ret
        exact ⟨ret_int HF.out.symm, hBl.trans (hB2.mono hBs)⟩
      · have HF : Hid (idxSeq q xs = (k + 1) + idxSeq q (xs.drop (k + 1))) := by
          show idxSeq q xs = _
          rw [HA.out, hd, idxSeq, if_neg hle]; omega
        have HD : Hid (decide (q ≤ s) = false) := by show decide (q ≤ s) = false; simpa using hle
        clear hd hle
        go_wp2_with fail
        refine (push1_any _ _ _ _ _ _ q _ (by omega) hqc).mono ?_
        rintro e w2 ⟨rfl, hB2⟩
        rw [HD.out]
        go_wp2_with fail
        go_roundw
        case rel => exact ⟨k + 1, by omega, by go_num, HF.out, hBl.trans (hB2.mono hBs)⟩
        case measure => simp [intOf]; omega
    · have HF : Hid (idxI q xs = -1) := by
        show idxI q xs = -1
        have e : xs.drop k = [] := List.drop_eq_nil_of_le (by rw [HN.out]; omega)
        have e2 : idxSeq q xs = k := by rw [HA.out, e]; rfl
        unfold idxI; rw [e2, if_neg (by rw [HN.out]; exact hlt)]
      go_wp2
      go_ret
      exact ⟨ret_int HF.out.symm, hBl⟩

def sum3 (a b c : Nat) : Nat → Nat
  | 0 => 0
  | 1 => a
  | 2 => a + b
  | _ => a + b + c
def cat3 (x y z : List ItemD) : Nat → List ItemD
  | 0 => []
  | 1 => x
  | 2 => x ++ y
  | _ => x ++ y ++ z

set_option maxHeartbeats 4000000 in
theorem concat3 (h : Nat) (x y z : List ItemD) (a1 a2 a3 : Option Addr) (n1 n2 n3 c1 c2 c3 : Nat) (w : World) (hh : h < w.heap.size)
    (g0 : w.cell? ⟨h, 0, none⟩ = some (.slice a1 n1 c1)) (g1 : w.cell? ⟨h, 1, none⟩ = some (.slice a2 n2 c2)) (g2 : w.cell? ⟨h, 2, none⟩ = some (.slice a3 n3 c3))
    (l1 : x.length = n1) (l2 : y.length = n2) (l3 : z.length = n3) (hx : ItemsAt w a1 x) (hy : ItemsAt w a2 y) (hz : ItemsAt w a3 z)
    (z1 : a1 = none → c1 = 0 ∧ x = []) (z2 : a2 = none → c2 = 0 ∧ y = []) (z3 : a3 = none → c3 = 0 ∧ z = []) (hpos : 0 < n1 + n2 + n3) (hb : n1 + n2 + n3 ≤ 100000000) :
    Calls Try.prog 88 #[.slice (some ⟨h, 0, none⟩) 3 3] w fun e w' => ∃ v, e = .returned v ∧ w'.ownsRow w.heap.size 59 5 v (n1 + n2 + n3) (itemCells (x ++ y ++ z)) ∧ Below w.heap.size w w' := by
  have HX : Hid (ItemsAt w a1 x ∧ ItemsAt w a2 y ∧ ItemsAt w a3 z) := ⟨hx, hy, hz⟩
  have HL : Hid (x.length = n1 ∧ y.length = n2 ∧ z.length = n3) := ⟨l1, l2, l3⟩
  have HZ : Hid ((a1 = none → c1 = 0 ∧ x = []) ∧ (a2 = none → c2 = 0 ∧ y = []) ∧ (a3 = none → c3 = 0 ∧ z = [])) := ⟨z1, z2, z3⟩
  clear hx hy hz l1 l2 l3 z1 z2 z3
  go_enter Try.func88, Try.ntmps88
  go_wp2
  go_loopw [3, 11] (fun s i wr => ∃ k : Nat, k ≤ 3 ∧ i = .int .i64 k ∧ s = .int .i64 (sum3 n1 n2 n3 k : Nat) ∧ w = wr) (fun _ i _ => 3 - (intOf i).toNat)
  case atStart => exact ⟨0, by omega, rfl, rfl, rfl⟩
  case round =>
    obtain ⟨k, hk, rfl, rfl, rfl⟩ := hrel
    by_cases hlt : k < 3
    · match k, hlt with
      | 0, _ =>
        have q : ¬ (n1 : Int) < 0 := by omega
        have q2 : IntKind.i64.wrap (n1 : Int) = (n1 : Int) := i64_nat _ (by omega)
        simp only [sum3]
        go_wp2
        go_roundw
        case rel => exact ⟨1, by omega, by go_num, by go_num, trivial⟩
        case measure => simp [intOf]
      | 1, _ =>
        have q : ¬ (n1 : Int) + n2 < 0 := by omega
        have q2 : IntKind.i64.wrap ((n1 : Int) + n2) = (n1 : Int) + n2 := by rw [IntKind.wrap_i64]; omega
        simp only [sum3]
        go_wp2
        go_roundw
        case rel => exact ⟨2, by omega, by go_num, by go_num, trivial⟩
        case measure => simp [intOf]
      | 2, _ =>
        have q : ¬ (n1 : Int) + n2 + n3 < 0 := by omega
        have q2 : IntKind.i64.wrap ((n1 : Int) + n2 + n3) = (n1 : Int) + n2 + n3 := by rw [IntKind.wrap_i64]; omega
        simp only [sum3]
        go_wp2
        go_roundw
        case rel => exact ⟨3, by omega, by go_num, by go_num, trivial⟩
        case measure => simp [intOf]
    · have e3 : k = 3 := by omega
      subst e3
      simp only [sum3]
      obtain ⟨t, ht⟩ : ∃ t, t = n1 + n2 + n3 := ⟨_, rfl⟩
      rw [← ht]
      have ht1 : 0 < t := by omega
      have ht2 : t ≤ 100000000 := by omega
      have HT : Hid (t = n1 + n2 + n3) := ht
      clear hpos hlt hk ht
      go_wp2_with fail
      refine (grow_nil t _ ht1 ht2).mono ?_
      rintro e w2 ⟨v, rfl, hown, hB⟩
      have hBs := hB.size
      go_wp2_with fail
      go_loopw [6, 27] (fun s i wr => ∃ k : Nat, k ≤ 3 ∧ i = .int .i64 k ∧ wr.ownsRow w.heap.size 59 5 s (sum3 n1 n2 n3 k) (itemCells (cat3 x y z k)) ∧ Below w.heap.size w wr) (fun _ i _ => 3 - (intOf i).toNat)
      case atStart => exact ⟨0, by omega, rfl, hown, hB⟩
      case round =>
        obtain ⟨k, hk, rfl, hrow, hB2⟩ := hrel
        have hB2s := hB2.size
        have e0 := (hB2.cell (p := ⟨h, 0, none⟩) hh).trans g0
        have e1 := (hB2.cell (p := ⟨h, 1, none⟩) hh).trans g1
        have e2 := (hB2.cell (p := ⟨h, 2, none⟩) hh).trans g2
        by_cases hlt : k < 3
        · match k, hlt with
          | 0, _ =>
            go_wp2_with (at_builtin; refine append_items rfl _ _ rfl w.heap.size _ _ [] rfl hrow a1 n1 c1 x rfl HL.out.1 HZ.out.1 (HX.out.1.keep hB2) (by simp [sum3]; omega) hB2s ?_; intro v' w3 hown3 hgrow3)
            have hB3 := hB2.grown hgrow3 hB2s (own_ge hrow)
            go_roundw
            case rel => exact ⟨1, by omega, by go_num, by simpa [sum3, cat3] using hown3, hB3⟩
            case measure => simp [intOf]
          | 1, _ =>
            go_wp2_with (at_builtin; refine append_items rfl _ _ rfl w.heap.size _ _ x rfl hrow a2 n2 c2 y rfl HL.out.2.1 HZ.out.2.1 (HX.out.2.1.keep hB2) (by simp [sum3]; omega) hB2s ?_; intro v' w3 hown3 hgrow3)
            have hB3 := hB2.grown hgrow3 hB2s (own_ge hrow)
            go_roundw
            case rel => exact ⟨2, by omega, by go_num, by simpa [sum3, cat3] using hown3, hB3⟩
            case measure => simp [intOf]
          | 2, _ =>
            go_wp2_with (at_builtin; refine append_items rfl _ _ rfl w.heap.size _ _ (x ++ y) rfl hrow a3 n3 c3 z rfl HL.out.2.2 HZ.out.2.2 (HX.out.2.2.keep hB2) (by simp [sum3]; omega) hB2s ?_; intro v' w3 hown3 hgrow3)
            have hB3 := hB2.grown hgrow3 hB2s (own_ge hrow)
            go_roundw
            case rel => exact ⟨3, by omega, by go_num, by simpa [sum3, cat3] using hown3, hB3⟩
            case measure => simp [intOf]
        · have e3 : k = 3 := by omega
          subst e3
          go_wp2_with fail
          go_ret
          exact ⟨_, rfl, hrow, hB2⟩
end Go.Proofs.Ythhkpgnjpieckaa
