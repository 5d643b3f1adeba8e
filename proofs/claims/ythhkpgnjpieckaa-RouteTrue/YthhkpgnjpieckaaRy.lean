/- route.trail. -/
import Derived.Maps.OwnOps
import Derived.Test.YthhkpgnjpieckaaRx
namespace Go.Proofs.Ythhkpgnjpieckaa
set_option linter.unusedVariables false
set_option maxRecDepth 100000
open Go.RowKit Go.Maps

def natV (l : List Nat) : List Value := l.map (fun n => .int .i64 (n : Nat))
def lenV : Value → Nat | .slice _ n _ => n | _ => 0
theorem natV_ints (l : List Nat) : natV l = (l.map (fun n : Nat => (n : Int))).map (Value.int .i64) := by simp [natV]

set_option maxHeartbeats 400000 in
theorem reverse_none (a : Option Addr) (c : Nat) (w : World) : Calls Try.prog 117 #[.slice a 0 c] w fun e w' => (∃ v, e = .returned v) ∧ w' = w := by
  go_enter Try.func117, Try.ntmps117
  go_wp2
  go_loopw [2, 3] (fun i j wr => i = .int .i64 0 ∧ j = .int .i64 (-1) ∧ wr = w) (fun _ _ _ => 0)
  case atStart => exact ⟨rfl, rfl, rfl⟩
  case round =>
    obtain ⟨rfl, rfl, rfl⟩ := hrel
    go_wp2
    go_end0
    exact ⟨⟨_, rfl⟩, rfl⟩

theorem own_ints {W : World} {base : Nat} {u : Value} {zs : List Int} {n : Nat} (h : W.ownsRow base 3 1 u n (zs.map (Value.int .i64))) (hne : zs ≠ []) : ∃ g c, u = .slice (some ⟨g, 0, none⟩) zs.length c ∧ OwnInts W base g c zs := by
  have hn : n = zs.length := by have := h.1; simp at this; omega
  subst hn
  rcases h.2 with ⟨rfl, h0⟩ | ⟨g, cap, cur, rfl, hr⟩
  · exact absurd (List.length_eq_zero_iff.1 h0) hne
  · exact ⟨g, cap, rfl, h⟩
theorem natV_snoc (l : List Nat) (m : Nat) : natV (m :: l).reverse = natV l.reverse ++ [.int .i64 (m : Nat)] := by simp [natV]

/-- The post ahead of a post's last bind. -/
theorem trail_prev {p : PlanD} {key : ByteArray} {r : Nat} {L : Trails} {i n v m : Nat} {s : List Nat} (hc : Came (arcOf p key) r L i n) (hx : (v, s ++ [m]) ∈ L) : ∃ u, (u, s) ∈ L ∧ m < p.binds.length ∧ (bAt p m).src.toNat = u := by
  rcases hc.prev _ hx with e | ⟨y, hy, m', e⟩
  · simp at e
  · have h1 := List.append_inj' e rfl
    simp at h1
    obtain ⟨h1, h2⟩ := h1
    subst h2
    obtain ⟨u, hp, ha⟩ := (hc.path _ hx).inv_snoc
    have hu : u = y.1 := Path_end hp (by rw [h1]; exact hc.path _ hy)
    unfold arcOf at ha
    split at ha
    · rename_i hh
      simp at ha
      refine ⟨y.1, by rw [h1]; exact hy, hh.1, by omega⟩
    · cases ha

set_option maxRecDepth 100000 in
set_option maxHeartbeats 2000000 in
theorem trail_any (p : PlanD) (a1 a2 a3 : Option Addr) (n1 c1 n2 c2 n3 c3 : Nat) (v : Nat) (t : List Nat) (key : ByteArray) (L : Trails) (r i n b : Nat) (w : World) (hp : PlanAt w a1 a2 a3 n1 n2 n3 p) (hr : RightP p) (hc : Came (arcOf p key) r L i n) (hx : (v, t) ∈ L)
    (hm : w.ownsMap Try.prog 3 (plainElem (H := Unit) Try.prog 3) b L.length (byD L)) (hb : b < w.heap.size) (hL : L.length ≤ 4) (hL1 : ∀ x ∈ L, x.1 < 4) :
    Calls Try.prog 83 #[.agg #[.slice a1 n1 c1, .slice a2 n2 c2, .slice a3 n3 c3], .int .i64 (v : Nat), .map (some b)] w fun e w' => ∃ u, e = .returned u ∧ w'.ownsRow w.heap.size 3 1 u t.length (natV t) ∧ Below w.heap.size w w' := by
  obtain ⟨W1, hW1, hBw, hs1, hbx⟩ := plan_boxed w (.slice a1 n1 c1) (.slice a2 n2 c2) (.slice a3 n3 c3) 40
  have HW1 : Hid (W1 = _) := hW1
  have HP1 : Hid (PlanAt W1 a1 a2 a3 n1 n2 n3 p) := hp.keep hBw
  have BX : Hid (∀ W, Below W1.heap.size W1 W → W.cell? ⟨w.heap.size, 0, none⟩ = some (.slice a1 n1 c1) ∧ W.cell? ⟨w.heap.size, 1, none⟩ = some (.slice a2 n2 c2) ∧ W.cell? ⟨w.heap.size, 2, none⟩ = some (.slice a3 n3 c3)) := hbx
  have s1 := hBw.size
  have hl3 := hp.l3
  have h10 : n3 ≤ 10 := by have := hr.few.2.2; omega
  have HM : Hid (∀ W, Below W1.heap.size W1 W → W.ownsMap Try.prog 3 (plainElem (H := Unit) Try.prog 3) b L.length (byD L)) := fun W hW => by
    obtain ⟨es, cl, e1, e2⟩ := hm
    exact ⟨es, cl, (hW.block b (by omega)).trans ((hBw.block b hb).trans e1), e2⟩
  have HAT : Hid (∀ x s, (x, s) ∈ L → ∀ c : Int, (byD L).atKey (.int .i64 (x : Nat)) (.lit (.int .i64 0)) = .lit (.int .i64 c) → c = lastBy s) := fun x s hxs c e => by
    have := byD_at L hc.once (x, s) hxs (.lit (.int .i64 0))
    rw [this] at e; simp at e; exact e.symm
  have HKEY : Hid (∀ x s, (x, s) ∈ L → keyOf Try.prog 3 (.int .i64 (x : Nat)) = some (.int .i64 (x : Nat))) := fun x s hxs => keyOf_int_mk Try.underlying3 (wf_nat (by have := hL1 _ hxs; omega))
  have HPREV : Hid (∀ y m s, (y, s ++ [m]) ∈ L → ∃ u, (u, s) ∈ L ∧ m < n3 ∧ (bAt p m).src = ((u : Nat) : Int)) := fun y m s hys => by
    obtain ⟨u, h1, h2, h3⟩ := trail_prev hc hys
    have hs : 0 ≤ (bAt p m).src := by rw [bAt_get h2]; exact (hr.src _ (List.getElem_mem h2)).1
    exact ⟨u, h1, by omega, by omega⟩
  have ht4 : t.length ≤ 4 := by
    obtain ⟨j, hj, e⟩ := mem_get hx
    have := hc.short (j + 1) j hj (by omega)
    rw [e] at this; dsimp only at this; omega
  have HXT : Hid ((v, t) ∈ L) := hx
  have hkv := HKEY.out v t hx
  have HL3 : Hid (p.binds.length = n3) := hl3
  obtain ⟨i0, hi0, hz0, hz1, hz2⟩ := info_parts Try.infoInt
  have hm1 := HM.out W1 (Below.refl _ _)
  clear hW1 hp hbx hs1 hm hc hx hr hl3 hL1
  go_enter Try.func83, Try.ntmps83
  obtain ⟨c0, hrun0, hat0, _⟩ := hm1.lookup_int key3 Try.underlying104 Try.underlying3 (zero3 _) hkv
  have hc0 := HAT.out v t HXT.out c0 hat0
  subst hc0
  have HRUN := hidIt hrun0
  clear hrun0 hat0 hm1 hkv
  go_wp2_with fail
  rw [← HW1.out, HRUN.out]
  go_wp2_with fail
  go_loopw [7, 8] (fun lv nv wr => ∃ (s rest : List Nat) (cur : Nat), t = s ++ rest ∧ (cur, s) ∈ L ∧ nv = .int .i64 (lastBy s) ∧ lenV lv = rest.length ∧ wr.ownsRow W1.heap.size 3 1 lv rest.length (natV rest.reverse) ∧ Below W1.heap.size W1 wr) (fun lv _ _ => 10 - lenV lv)
  case atStart => exact ⟨t, [], v, by simp, HXT.out, rfl, rfl, World.ownsRow_nil _ _ _ _, Below.refl _ _⟩
  case round =>
    obtain ⟨s, rest, cur, hts, hcs, rfl, hlv, hrow, hB⟩ := hrel
    have HTS : Hid (t = s ++ rest) := hts
    have hrl : s.length + rest.length ≤ 4 := by rw [hts, List.length_append] at ht4; exact ht4
    have hBs := hB.size
    rcases List.eq_nil_or_concat s with rfl | ⟨s', m, hsm⟩
    · have HR : Hid (rest = t) := by show rest = t; rw [hts]; rfl
      clear hts hcs
      have hl1 : lastBy [] = -1 := rfl
      rw [hl1]
      rcases rest with _ | ⟨q, rest'⟩
      · obtain ⟨au, cu, rfl⟩ : ∃ au cu, u7 = .slice au 0 cu := by
          rcases hrow.2 with ⟨rfl, _⟩ | ⟨g, cap, cur, rfl, _⟩
          · exact ⟨none, 0, rfl⟩
          · exact ⟨_, cap, rfl⟩
        go_wp2_with fail
        refine (reverse_none _ _ _).mono ?_
        rintro e w3 ⟨⟨q, rfl⟩, rfl⟩
        go_wp2_with fail
        go_ret
        exact ⟨_, rfl, by rw [← HR.out]; exact own_base' hrow (by omega), hBw.trans (hB.mono s1)⟩
      · have hne : ((q :: rest').reverse.map (fun n : Nat => (n : Int))) ≠ [] := by simp
        rw [natV_ints] at hrow
        obtain ⟨g, cg, rfl, hoi⟩ := own_ints hrow hne
        obtain ⟨zs, hzs⟩ : ∃ zs, zs = (q :: rest').reverse.map (fun n : Nat => (n : Int)) := ⟨_, rfl⟩
        rw [← hzs] at hoi ⊢
        have HZ : Hid (zs.reverse.map (Value.int .i64) = natV t ∧ zs.length = t.length) := by
          refine ⟨?_, ?_⟩
          · rw [hzs, ← HR.out, natV_ints]; simp
          · rw [hzs, ← HR.out]; simp
        have hzl : zs.length ≤ 1000 := by have := HZ.out.2; omega
        clear hrow hzs hne hlv hrl
        go_wp2_with fail
        refine (reverse_any zs _ g cg _ _ rfl hzl hoi).mono ?_
        rintro e w3 ⟨⟨q2, rfl⟩, hoi3, ht3⟩
        go_wp2_with fail
        go_ret
        have hge := hoi.parts.1
        refine ⟨_, rfl, ?_, hBw.trans ((hB.trans (ht3.below hB.size (fun k e => by rw [e]; exact hge))).mono s1)⟩
        have h3 : w3.ownsRow W1.heap.size 3 1 (.slice (some ⟨g, 0, none⟩) zs.reverse.length cg) zs.reverse.length (zs.reverse.map (Value.int .i64)) := hoi3
        rw [HZ.out.1, List.length_reverse] at h3
        rw [← HZ.out.2]
        exact own_base' h3 (by omega)
    · have hsm' : s = s' ++ [m] := by rw [hsm]; simp
      subst hsm'
      obtain ⟨y, hys, hm3, hsrc⟩ := HPREV.out cur m s' hcs
      have hl1 : lastBy (s' ++ [m]) = (m : Int) := lastBy_snoc s' m
      rw [hl1]
      have hne1 : ((m : Int) != -1) = true := by rw [bne_iff_ne]; omega
      have HYS := hidIt hys
      have hky := HKEY.out y s' hys
      have HT2 : Hid (t = s' ++ (m :: rest)) := by show t = _; rw [hts]; simp
      have hml : m < p.binds.length := by have := HL3.out; omega
      obtain ⟨g3, o3, ha3, hg3, hx3⟩ := HP1.out.p3.cells (by omega)
      subst ha3
      have z1 := (hx3 m hml).1
      rw [← bAt_get hml, hsrc] at z1
      have j1 : (0 : Int) ≤ (m : Int) := by omega
      have j2 : (m : Int) < n3 := by omega
      have hr3 : rest.length ≤ 4 := by omega
      rw [List.length_append] at hrl
      simp only [List.length_cons, List.length_nil] at hrl
      clear hts hcs hsm hl1 hx3 hsrc hys
      go_wp2_with (first
        | (at_builtin; refine wpList_append_own _ rfl _ _ 45 rfl W1.heap.size 3 i0 (.int .i64 0) 1 8 Try.underlying45 hi0 hz0 hz1 hz2 rfl (by decide) _ _ _ rfl (hrow.alloc _) ⟨wr.heap.size, 0, none⟩ 1 1 [.int .i64 (m : Nat)] rfl rfl (cell_one_new _ _ _) (by simp [Value.oneCell']) (by unfold maxLen; omega) (by omega) (by simp; omega) ?_; intro v' w3 hown' hgrow _; have hB3 : Below W1.heap.size W1 w3 := (hB.alloc hBs _).grown hgrow (by simp; omega) (own_ge hrow); obtain ⟨gn, capn, rfl⟩ := ownsRow_succ hown'; obtain ⟨d0, d1, d2⟩ := BX.out w3 hB3; have y1 := (hB3.cell (p := ⟨g3, _, none⟩) hg3).trans z1)
        | (at_lookup; refine wpList_lookup_own_int _ rfl _ _ 104 rfl 3 3 .i64 key3 Try.underlying104 Try.underlying3 (zero3 _) b _ _ rfl (HM.out w3 hB3) _ _ rfl hky ?_; intro c hat hwc; have hcl := HAT.out y s' HYS.out c hat; subst hcl; clear hat hwc))
      go_roundw
      case rel => exact ⟨s', m :: rest, y, HT2.out, HYS.out, rfl, rfl, by rw [natV_snoc]; exact hown', hB3⟩
      case measure => rw [hlv]; simp only [lenV]; omega
end Go.Proofs.Ythhkpgnjpieckaa
