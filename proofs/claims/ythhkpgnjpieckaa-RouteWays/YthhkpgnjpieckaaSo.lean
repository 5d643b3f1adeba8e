/- mailcoachref.WayOf. -/
import Derived.Test.YthhkpgnjpieckaaSm
namespace Go.Proofs.Ythhkpgnjpieckaa
set_option linter.unusedVariables false
set_option maxRecDepth 100000
open Go.RowKit Go.Maps

theorem inR_num2 (n : Int) (m : Nat) : inR n 0 ((m : Int) - 1) = isNum n m := inR_num n m

set_option maxRecDepth 100000 in
set_option maxHeartbeats 1000000 in
theorem wayOf_any (p : PlanD) (a1 a2 a3 : Option Addr) (n1 c1 n2 c2 n3 c3 : Nat) (v : Int) (key : ByteArray) (q : Int) (ns : List Nat) (is : Bool) (w : World) (hp : PlanAt w a1 a2 a3 n1 n2 n3 p)
    (h1 : is = true → wayE p v key q = 0 ∧ WayIs p key v.toNat q ns) (h2 : is = false → ns = [] ∧ (wayE p v key q = 0 → ∀ t, ¬ Way (arcOf p key) (finOf p key q) v.toNat t)) :
    Calls Try.prog 41 #[.agg #[.slice a1 n1 c1, .slice a2 n2 c2, .slice a3 n3 c3], .int .i64 v, .string key, .int .i64 q] w fun e w' => ∃ u, e = .returned (.tuple #[u, .bool is, .int .i64 (wayE p v key q)]) ∧ w'.ownsRow w.heap.size 3 1 u ns.length (natV ns) ∧ Below w.heap.size w w' := by
  obtain ⟨W1, hW1, hBw, hs1, hbx⟩ := plan_boxed w (.slice a1 n1 c1) (.slice a2 n2 c2) (.slice a3 n3 c3) 40
  have HP1 : Hid (PlanAt W1 a1 a2 a3 n1 n2 n3 p) := hp.keep hBw
  have BX := hidIt hbx
  have s0 := hBw.size
  have HW1 := hidIt hW1
  have HIS := hidIt (And.intro h1 h2)
  have HQ2 : Hid (p.queues.length = n2) := hp.l2
  obtain ⟨d, hd⟩ : ∃ d, d = rtE p v key := ⟨_, rfl⟩
  obtain ⟨g, hg⟩ : ∃ g, g = wayE p v key q := ⟨_, rfl⟩
  rw [← hg] at HIS ⊢
  have HD := hidIt hd
  have HG := hidIt hg
  clear hp hbx hs1 hW1 h1 h2 hd hg
  go_enter Try.func41, Try.ntmps41
  go_wp2_with fail
  rw [← HW1.out]
  refine (routeError_any p _ _ _ _ _ _ _ _ _ v key _ HP1.out).mono ?_
  rintro e w2 ⟨rfl, hB2⟩
  rw [← HD.out]
  obtain ⟨d0, d1, d2⟩ := BX.out w2 hB2
  have HB2 := hidIt hB2
  have s2 := hB2.size
  by_cases h0 : d = 0
  · have HRT : Hid (rtE p v key = 0) := HD.out.symm.trans h0
    have HGE : Hid (g = if isNum q n2 = true then 0 else 5) := by show g = _; rw [HG.out]; unfold wayE; rw [if_pos HRT.out, HQ2.out]
    subst h0
    have hn2 : n2 ≤ 4 := by have := (chk_right (rt_zero HRT.out).1).few.2.1; rw [HQ2.out] at this; exact this
    have hn21 : IntKind.i64.wrap ((n2 : Int) - 1) = (n2 : Int) - 1 := by rw [IntKind.wrap_i64]; omega
    obtain ⟨iq, hiq⟩ : ∃ iq, iq = isNum q n2 := ⟨_, rfl⟩
    rw [← hiq] at HGE
    have HIQ := hidIt hiq
    clear hiq
    cases iq with
    | false =>
      have hg5 : g = 5 := HGE.out
      subst hg5
      have hisf : is = false := by
        cases is with
        | false => rfl
        | true => exact absurd (HIS.out.1 rfl).1 (by decide)
      subst hisf
      have HNS := hidIt (HIS.out.2 rfl).1
      go_wp2_with (go_at_call 74; refine (within_any _ _ _ _).mono ?_; rintro e w3 ⟨rfl, rfl⟩; rw [inR_num2, ← HIQ.out])
      rw [HNS.out]
      exact bodyPost_ret (v := .tuple #[.slice none 0 0, .bool false, .int .i64 5]) (by simp [results, Try.results41, go_sem]) rfl ⟨_, rfl, World.ownsRow_nil _ _ _ _, hBw.trans (HB2.out.mono s0)⟩
    | true =>
      have hg0 : g = 0 := HGE.out
      subst hg0
      obtain ⟨z1, z2, z3, z4⟩ := rt_zero HRT.out
      have HR : Hid (RightP p) := chk_right z1
      obtain ⟨x, rfl⟩ := Int.eq_ofNat_of_zero_le z3
      have HL1 : Hid (p.posts.length = n1) := HP1.out.l1
      have hn1 : n1 ≤ 4 := by have := HR.out.few.1; rw [HL1.out] at this; exact this
      have HKS : Hid (key.size ≤ 24) := by have := (werr_zero z2).1; show key.size ≤ 24; simpa using this
      have HYES : Hid (is = true → 0 < ns.length ∧ ns.length ≤ n1 ∧ (∀ n, n < ns.length → wayF p key q n (x : Int) = none) ∧ wayF p key q ns.length (x : Int) = some ns) := fun h => by
        have hw := (HIS.out.1 h).2
        have := wayF_is HR.out hw
        exact ⟨this.1, by have := hw.few; rw [HL1.out] at this; exact this, this.2⟩
      have HNOT : Hid (is = false → ns = [] ∧ ∀ n, wayF p key q n (x : Int) = none) := fun h => ⟨(HIS.out.2 h).1, fun n => wayF_no HR.out ((HIS.out.2 h).2 rfl) n⟩
      clear z1 z2 z3 z4 HIS
      go_wp2_with (go_at_call 74; refine (within_any _ _ _ _).mono ?_; rintro e w3 ⟨rfl, rfl⟩; rw [inR_num2, ← HIQ.out])
      rename_i w3
      go_loopw [12, 13, 14] (fun i _ _ wr => ∃ (n : Nat), 1 ≤ n ∧ n ≤ n1 + 1 ∧ i = .int .i64 n ∧ (is = true → n ≤ ns.length) ∧ Below W1.heap.size W1 wr) (fun i _ _ _ => n1 + 1 - (intOf i).toNat)
      case atStart => exact ⟨1, Nat.le_refl _, by omega, rfl, fun h => (HYES.out h).1, HB2.out⟩
      case round =>
        obtain ⟨n, hn1', hn2', rfl, hle, hB⟩ := hrel
        have HLE := hidIt hle
        clear d0 d1 d2 hle
        obtain ⟨d0, d1, d2⟩ := BX.out wr hB
        have HB := hidIt hB
        have sB := hB.size
        by_cases hlt : n ≤ n1
        · have HLT := hidIt hlt
          have i1 : (n : Int) ≤ n1 := by omega
          go_wp2_with fail
          refine (wayBy_any p _ _ _ _ _ _ _ _ _ key q HR.out HKS.out n (by omega) (x : Int) _ (HP1.out.keep hB)).mono ?_
          rintro e w4 ⟨u, rfl, hu, hB4⟩
          have HB4 := hidIt (hB.trans (hB4.mono sB))
          clear hB4 d0 d1 d2
          have HSTEP : Hid (wayF p key q n (x : Int) = none → is = true → n + 1 ≤ ns.length) := fun h e => by
            have h1 := HLE.out e
            by_cases h2 : n = ns.length
            · rw [h2, (HYES.out e).2.2.2] at h; cases h
            · omega
          have HSOME : Hid (∀ s, wayF p key q n (x : Int) = some s → is = true ∧ s = ns) := fun s h => by
            cases his : is with
            | false => rw [(HNOT.out his).2 n] at h; cases h
            | true =>
              by_cases h2 : n = ns.length
              · rw [h2, (HYES.out his).2.2.2] at h; cases h; exact ⟨rfl, rfl⟩
              · have := HLE.out his
                rw [(HYES.out his).2.2.1 n (by omega)] at h; cases h
          cases hw : wayF p key q n (x : Int) with
          | none =>
            have HW := hidIt hw
            clear hw hu
            go_wp2_with fail
            go_roundw
            case rel => exact ⟨n + 1, by omega, by have := HLT.out; omega, by go_num, HSTEP.out HW.out, HB4.out⟩
            case measure => have := HLT.out; simp [intOf]; omega
          | some s =>
            obtain ⟨rfl, rfl⟩ := HSOME.out s hw
            rw [hw] at hu
            have HU : Hid (w4.ownsRow wr.heap.size 3 1 u s.length (natV s)) := hu
            clear hw hu
            go_wp2_with fail
            exact bodyPost_ret (v := .tuple #[u, .bool true, .int .i64 0]) (by simp [results, Try.results41, go_sem]) rfl ⟨_, rfl, own_base' HU.out (by omega), hBw.trans (HB4.out.mono s0)⟩
        · have hne : n = n1 + 1 := by omega
          subst hne
          have hisf : is = false := by
            cases his : is with
            | false => rfl
            | true => have h1 := HLE.out his; have h2 := (HYES.out his).2.1; omega
          subst hisf
          have HNS := hidIt (HNOT.out rfl).1
          have i1 : ¬ ((n1 : Int) + 1 ≤ n1) := by omega
          go_wp2_with fail
          rw [HNS.out]
          exact bodyPost_ret (v := .tuple #[.slice none 0 0, .bool false, .int .i64 0]) (by simp [results, Try.results41, go_sem]) rfl ⟨_, rfl, World.ownsRow_nil _ _ _ _, hBw.trans (HB.out.mono s0)⟩
  · have h0' : (d != 0) = true := bne_iff_ne.2 h0
    have hgd : g = d := by rw [HG.out]; unfold wayE; rw [if_neg (fun h => h0 (HD.out.trans h)), ← HD.out]
    subst hgd
    have hisf : is = false := by
      cases is with
      | false => rfl
      | true => exact absurd (HIS.out.1 rfl).1 h0
    subst hisf
    have HNS := hidIt (HIS.out.2 rfl).1
    clear h0
    go_wp2_with fail
    rw [HNS.out]
    exact bodyPost_ret (v := .tuple #[.slice none 0 0, .bool false, .int .i64 g]) (by simp [results, Try.results41, go_sem]) rfl ⟨_, rfl, World.ownsRow_nil _ _ _ _, hBw.trans (HB2.out.mono s0)⟩
end Go.Proofs.Ythhkpgnjpieckaa
