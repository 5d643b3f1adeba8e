/- The walk of the law RouteTells. -/
import Derived.Deep.RegionHeld3
import Derived.Deep.DeepCutAuto
import Derived.Test.YthhkpgnjpieckaaSk
import Derived.Test.YthhkpgnjpieckaaHk
namespace Go.Proofs.Ythhkpgnjpieckaa
set_option linter.unusedVariables false
set_option maxRecDepth 100000
open Go.RowKit Go.Maps

theorem below_undrewN {wr W : World} (h : Below wr.drew.heap.size wr.drew W) : Below wr.heap.size wr W := ⟨h.os, h.tape, h.output, h.size, h.block⟩

set_option maxRecDepth 100000 in
set_option maxHeartbeats 1000000 in
theorem walk_RouteTells (p : PlanD) (a1 a2 a3 : Option Addr) (n1 c1 n2 c2 n3 c3 : Nat) (v : Int) (key : ByteArray) (w : World) (hp : PlanAt w a1 a2 a3 n1 n2 n3 p) :
    Calls Try.prog 9 #[.agg #[.slice a1 n1 c1, .slice a2 n2 c2, .slice a3 n3 c3], .int .i64 v, .string key] w fun e w' => e = .returned (.bool true) ∧ Below w.heap.size w w' := by
  obtain ⟨W1, hW1, hBw, hs1, hbx⟩ := plan_boxed w (.slice a1 n1 c1) (.slice a2 n2 c2) (.slice a3 n3 c3) 40
  have HP1 : Hid (PlanAt W1 a1 a2 a3 n1 n2 n3 p) := hp.keep hBw
  have BX := hidIt hbx
  have s0 := hBw.size
  have HW1 := hidIt hW1
  clear hp hbx hs1 hW1
  go_enter Try.func9, Try.ntmps9
  go_wp2_with fail
  rw [← HW1.out]
  refine (posts_any p _ _ _ _ _ _ _ _ _ v key _ HP1.out).mono ?_
  rintro e w2 ⟨xs, ax, cx, rfl, hx1, hx2, hx3, hx4, hB2⟩
  obtain ⟨d, hd⟩ : ∃ d, d = rtE p v key := ⟨_, rfl⟩
  rw [← hd] at hx1 hx2 ⊢
  have HD := hidIt hd
  have HX := hidIt (And.intro hx1 (And.intro hx2 (And.intro hx3 hx4)))
  obtain ⟨d0, d1, d2⟩ := BX.out w2 hB2
  clear hx1 hx2 hx3 hx4 hd
  go_wp2_with fail
  refine (queues_any p _ _ _ _ _ _ _ _ _ v key _ (HP1.out.keep hB2)).mono ?_
  rintro e w3 ⟨ys, ay, cy, rfl, hx1, hx2, hx3, hx4, hB3⟩
  rw [← HD.out] at hx1 hx2 ⊢
  have HY := hidIt (And.intro hx1 (And.intro hx2 (And.intro hx3 hx4)))
  have k3 : Below W1.heap.size W1 w3 := hB2.trans (hB3.mono hB2.size)
  have HB3 := hidIt hB3
  clear d0 d1 d2 hx1 hx2 hx3 hx4 hB3 hB2
  obtain ⟨d0, d1, d2⟩ := BX.out w3 k3
  go_wp2_with fail
  refine (routeError_any p _ _ _ _ _ _ _ _ _ v key _ (HP1.out.keep k3)).mono ?_
  rintro e w4 ⟨rfl, hB4⟩
  rw [← HD.out]
  have k4 : Below W1.heap.size W1 w4 := k3.trans (hB4.mono k3.size)
  have HXI : Hid (IntsAt w4 ax xs) := (HX.out.2.2.2.keep HB3.out).keep hB4
  have HYI : Hid (IntsAt w4 ay ys) := HY.out.2.2.2.keep hB4
  have END : Hid (∀ W, Below w4.heap.size w4 W → Below w.heap.size w W) := fun W hW => hBw.trans ((k4.trans (hW.mono k4.size)).mono s0)
  clear d0 d1 d2 hB4 k3
  by_cases h0 : d = 0
  · obtain ⟨z1, z2, z3, z4⟩ := rt_zero (HD.out.symm.trans h0)
    have HR : Hid (RightP p) := chk_right z1
    obtain ⟨x, rfl⟩ := Int.eq_ofNat_of_zero_le z3
    have HVN : Hid (x < n1) := by have := HP1.out.l1; show x < n1; omega
    have HKS : Hid (key.size ≤ 24) := by have := (werr_zero z2).1; show key.size ≤ 24; simpa using this
    have HPX : Hid (PostsIs p key x xs) := HX.out.1 h0
    have HQY : Hid (QueuesIs p key x ys) := HY.out.1 h0
    subst h0
    obtain ⟨mx, hmx⟩ : ∃ mx, mx = xs.length := ⟨_, rfl⟩
    obtain ⟨my, hmy⟩ : ∃ my, my = ys.length := ⟨_, rfl⟩
    rw [← hmx, ← hmy]
    have HMX := hidIt hmx
    have HMY := hidIt hmy
    have hx12 : mx ≤ 12 := by rw [hmx]; exact HX.out.2.2.1
    have hy12 : my ≤ 12 := by rw [hmy]; exact HY.out.2.2.1
    clear hmx hmy z1 z2 z3 z4
    go_upto_region 6 with fail
    go_cut [12, 13] (fun s12 s13 wx => ∃ a c a' c', s12 = .slice a mx c ∧ s13 = .slice a' my c' ∧ IntsAt wx a xs ∧ IntsAt wx a' ys ∧ Below w4.heap.size w4 wx)
    case first =>
      have SS : Hid (∀ W, Below w4.heap.size w4 W → W.cell? ⟨w.heap.size, 0, none⟩ = some (.slice a1 n1 c1) ∧ W.cell? ⟨w.heap.size, 1, none⟩ = some (.slice a2 n2 c2) ∧ W.cell? ⟨w.heap.size, 2, none⟩ = some (.slice a3 n3 c3)) := fun W hW => BX.out W (k4.trans (hW.mono k4.size))
      refine wp_region_held_drew (S := fun w' => w'.cell? ⟨w.heap.size, 0, none⟩ = some (.slice a1 n1 c1) ∧ w'.cell? ⟨w.heap.size, 1, none⟩ = some (.slice a2 n2 c2) ∧ w'.cell? ⟨w.heap.size, 2, none⟩ = some (.slice a3 n3 c3)) (by kernel_rfl) (SS.out _ (Below.refl _ _).drew) (fun hHeld => ?_)
      obtain ⟨w5, hw5⟩ : ∃ w5, w5 = w4.drew := ⟨_, rfl⟩
      have KK : Hid (∀ W, Below w5.heap.size w5 W → Below w4.heap.size w4 W) := fun W hW => by rw [hw5] at hW; exact below_undrewN hW
      rw [← hw5] at hHeld ⊢
      clear hw5
      refine tk 0 ?_
      refine tk 1 ?_
      refine tk 2 ?_
      refine tk 4 ?_
      refine tk 5 ?_
      refine tk 6 ?_
      refine wpAnyH_ready (rs := [3]) (by kernel_rfl) (by simp) ?_
      refine AllReadyH.cons rfl (fun K hK => ?_) AllReadyH.nil
      · go_simp
        refine (postsOf_any p _ _ _ _ _ _ _ _ _ x key _ (HP1.out.keep (k4.trans ((KK.out _ (Below.refl _ _)).mono k4.size))) HR.out HVN.out HKS.out).mono ?_
        rintro e w6 ⟨zs, az, cz, rfl, hz1, hz2, hz3, hB6⟩
        obtain rfl := hz1.uniq HPX.out
        have HZ3 := hidIt hz3
        rw [← HMX.out]
        refine hK.out _ _ (SS.out _ (KK.out _ hB6)) (fun hH6 => ?_)
        clear hK K hz1 hz3
        (try simp only [Act.put, List.getElem_toArray, List.getElem_cons_succ, List.getElem_cons_zero, List.setIfInBounds_toArray, List.set_cons_zero, List.set_cons_succ])
        refine wpAnyH_ready (rs := [7]) (by kernel_rfl) (by simp) ?_
        refine AllReadyH.cons rfl (fun K hK => ?_) AllReadyH.nil
        go_simp
        refine (queuesOf_any p _ _ _ _ _ _ _ _ _ x key _ (HP1.out.keep (k4.trans ((KK.out _ hB6).mono k4.size))) HR.out HVN.out HKS.out).mono ?_
        rintro e w7 ⟨us, au, cu, rfl, hu1, hu2, hu3, hB7⟩
        obtain rfl := hu1.uniq HQY.out
        have HU3 := hidIt hu3
        rw [← HMY.out]
        have HB7 := hidIt (And.intro hB7 (KK.out _ (hB6.trans (hB7.mono hB6.size))))
        refine hK.out _ _ (SS.out _ HB7.out.2) (fun hH7 => ?_)
        clear hK K hu1 hu3
        (try simp only [Act.put, List.getElem_toArray, List.getElem_cons_succ, List.getElem_cons_zero, List.setIfInBounds_toArray, List.set_cons_zero, List.set_cons_succ])
        refine tk 8 ?_
        refine tk 9 ?_
        refine wpAnyH_done (by kernel_rfl) ?_ _
        go_wp2_with fail
        go_meet
        case rel => exact ⟨az, cz, au, cu, rfl, rfl, HZ3.out.keep HB7.out.1, HU3.out, HB7.out.2⟩
    case rest =>
      obtain ⟨a, c, a', c', rfl, rfl, hI, hJ, hBc⟩ := hcut
      have HI := hidIt (And.intro hI (And.intro hJ hBc))
      clear hI hJ
      go_wp2_with fail
      refine (routeBegun_any _).mono ?_
      rintro e w5 ⟨rfl, hB5⟩
      have k5 := hBc.trans (hB5.mono hBc.size)
      have HK5 := hidIt (And.intro hB5 k5)
      clear hB5 k5
      go_wp2_with fail
      refine (same_ints xs _ _ _ _ _ _ HMX.out.symm (by omega) (HXI.out.keep HK5.out.2) (HI.out.1.keep HK5.out.1)).mono ?_
      rintro e w6 ⟨rfl, hB6⟩
      have HK6 := hidIt (And.intro (HK5.out.1.trans (hB6.mono HK5.out.1.size)) (HK5.out.2.trans (hB6.mono HK5.out.2.size)))
      clear hB6
      go_wp2_with fail
      refine (same_ints ys _ _ _ _ _ _ HMY.out.symm (by omega) (HYI.out.keep HK6.out.2) (HI.out.2.1.keep HK6.out.1)).mono ?_
      rintro e w7 ⟨rfl, hB7⟩
      have HK7 := hidIt (HK6.out.2.trans (hB7.mono HK6.out.2.size))
      go_wp2_with fail
      go_ret
      exact ⟨rfl, END.out _ HK7.out⟩
  · have ex := HX.out.2.1 h0
    have ey := HY.out.2.1 h0
    have h0' : (d == 0) = false := by simpa using h0
    have hdd : (d == d) = true := by simp
    subst ex ey
    clear HX HY h0
    go_wp2_with fail
    refine (routeBegun_any _).mono ?_
    rintro e w5 ⟨rfl, hB5⟩
    have HK5 := hidIt hB5
    clear hB5
    go_wp2_with fail
    refine (same_ints [] _ _ _ _ _ _ rfl (by simp) (.inl rfl) (.inl rfl)).mono ?_
    rintro e w6 ⟨rfl, hB6⟩
    have HK6 := hidIt (HK5.out.trans (hB6.mono HK5.out.size))
    clear hB6
    go_wp2_with fail
    refine (same_ints [] _ _ _ _ _ _ rfl (by simp) (.inl rfl) (.inl rfl)).mono ?_
    rintro e w7 ⟨rfl, hB7⟩
    have HK7 := hidIt (HK6.out.trans (hB7.mono HK6.out.size))
    go_wp2_with fail
    go_ret
    exact ⟨rfl, END.out _ HK7.out⟩
end Go.Proofs.Ythhkpgnjpieckaa
