/- plan.Fits, mailcoachref.fits, FitsOf. -/
import Derived.Test.YthhkpgnjpieckaaRc
namespace Go.Proofs.Ythhkpgnjpieckaa
set_option linter.unusedVariables false
set_option maxRecDepth 100000
open Go.RowKit

theorem patErr_zero : ∀ {xs : List BindD}, patErr xs = 0 → ∀ b ∈ xs, perr b.pat.data.toList = 0
  | [], _, b, hb => by simp at hb
  | x :: r, h, b, hb => by
    unfold patErr at h
    by_cases h0 : perr x.pat.data.toList = 0
    · rw [if_pos h0] at h
      rcases List.mem_cons.1 hb with rfl | hb
      · exact h0
      · exact patErr_zero h b hb
    · rw [if_neg h0] at h; exact absurd h h0

/-- What a right plan has. -/
structure RightP (p : PlanD) : Prop where
  few : p.posts.length ≤ 4 ∧ p.queues.length ≤ 4 ∧ p.binds.length ≤ 10
  kinds : ∀ x ∈ p.posts, x.kind = 1 ∨ x.kind = 2 ∨ x.kind = 3
  queues : ∀ x ∈ p.queues, 1 ≤ x.limit ∧ x.limit ≤ 6 ∧ -1 ≤ x.dead ∧ x.dead < p.posts.length
  src : ∀ b ∈ p.binds, 0 ≤ b.src ∧ b.src < p.posts.length
  dst : ∀ b ∈ p.binds, 0 ≤ b.dst ∧ b.dst < (if b.toPost then p.posts.length else p.queues.length : Nat)
  pat : ∀ b ∈ p.binds, perr b.pat.data.toList = 0

theorem chk_right {p : PlanD} (h : chkP p = 0) : RightP p := by
  unfold chkP at h
  by_cases q1 : 4 < p.posts.length ∨ 4 < p.queues.length ∨ 10 < p.binds.length
  · rw [if_pos q1] at h; cases h
  rw [if_neg q1] at h
  by_cases q2 : ((p.posts.map PostD.name).all (fun x => nameOk x.data.toList) && (p.queues.map QueueD.name).all (fun x => nameOk x.data.toList)) = false
  · rw [if_pos q2] at h; cases h
  rw [if_neg q2] at h
  by_cases q3 : (dupB (p.posts.map PostD.name) || dupB (p.queues.map QueueD.name)) = true
  · rw [if_pos q3] at h; cases h
  rw [if_neg q3] at h
  by_cases q4 : p.posts.all kindOk = false
  · rw [if_pos q4] at h; cases h
  rw [if_neg q4] at h
  by_cases q5 : (p.queues.all (qOk p.posts.length) && p.binds.all (bOk p.posts.length p.queues.length)) = false
  · rw [if_pos q5] at h; cases h
  rw [if_neg q5] at h
  simp only [Bool.not_eq_false, Bool.and_eq_true, List.all_eq_true] at q4 q5
  refine ⟨by omega, fun x hx => ?_, fun x hx => ?_, fun b hb => ?_, fun b hb => ?_, patErr_zero h⟩
  · have := q4 x hx; unfold kindOk inR at this; simp at this; omega
  · have := q5.1 x hx; unfold qOk inR at this; simp at this; omega
  · have := q5.2 b hb; unfold bOk isNum at this; simp at this; omega
  · have := q5.2 b hb; unfold bOk isNum at this; simp at this; exact this.2

/-- What Fits tells. -/
def fitP (p : PlanD) (i : Nat) (key : ByteArray) : Bool :=
  match p.binds[i]? with
  | none => false
  | some b => match p.posts[b.src.toNat]? with
    | none => false
    | some x => if x.kind = 1 then key.data.toList == b.pat.data.toList else if x.kind = 2 then true else fitL b.pat.data.toList key.data.toList
def fitE (p : PlanD) (n : Int) (key : ByteArray) : Int := if chkP p = 0 then (if isNum n p.binds.length = true then kerr key.data.toList else 5) else chkP p
def fitB (p : PlanD) (n : Int) (key : ByteArray) : Bool := if fitE p n key = 0 then fitP p n.toNat key else false

/-- The bind and its post. -/
theorem bind_at {p : PlanD} (h : RightP p) {i : Nat} (hi : i < p.binds.length) : ∃ j : Nat, ∃ hj : j < p.posts.length, p.binds[i].src = j ∧
    ((p.posts[j].kind = 1 ∧ ∀ key, fitP p i key = (key.data.toList == p.binds[i].pat.data.toList)) ∨ (p.posts[j].kind = 2 ∧ ∀ key, fitP p i key = true) ∨ (p.posts[j].kind = 3 ∧ ∀ key, fitP p i key = fitL p.binds[i].pat.data.toList key.data.toList)) := by
  obtain ⟨s1, s2⟩ := h.src _ (List.getElem_mem hi)
  obtain ⟨j, hj⟩ := Int.eq_ofNat_of_zero_le s1
  have hj' : j < p.posts.length := by omega
  refine ⟨j, hj', hj, ?_⟩
  have e : ∀ key, fitP p i key = if p.posts[j].kind = 1 then key.data.toList == p.binds[i].pat.data.toList else if p.posts[j].kind = 2 then true else fitL p.binds[i].pat.data.toList key.data.toList := by
    intro key
    unfold fitP
    rw [List.getElem?_eq_getElem hi]
    simp only
    rw [hj, Int.toNat_natCast, List.getElem?_eq_getElem hj']
  rcases h.kinds _ (List.getElem_mem hj') with k | k | k
  · exact .inl ⟨k, fun key => by rw [e, if_pos k]⟩
  · exact .inr (.inl ⟨k, fun key => by rw [e, if_neg (by omega), if_pos k]⟩)
  · exact .inr (.inr ⟨k, fun key => by rw [e, if_neg (by omega), if_neg (by omega)]⟩)

theorem beq_dec2 (a b : List UInt8) : (a == b) = decide (a = b) := by by_cases e : a = b <;> simp [e]
theorem inR_num (n : Int) (m : Nat) : inR n 0 (m - 1) = isNum n m := by unfold inR isNum; rw [Bool.eq_iff_iff]; simp; omega
theorem ret_bi {a b : Bool} {x y : Int} (h : a = b) (h2 : x = y) : Ending.returned (.tuple #[.bool a, .int .i64 x]) = .returned (.tuple #[.bool b, .int .i64 y]) := by rw [h, h2]

/-- A plan lies at three slices. -/
structure PlanAt (W : World) (a1 a2 a3 : Option Addr) (n1 n2 n3 : Nat) (p : PlanD) : Prop where
  l1 : p.posts.length = n1
  l2 : p.queues.length = n2
  l3 : p.binds.length = n3
  sz : Sized p
  p1 : PostsAt W a1 p.posts
  p2 : QueuesAt W a2 p.queues
  p3 : BindsAt W a3 p.binds
theorem PlanAt.keep {W W' : World} {a1 a2 a3 : Option Addr} {n1 n2 n3 : Nat} {p : PlanD} (h : PlanAt W a1 a2 a3 n1 n2 n3 p) (hB : Below W.heap.size W W') : PlanAt W' a1 a2 a3 n1 n2 n3 p :=
  ⟨h.l1, h.l2, h.l3, h.sz, h.p1.keep hB, h.p2.keep hB, h.p3.keep hB⟩

/-- The box that a call lays for its plan. -/
theorem plan_boxed (w : World) (v1 v2 v3 : Value) (t : TypeId) : ∃ W1, W1 = w.alloc (.cells #[v1, v2, v3] t) ∧ Below w.heap.size w W1 ∧ W1.heap.size = w.heap.size + 1 ∧
    ∀ W, Below W1.heap.size W1 W → W.cell? ⟨w.heap.size, 0, none⟩ = some v1 ∧ W.cell? ⟨w.heap.size, 1, none⟩ = some v2 ∧ W.cell? ⟨w.heap.size, 2, none⟩ = some v3 := by
  obtain ⟨b0, b1, b2⟩ := plan_box w v1 v2 v3 t
  have hs : (w.alloc (.cells #[v1, v2, v3] t)).heap.size = w.heap.size + 1 := by simp
  exact ⟨_, rfl, (Below.refl _ _).alloc (Nat.le_refl _) _, hs, fun W hW => ⟨(hW.cell (p := ⟨w.heap.size, 0, none⟩) (by show w.heap.size < _; omega)).trans b0, (hW.cell (p := ⟨w.heap.size, 1, none⟩) (by show w.heap.size < _; omega)).trans b1, (hW.cell (p := ⟨w.heap.size, 2, none⟩) (by show w.heap.size < _; omega)).trans b2⟩⟩

set_option maxRecDepth 100000 in
set_option maxHeartbeats 4000000 in
theorem fits_any (p : PlanD) (a1 a2 a3 : Option Addr) (n1 c1 n2 c2 n3 c3 : Nat) (n : Int) (key : ByteArray) (w : World) (hp : PlanAt w a1 a2 a3 n1 n2 n3 p) :
    Calls Try.prog 31 #[.agg #[.slice a1 n1 c1, .slice a2 n2 c2, .slice a3 n3 c3], .int .i64 n, .string key] w fun e w' => e = .returned (.tuple #[.bool (fitB p n key), .int .i64 (fitE p n key)]) ∧ Below w.heap.size w w' := by
  obtain ⟨W1, hW1, hBw, hs1, hbx⟩ := plan_boxed w (.slice a1 n1 c1) (.slice a2 n2 c2) (.slice a3 n3 c3) 40
  have HP1 : Hid (PlanAt W1 a1 a2 a3 n1 n2 n3 p) := hp.keep hBw
  have HP : Hid (PlanAt w a1 a2 a3 n1 n2 n3 p) := hp
  have BX : Hid (∀ W, Below W1.heap.size W1 W → W.cell? ⟨w.heap.size, 0, none⟩ = some (.slice a1 n1 c1) ∧ W.cell? ⟨w.heap.size, 1, none⟩ = some (.slice a2 n2 c2) ∧ W.cell? ⟨w.heap.size, 2, none⟩ = some (.slice a3 n3 c3)) := hbx
  have hlt1 : w.heap.size < W1.heap.size := by omega
  clear hp hbx hs1
  obtain ⟨d, hd⟩ : ∃ d, d = chkP p := ⟨_, rfl⟩
  have HD : Hid (d = chkP p) := hd
  by_cases h0 : d = 0
  · have HR : Hid (RightP p) := chk_right (by rw [← hd]; exact h0)
    have F1 : Hid (fitE p n key = if isNum n n3 = true then kerr key.data.toList else 5) := by
      show fitE p n key = _
      unfold fitE; rw [if_pos (by rw [← hd]; exact h0), HP.out.l3]
    clear hd
    subst h0
    cases hnum : isNum n n3 with
    | false =>
      have F2 : Hid (fitE p n key = 5) := by show fitE p n key = 5; rw [F1.out, hnum]; simp
      have F3 : Hid (fitB p n key = false) := by show fitB p n key = false; unfold fitB; rw [F2.out]; simp
      rw [F2.out, F3.out]
      go_enter Try.func31, Try.ntmps31
      go_wp2_with fail
      rw [← hW1]
      clear hW1
      refine (check_any p _ _ _ _ _ _ _ _ _ _ HP1.out.l1 HP1.out.l2 HP1.out.l3 HP1.out.sz HP1.out.p1 HP1.out.p2 HP1.out.p3).mono ?_
      rintro e w2 ⟨rfl, hB2⟩
      rw [← HD.out]
      obtain ⟨d0, d1, d2⟩ := BX.out w2 hB2
      go_wp2_with (go_at_call 75; refine (numberOf_binds _ _ _ _ _).mono ?_; rintro e w3 ⟨rfl, rfl⟩)
      go_ret2
      exact ⟨rfl, hBw.trans (hB2.mono hBw.size)⟩
    | true =>
      have F2 : Hid (fitE p n key = kerr key.data.toList) := by show fitE p n key = _; rw [F1.out, hnum]; simp
      obtain ⟨i, rfl⟩ := Int.eq_ofNat_of_zero_le (isNum_iff.1 hnum).1
      have hi : i < n3 := by have := (isNum_iff.1 hnum).2; omega
      by_cases hk : kerr key.data.toList = 0
      · have F3 : Hid (fitB p i key = fitP p i key) := by show fitB p i key = _; unfold fitB; rw [F2.out, if_pos hk, Int.toNat_natCast]
        rw [F2.out, F3.out, hk]
        have hil : i < p.binds.length := by rw [HP.out.l3]; exact hi
        obtain ⟨j, hj, hsrc, hkind⟩ := bind_at HR.out hil
        obtain ⟨g3, o3, rfl, hg3, hx3⟩ := HP1.out.p3.cells (by omega)
        obtain ⟨g1, o1, rfl, hg1, hx1⟩ := HP1.out.p1.cells (by omega)
        have hpe := HR.out.pat _ (List.getElem_mem hil)
        obtain ⟨x, hx⟩ : ∃ x, x = p.binds[i] := ⟨_, rfl⟩
        obtain ⟨y, hy⟩ : ∃ y, y = p.posts[j] := ⟨_, rfl⟩
        have e3 := hx3 i hil
        have e1 := hx1 j hj
        rw [← hx] at hsrc hkind e3 hpe
        rw [← hy] at hkind e1
        obtain ⟨f, tp, t, pt⟩ := x
        obtain ⟨nm, kd⟩ := y
        dsimp only at hsrc hkind e3 e1 hpe
        subst hsrc
        have hjn : j < n1 := by rw [← HP.out.l1]; exact hj
        obtain ⟨xs, hxs⟩ : ∃ xs, xs = wlB key.data.toList := ⟨_, rfl⟩
        have HS : Hid (∀ w, Calls Try.prog 17 #[.string key] w fun e w' => ∃ g cap, e = .returned (.tuple #[.slice (some ⟨g, 0, none⟩) xs.length cap, .int .i64 0]) ∧ w.heap.size ≤ g ∧ xs.length ≤ cap ∧ cap ≤ maxLen ∧ IsTexts w' g 0 xs ∧ Below w.heap.size w w') := fun w => splitK_ok key xs hxs w hk
        have HM : Hid (∀ w, Calls Try.prog 23 #[.string pt, .string key] w fun e w' => e = .returned (.tuple #[.bool (fitL pt.data.toList key.data.toList), .int .i64 0]) ∧ Below w.heap.size w w') := fun w => by
          have h := match_any pt key w
          rw [show mis pt.data.toList key.data.toList = fitL pt.data.toList key.data.toList from by simp [mis, merr, hpe, hk], show merr pt.data.toList key.data.toList = 0 from by simp [merr, hpe, hk]] at h
          exact h
        have HE : Hid ((W1.cell? ⟨g3, o3 + i * 4, none⟩ = some (.int .i64 (j : Int)) ∧ W1.cell? ⟨g3, o3 + i * 4 + 1, none⟩ = some (.bool tp) ∧ W1.cell? ⟨g3, o3 + i * 4 + 2, none⟩ = some (.int .i64 t) ∧ W1.cell? ⟨g3, o3 + i * 4 + 3, none⟩ = some (.string pt)) ∧ W1.cell? ⟨g1, o1 + j * 2 + 1, none⟩ = some (.int .i64 kd)) := ⟨e3, e1.2⟩
        have HKD : Hid ((kd = 1 ∧ ∀ key, fitP p i key = (key.data.toList == pt.data.toList)) ∨ (kd = 2 ∧ ∀ key, fitP p i key = true) ∨ (kd = 3 ∧ ∀ key, fitP p i key = fitL pt.data.toList key.data.toList)) := hkind
        have hin : (i : Int) < n3 := by omega
        have hjn' : (j : Int) < n1 := by omega
        clear hk hx hy hxs hpe hx3 hx1 e3 e1 hkind F2 F3 F1
        go_enter Try.func31, Try.ntmps31
        go_wp2_with fail
        rw [← hW1]
        clear hW1
        refine (check_any p _ _ _ _ _ _ _ _ _ _ HP1.out.l1 HP1.out.l2 HP1.out.l3 HP1.out.sz HP1.out.p1 HP1.out.p2 HP1.out.p3).mono ?_
        rintro e w2 ⟨rfl, hB2⟩
        rw [← HD.out]
        obtain ⟨d0, d1, d2⟩ := BX.out w2 hB2
        go_wp2_with (go_at_call 75; refine (numberOf_binds _ _ _ _ _).mono ?_; rintro e w3 ⟨rfl, rfl⟩)
        refine (HS.out _).mono ?_
        rintro e w4 ⟨gs, cs, rfl, _, _, _, _, hB4⟩
        clear d0 d1 d2
        have s2 := hB2.size
        have s4 := hB4.size
        have hB14 : Below W1.heap.size W1 w4 := hB2.trans (hB4.mono s2)
        obtain ⟨d0, d1, d2⟩ := BX.out w4 hB14
        have z1 := (hB14.cell (p := ⟨g3, o3 + i * 4, none⟩) hg3).trans HE.out.1.1
        have z2 := (hB14.cell (p := ⟨g3, o3 + i * 4 + 1, none⟩) hg3).trans HE.out.1.2.1
        have z3 := (hB14.cell (p := ⟨g3, o3 + i * 4 + 2, none⟩) hg3).trans HE.out.1.2.2.1
        have z4 := (hB14.cell (p := ⟨g3, o3 + i * 4 + 3, none⟩) hg3).trans HE.out.1.2.2.2
        have z5 := (hB14.cell (p := ⟨g1, o1 + j * 2 + 1, none⟩) hg1).trans HE.out.2
        have hg1' : g1 < w4.heap.size := by omega
        have hww : w.heap.size < w4.heap.size := by omega
        have hB04 : Below w.heap.size w w4 := hBw.trans (hB14.mono hBw.size)
        rcases HKD.out with ⟨rfl, hf⟩ | ⟨rfl, hf⟩ | ⟨rfl, hf⟩
        · have HF : Hid (fitP p i key = (key.data.toList == pt.data.toList)) := hf key
          clear hf HKD
          go_wp2_with fail
          go_ret2
          exact ⟨ret_bi (by rw [HF.out, ← Lib.toList_data, ← Lib.toList_data]) rfl, hB04.alloc (by omega) _⟩
        · have HF : Hid (fitP p i key = true) := hf key
          clear hf HKD
          go_wp2_with fail
          go_ret2
          exact ⟨ret_bi HF.out.symm rfl, hB04.alloc (by omega) _⟩
        · have HF : Hid (fitP p i key = fitL pt.data.toList key.data.toList) := hf key
          clear hf HKD
          go_wp2_with fail
          refine (HM.out _).mono ?_
          rintro e w6 ⟨rfl, hB6⟩
          go_wp2_with fail
          go_ret2
          exact ⟨ret_bi HF.out.symm rfl, (hB04.alloc (by omega) _).trans (hB6.mono (by simp; omega))⟩
      · have F3 : Hid (fitB p i key = false) := by show fitB p i key = false; unfold fitB; rw [F2.out, if_neg hk]
        rw [F2.out, F3.out]
        have hk' : (kerr key.data.toList != 0) = true := bne_iff_ne.2 hk
        have HSP := splitK_err key
        obtain ⟨dk, hdk⟩ : ∃ dk, dk = kerr key.data.toList := ⟨_, rfl⟩
        have HC : Hid (∀ w, Calls Try.prog 17 #[.string key] w fun e w' => e = .returned (.tuple #[.slice none 0 0, .int .i64 dk]) ∧ Below w.heap.size w w') := fun w => by rw [hdk]; exact HSP w hk
        rw [← hdk] at hk' ⊢
        clear hdk hk HSP F2
        go_enter Try.func31, Try.ntmps31
        go_wp2_with fail
        rw [← hW1]
        clear hW1
        refine (check_any p _ _ _ _ _ _ _ _ _ _ HP1.out.l1 HP1.out.l2 HP1.out.l3 HP1.out.sz HP1.out.p1 HP1.out.p2 HP1.out.p3).mono ?_
        rintro e w2 ⟨rfl, hB2⟩
        rw [← HD.out]
        obtain ⟨d0, d1, d2⟩ := BX.out w2 hB2
        go_wp2_with (first
          | (go_at_call 75; refine (numberOf_binds _ _ _ _ _).mono ?_; rintro e w3 ⟨rfl, rfl⟩)
          | (go_at_call 17; refine (HC.out _).mono ?_; rintro e w4 ⟨rfl, hB4⟩))
        go_ret2
        have s2 := hB2.size
        exact ⟨rfl, hBw.trans ((hB2.mono hBw.size).trans (hB4.mono (by omega)))⟩
  · have F1 : Hid (fitE p n key = d) := by show fitE p n key = d; unfold fitE; rw [if_neg (by rw [← hd]; exact h0), hd]
    have F2 : Hid (fitB p n key = false) := by show fitB p n key = false; unfold fitB; rw [F1.out, if_neg h0]
    have h0' : (d != 0) = true := bne_iff_ne.2 h0
    rw [F1.out, F2.out]
    clear h0 hd
    go_enter Try.func31, Try.ntmps31
    go_wp2_with fail
    rw [← hW1]
    clear hW1
    refine (check_any p _ _ _ _ _ _ _ _ _ _ HP1.out.l1 HP1.out.l2 HP1.out.l3 HP1.out.sz HP1.out.p1 HP1.out.p2 HP1.out.p3).mono ?_
    rintro e w2 ⟨rfl, hB2⟩
    rw [← HD.out]
    go_wp2_with fail
    go_ret2
    exact ⟨rfl, hBw.trans (hB2.mono hBw.size)⟩

set_option maxRecDepth 100000 in
set_option maxHeartbeats 4000000 in
theorem rfits_any (p : PlanD) (a1 a2 a3 : Option Addr) (n1 c1 n2 c2 n3 c3 : Nat) (i : Nat) (key : ByteArray) (w : World) (hp : PlanAt w a1 a2 a3 n1 n2 n3 p) (hr : RightP p) (hi : i < n3) (hk : key.size ≤ 24) :
    Calls Try.prog 76 #[.agg #[.slice a1 n1 c1, .slice a2 n2 c2, .slice a3 n3 c3], .int .i64 i, .string key] w fun e w' => e = .returned (.bool (fitP p i key)) ∧ Below w.heap.size w w' := by
  have HP1 : Hid (PlanAt w a1 a2 a3 n1 n2 n3 p) := hp
  have hil : i < p.binds.length := by rw [hp.l3]; exact hi
  obtain ⟨j, hj, hsrc, hkind⟩ := bind_at hr hil
  obtain ⟨g3, o3, rfl, hg3, hx3⟩ := HP1.out.p3.cells (by omega)
  obtain ⟨g1, o1, rfl, hg1, hx1⟩ := HP1.out.p1.cells (by omega)
  have hpe := hr.pat _ (List.getElem_mem hil)
  obtain ⟨x, hx⟩ : ∃ x, x = p.binds[i] := ⟨_, rfl⟩
  obtain ⟨y, hy⟩ : ∃ y, y = p.posts[j] := ⟨_, rfl⟩
  have e3 := hx3 i hil
  have e1 := (hx1 j hj).2
  rw [← hx] at hsrc hkind e3 hpe
  rw [← hy] at hkind e1
  obtain ⟨f, tp, t, pt⟩ := x
  obtain ⟨nm, kd⟩ := y
  dsimp only at hsrc hkind e3 e1 hpe
  subst hsrc
  obtain ⟨z1, z2, z3, z4⟩ := e3
  have hjn : j < n1 := by rw [← hp.l1]; exact hj
  have hpt : pt.size ≤ 24 := by have := (werr_zero hpe).1; simpa using this
  have HKD : Hid ((kd = 1 ∧ ∀ key, fitP p i key = (key.data.toList == pt.data.toList)) ∨ (kd = 2 ∧ ∀ key, fitP p i key = true) ∨ (kd = 3 ∧ ∀ key, fitP p i key = fitL pt.data.toList key.data.toList)) := hkind
  have hin : (i : Int) < n3 := by omega
  have hjn' : (j : Int) < n1 := by omega
  clear hp hx hy hpe hx3 hx1 hkind HP1 hr
  rcases HKD.out with ⟨rfl, hf⟩ | ⟨rfl, hf⟩ | ⟨rfl, hf⟩
  · have HF : Hid (fitP p i key = (key.data.toList == pt.data.toList)) := hf key
    clear hf HKD
    go_enter Try.func76, Try.ntmps76
    go_wp2_with fail
    go_ret
    exact ⟨ret_bool (by rw [HF.out, Lib.toList_data, Lib.toList_data, beq_dec2, beq_dec2]; simp [eq_comm]), (by repeat (first | exact Below.refl _ _ | assumption | refine Below.drew ?_ | refine Below.alloc ?_ (by first | (simp; done) | (simp; omega) | omega) _ | refine Below.setCell ?_ (by first | (simp; done) | (simp; omega) | omega) _))⟩
  · have HF : Hid (fitP p i key = true) := hf key
    clear hf HKD
    go_enter Try.func76, Try.ntmps76
    go_wp2_with fail
    go_ret
    exact ⟨ret_bool HF.out.symm, (by repeat (first | exact Below.refl _ _ | assumption | refine Below.drew ?_ | refine Below.alloc ?_ (by first | (simp; done) | (simp; omega) | omega) _ | refine Below.setCell ?_ (by first | (simp; done) | (simp; omega) | omega) _))⟩
  · have HF : Hid (fitP p i key = fitL pt.data.toList key.data.toList) := hf key
    clear hf HKD
    go_enter Try.func76, Try.ntmps76
    go_wp2_with fail
    refine (fit_any _ _ _ hpt hk).mono ?_
    rintro e w6 ⟨rfl, hB6⟩
    go_wp2_with fail
    go_ret
    exact ⟨ret_bool HF.out.symm, Below.trans (b := (w.alloc (.cells #[.slice (some ⟨g1, o1, none⟩) n1 c1, .slice a2 n2 c2, .slice (some ⟨g3, o3, none⟩) n3 c3] 40)).alloc (.cells #[.int .i64 j, .bool tp, .int .i64 t, .string pt] 55)) (by repeat (first | exact Below.refl _ _ | assumption | refine Below.drew ?_ | refine Below.alloc ?_ (by first | (simp; done) | (simp; omega) | omega) _ | refine Below.setCell ?_ (by first | (simp; done) | (simp; omega) | omega) _)) (hB6.mono (by simp; omega))⟩

set_option maxRecDepth 100000 in
set_option maxHeartbeats 4000000 in
theorem fitsOf_any (p : PlanD) (a1 a2 a3 : Option Addr) (n1 c1 n2 c2 n3 c3 : Nat) (n : Int) (key : ByteArray) (w : World) (hp : PlanAt w a1 a2 a3 n1 n2 n3 p) :
    Calls Try.prog 32 #[.agg #[.slice a1 n1 c1, .slice a2 n2 c2, .slice a3 n3 c3], .int .i64 n, .string key] w fun e w' => e = .returned (.tuple #[.bool (fitB p n key), .int .i64 (fitE p n key)]) ∧ Below w.heap.size w w' := by
  obtain ⟨W1, hW1, hBw, hs1, hbx⟩ := plan_boxed w (.slice a1 n1 c1) (.slice a2 n2 c2) (.slice a3 n3 c3) 40
  have HP1 : Hid (PlanAt W1 a1 a2 a3 n1 n2 n3 p) := hp.keep hBw
  have HP : Hid (PlanAt w a1 a2 a3 n1 n2 n3 p) := hp
  have BX : Hid (∀ W, Below W1.heap.size W1 W → W.cell? ⟨w.heap.size, 0, none⟩ = some (.slice a1 n1 c1) ∧ W.cell? ⟨w.heap.size, 1, none⟩ = some (.slice a2 n2 c2) ∧ W.cell? ⟨w.heap.size, 2, none⟩ = some (.slice a3 n3 c3)) := hbx
  have hlt1 : w.heap.size < W1.heap.size := by omega
  clear hp hbx hs1
  obtain ⟨d, hd⟩ : ∃ d, d = chkP p := ⟨_, rfl⟩
  have HD : Hid (d = chkP p) := hd
  by_cases h0 : d = 0
  · have HR : Hid (RightP p) := chk_right (by rw [← hd]; exact h0)
    have h10 : n3 ≤ 10 := by have := HR.out.few.2.2; rw [HP.out.l3] at this; exact this
    have F1 : Hid (fitE p n key = if isNum n n3 = true then kerr key.data.toList else 5) := by
      show fitE p n key = _
      unfold fitE; rw [if_pos (by rw [← hd]; exact h0), HP.out.l3]
    clear hd
    subst h0
    cases hnum : isNum n n3 with
    | false =>
      have F2 : Hid (fitE p n key = 5) := by show fitE p n key = 5; rw [F1.out, hnum]; simp
      have F3 : Hid (fitB p n key = false) := by show fitB p n key = false; unfold fitB; rw [F2.out]; simp
      have hin : inR n 0 ((n3 : Int) - 1) = false := by rw [inR_num]; exact hnum
      rw [F2.out, F3.out]
      go_enter Try.func32, Try.ntmps32
      go_wp2_with fail
      rw [← hW1]
      clear hW1
      refine (rcheck_any p _ _ _ _ _ _ _ _ _ _ HP1.out.l1 HP1.out.l2 HP1.out.l3 HP1.out.sz HP1.out.p1 HP1.out.p2 HP1.out.p3).mono ?_
      rintro e w2 ⟨rfl, hB2⟩
      rw [← HD.out]
      obtain ⟨d0, d1, d2⟩ := BX.out w2 hB2
      go_wp2_with (go_at_call 74; refine (within_any _ _ _ _).mono ?_; rintro e w3 ⟨rfl, rfl⟩)
      go_ret2
      exact ⟨rfl, hBw.trans (hB2.mono hBw.size)⟩
    | true =>
      have F2 : Hid (fitE p n key = kerr key.data.toList) := by show fitE p n key = _; rw [F1.out, hnum]; simp
      have hin : inR n 0 ((n3 : Int) - 1) = true := by rw [inR_num]; exact hnum
      obtain ⟨i, rfl⟩ := Int.eq_ofNat_of_zero_le (isNum_iff.1 hnum).1
      have hi : i < n3 := by have := (isNum_iff.1 hnum).2; omega
      by_cases hk : kerr key.data.toList = 0
      · have F3 : Hid (fitB p i key = fitP p i key) := by show fitB p i key = _; unfold fitB; rw [F2.out, if_pos hk, Int.toNat_natCast]
        rw [F2.out, F3.out, hk]
        have h24 : key.size ≤ 24 := by have := (werr_zero hk).1; simpa using this
        have HK : Hid (kerr key.data.toList = 0) := hk
        clear hk F2 F3 F1
        go_enter Try.func32, Try.ntmps32
        go_wp2_with fail
        rw [← hW1]
        clear hW1
        refine (rcheck_any p _ _ _ _ _ _ _ _ _ _ HP1.out.l1 HP1.out.l2 HP1.out.l3 HP1.out.sz HP1.out.p1 HP1.out.p2 HP1.out.p3).mono ?_
        rintro e w2 ⟨rfl, hB2⟩
        rw [← HD.out]
        obtain ⟨d0, d1, d2⟩ := BX.out w2 hB2
        go_wp2_with (go_at_call 74; refine (within_any _ _ _ _).mono ?_; rintro e w3 ⟨rfl, rfl⟩)
        refine (keyError_any _ _).mono ?_
        rintro e w4 ⟨rfl, hB4⟩
        rw [HK.out]
        clear d0 d1 d2
        have s2 := hB2.size
        have s4 := hB4.size
        have hB14 : Below W1.heap.size W1 w4 := hB2.trans (hB4.mono s2)
        obtain ⟨d0, d1, d2⟩ := BX.out w4 hB14
        go_wp2_with fail
        refine (rfits_any p _ _ _ _ _ _ _ _ _ i key _ (HP1.out.keep hB14) HR.out hi h24).mono ?_
        rintro e w5 ⟨rfl, hB5⟩
        clear d0 d1 d2
        go_wp2_with fail
        go_ret2
        exact ⟨rfl, hBw.trans ((hB14.mono hBw.size).trans (hB5.mono (by omega)))⟩
      · have F3 : Hid (fitB p i key = false) := by show fitB p i key = false; unfold fitB; rw [F2.out, if_neg hk]
        rw [F2.out, F3.out]
        have hk' : (kerr key.data.toList != 0) = true := bne_iff_ne.2 hk
        obtain ⟨dk, hdk⟩ : ∃ dk, dk = kerr key.data.toList := ⟨_, rfl⟩
        have HC : Hid (dk = kerr key.data.toList) := hdk
        rw [← hdk] at hk' ⊢
        clear hdk hk F2
        go_enter Try.func32, Try.ntmps32
        go_wp2_with fail
        rw [← hW1]
        clear hW1
        refine (rcheck_any p _ _ _ _ _ _ _ _ _ _ HP1.out.l1 HP1.out.l2 HP1.out.l3 HP1.out.sz HP1.out.p1 HP1.out.p2 HP1.out.p3).mono ?_
        rintro e w2 ⟨rfl, hB2⟩
        rw [← HD.out]
        obtain ⟨d0, d1, d2⟩ := BX.out w2 hB2
        go_wp2_with (first
          | (go_at_call 74; refine (within_any _ _ _ _).mono ?_; rintro e w3 ⟨rfl, rfl⟩)
          | (go_at_call 56; refine (keyError_any _ _).mono ?_; rintro e w4 ⟨rfl, hB4⟩; rw [← HC.out]))
        go_ret2
        have s2 := hB2.size
        exact ⟨rfl, hBw.trans ((hB2.mono hBw.size).trans (hB4.mono (by omega)))⟩
  · have F1 : Hid (fitE p n key = d) := by show fitE p n key = d; unfold fitE; rw [if_neg (by rw [← hd]; exact h0), hd]
    have F2 : Hid (fitB p n key = false) := by show fitB p n key = false; unfold fitB; rw [F1.out, if_neg h0]
    have h0' : (d != 0) = true := bne_iff_ne.2 h0
    rw [F1.out, F2.out]
    clear h0 hd
    go_enter Try.func32, Try.ntmps32
    go_wp2_with fail
    rw [← hW1]
    clear hW1
    refine (rcheck_any p _ _ _ _ _ _ _ _ _ _ HP1.out.l1 HP1.out.l2 HP1.out.l3 HP1.out.sz HP1.out.p1 HP1.out.p2 HP1.out.p3).mono ?_
    rintro e w2 ⟨rfl, hB2⟩
    rw [← HD.out]
    go_wp2_with fail
    go_ret2
    exact ⟨rfl, hBw.trans (hB2.mono hBw.size)⟩
end Go.Proofs.Ythhkpgnjpieckaa
