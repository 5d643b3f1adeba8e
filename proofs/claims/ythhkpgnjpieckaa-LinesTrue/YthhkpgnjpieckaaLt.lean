/- mailcoachref.ShedOf. -/
import Derived.Maps.AppendAt
import Derived.Test.YthhkpgnjpieckaaLz
import Derived.Test.YthhkpgnjpieckaaHk
namespace Go.Proofs.Ythhkpgnjpieckaa
set_option linter.unusedVariables false
set_option maxRecDepth 100000
open Go.RowKit

/-- 'append(out, letters...)' at the operation; and where the new row lies. -/
theorem wp_append_items {w : World} {o : Oper} {act : Act} {K : Act → World → Prop} {Q : Exit → Act → World → Prop} (s x : Operand)
    (ho : o.op = .call { callee := .builtin .append, args := #[s, x], argTypes := #[57, 57] })
    (base : Nat) (v : Value) (n : Nat) (xs : List ItemD) (hs : act.eval s = v) (hown : w.ownsRow base 59 5 v n (itemCells xs))
    (a : Option Addr) (m c : Nat) (ys : List ItemD) (hx : act.eval x = .slice a m c) (hm : ys.length = m) (hz : a = none → c = 0 ∧ ys = []) (hT : ItemsAt w a ys)
    (hb : n + m ≤ 100000000) (hbase : base ≤ w.heap.size)
    (h : ∀ v' w', w'.ownsRow base 59 5 v' (n + m) (itemCells (xs ++ ys)) → w.grownBy w' v.ownBlock → (v'.ownBlock = v.ownBlock ∨ v'.ownBlock = some w.heap.size) → K (act.put o.dst v') w') :
    Oper.wp Try.prog o act w K Q := by
  obtain ⟨i0, hi, hz0, hz1, hz2⟩ := info_parts Try.infoItem
  cases a with
  | none =>
    obtain ⟨rfl, rfl⟩ := hz rfl
    simp at hm
    subst hm
    have hrun := run_append_owned_none (P := Try.prog) (w := w) base 57 o.type 59 i0 5 Try.underlying57 hi v n _ hown
    unfold Oper.wp
    simp [execOp, ho, resolve, invoke, builtin, hs, hx, hrun, Result.andThen]
    exact h v w (by simpa using hown) (grown_same _ _) (.inl rfl)
  | some ad =>
    obtain ⟨v', w', hr, h2, h3, h4, h5⟩ := run_append_own_at (P := Try.prog) w base 57 o.type 59 i0 _ 5 56 Try.underlying57 hi hz0 hz1 hz2 rfl (by decide) v n _ hown ad m c (itemCells ys) (by rw [itemCells_len, hm]) (items_news hT) (itemCells_one ys) (by unfold maxLen; omega) (by omega) hbase
    unfold Oper.wp execOp
    simp only [ho, resolve, invoke, builtin, Sem.run_bind, Sem.run_pure, Result.andThen_ok, List.map_toArray, List.map_cons, List.map_nil, hs, hx, hr]
    exact h v' w' (by rw [itemCells_append]; exact h2) h3 h5
/-- The same at a step of a region that draws its order. -/
theorem step_append_items {w : World} {ops : Array Oper} {o : Oper} {act : Act} {K : Act → World → Prop} {Q : Exit → Act → World → Prop} {E : Prop} (hw : Region.wanted o (yielded ops act.tmps) = true) (s x : Operand)
    (ho : o.op = .call { callee := .builtin .append, args := #[s, x], argTypes := #[57, 57] })
    (base : Nat) (v : Value) (n : Nat) (xs : List ItemD) (hs : act.eval s = v) (hown : w.ownsRow base 59 5 v n (itemCells xs))
    (a : Option Addr) (m c : Nat) (ys : List ItemD) (hx : act.eval x = .slice a m c) (hm : ys.length = m) (hz : a = none → c = 0 ∧ ys = []) (hT : ItemsAt w a ys)
    (hb : n + m ≤ 100000000) (hbase : base ≤ w.heap.size)
    (h : ∀ v' w', w'.ownsRow base 59 5 v' (n + m) (itemCells (xs ++ ys)) → w.grownBy w' v.ownBlock → (v'.ownBlock = v.ownBlock ∨ v'.ownBlock = some w.heap.size) → K (act.put o.dst v') w') :
    if Region.wanted o (yielded ops act.tmps) = true then Oper.wp Try.prog o act w K Q else E := by
  rw [if_pos hw]
  exact wp_append_items s x ho base v n xs hs hown a m c ys hx hm hz hT hb hbase h
/-- The same in a row of operations, guarded or not. -/
theorem append_items_w {w : World} {ops : Array Oper} {rest : List Oper} {o : Oper} {act : Act} {Q : Exit → Act → World → Prop} (hw : Region.wanted o (yielded ops act.tmps) = true) (s x : Operand)
    (ho : o.op = .call { callee := .builtin .append, args := #[s, x], argTypes := #[57, 57] })
    (base : Nat) (v : Value) (n : Nat) (xs : List ItemD) (hs : act.eval s = v) (hown : w.ownsRow base 59 5 v n (itemCells xs))
    (a : Option Addr) (m c : Nat) (ys : List ItemD) (hx : act.eval x = .slice a m c) (hm : ys.length = m) (hz : a = none → c = 0 ∧ ys = []) (hT : ItemsAt w a ys)
    (hb : n + m ≤ 100000000) (hbase : base ≤ w.heap.size)
    (h : ∀ v' w', w'.ownsRow base 59 5 v' (n + m) (itemCells (xs ++ ys)) → w.grownBy w' v.ownBlock → (v'.ownBlock = v.ownBlock ∨ v'.ownBlock = some w.heap.size) → wpList Try.prog ops Q rest (act.put o.dst v') w') : wpList Try.prog ops Q (o :: rest) act w :=
  wpList_step fun K hK => by
    rw [if_pos hw]
    exact wp_append_items s x ho base v n xs hs hown a m c ys hx hm hz hT hb hbase (fun v' w' h1 h2 h3 => hK _ _ (h v' w' h1 h2 h3))

theorem slice_ne {g k n c : Nat} (h : g < k ∨ k < g) : (Value.slice (some ⟨g, 0, none⟩) n c).ownBlock ≠ some k := by
  intro e; simp only [Value.ownBlock, Option.some.injEq] at e; omega
theorem some_ne {v : Value} {x y k : Nat} (h : v.ownBlock = some x ∨ v.ownBlock = some y) (hx : x < k ∨ k < x) (hy : y < k ∨ k < y) : v.ownBlock ≠ some k := by
  rcases h with e | e <;> rw [e] <;> simp only [ne_eq, Option.some.injEq] <;> omega

/-- What the end of ShedOf wants. -/
structure ShedDone (xs : List ItemD) (n i : Nat) (w W : World) (v u : Value) : Prop where
  a : W.ownsRow w.heap.size 59 5 v (n - i) (itemCells (xs.drop i))
  b : W.ownsRow w.heap.size 59 5 u i (itemCells (xs.take i))
  below : Below w.heap.size w W

theorem lt_ne {w W : World} {base k : Nat} {e : TypeId} {size n : Nat} {v : Value} {xs : List Value} (h : w.ownsRow base e size v n xs) (hk : w.heap.size ≤ k) : v.ownBlock = none ∨ v.ownBlock ≠ some k := by
  right; intro e; have := h.lt k e; omega

set_option maxHeartbeats 4000000 in
theorem shedOf_ok (xs : List ItemD) (a : Option Addr) (n c i : Nat) (limit : Int) (w : World) (hn : xs.length = n) (hnc : n ≤ c) (hcm : c ≤ maxLen) (hz : a = none → c = 0) (hp : ItemsAt w a xs) (hl : lineOk xs = true) (h0 : 0 ≤ limit) (h1 : limit ≤ 9223372036854775807) (hi : i = shedN n limit) :
    Calls Try.prog 49 #[.slice a n c, .int .i64 limit] w fun e w' => ∃ v u, e = .returned (.tuple #[v, u, .int .i64 0]) ∧ ShedDone xs n i w w' v u := by
  have hf := lineOk_few hl
  rw [hn] at hf
  have HL : Hid (lineOk xs = true) := hl
  have HP : Hid (ItemsAt w a xs) := hp
  have HN : Hid (xs.length = n) := hn
  have HM : Hid (n ≤ maxLen) := Nat.le_trans hnc hcm
  have hin : i ≤ n := by rw [hi]; exact shedN_le h0
  have HZ : Hid (a = none → c = 0) := hz
  have q0 : ¬ limit < 0 := by omega
  have qw : IntKind.i64.wrap ((n : Int) - limit) = (n : Int) - limit := by rw [IntKind.wrap_i64]; omega
  have hi2 : (limit < n ∧ (n : Int) - limit = i) ∨ (¬ limit < n ∧ (0 : Int) = (i : Nat)) := by rw [hi]; unfold shedN; omega
  have q1 : (0 : Int) ≤ (i : Int) := by omega
  have q2 : (i : Int) ≤ (n : Int) := by omega
  have q3 : (i : Int) ≤ (c : Int) := by omega
  have q4 : (n : Int) ≤ (c : Int) := by omega
  have HA0 : Hid (a = none → xs = []) := fun e => List.length_eq_zero_iff.1 (by have := hz e; omega)
  obtain ⟨A3, hA3⟩ : ∃ A3, A3 = (if c = i then a else Option.map (fun x => x.add (i * 5)) a) := ⟨_, rfl⟩
  have HA3 : Hid (A3 = (if c = i then a else Option.map (fun x => x.add (i * 5)) a)) := hA3
  have HAZ : Hid (A3 = none → c - i = 0 ∧ xs.drop i = []) := fun e => by
    have e2 : a = none := by
      rw [hA3] at e
      split at e
      · exact e
      · simpa using e
    exact ⟨by have := hz e2; omega, by rw [HA0.out e2]; simp⟩
  have HD : Hid (∀ W, ItemsAt W a xs → ItemsAt W A3 (xs.drop i)) := fun W h => by rw [hA3]; exact h.drop i c (by omega)
  have HD1 : Hid ((xs.drop i).length = n - i) := by show (xs.drop i).length = n - i; rw [List.length_drop, hn]
  have HD2 : Hid ((xs.take i).length = i) := by show (xs.take i).length = i; rw [List.length_take, hn]; omega
  clear hp hl hn hi hz hA3
  rcases hi2 with ⟨g1, g2⟩ | ⟨g1, g2⟩
  all_goals
    have HI : Hid (_ = (i : Int)) := g2
    clear g2
    go_enter Try.func49, Try.ntmps49
    go_wp2_with fail
    refine (lineFine_any xs _ _ _ _ HN.out HM.out HP.out).mono ?_
    rintro e w2 ⟨rfl, hB2⟩
    rw [HL.out]
    go_wp2_with fail
    have hB2s := hB2.size
    have hp2 : ItemsAt w2 a xs := HP.out.keep hB2
    refine wp_region_held_drew (S := fun w' => True) (by kernel_rfl) trivial (fun hHeld => ?_)
    obtain ⟨w3, hw3⟩ : ∃ w3, w3 = w2.drew := ⟨_, rfl⟩
    have hB3 : Below w.heap.size w w3 := by rw [hw3]; exact hB2.drew
    have hp3 : ItemsAt w3 a xs := by rw [hw3]; exact hp2
    rw [← hw3]
    have hB3s := hB3.size
    clear hw3
    refine tk 1 ?_
    (refine wpAnyH_take (i := 2) (v := .int .i64 (i : Int)) rfl (by kernel_rfl) (by kernel_rfl) (by kernel_rfl) (fun _ _ _ h => h) (Or.inl ⟨by kernel_rfl, ?_⟩) (by assumption) ?_; (focus (intro w hSw; (try dsimp only at hSw); go_simp; first | with_reducible rfl | rw [HI.out])); (try simp only [Act.put, List.getElem_toArray, List.getElem_cons_succ, List.getElem_cons_zero, List.setIfInBounds_toArray, List.set_cons_zero, List.set_cons_succ]))
    refine tk 3 ?_
    refine tk 6 ?_
    (refine wpAnyH_take (i := 7) (v := .int .i64 (i : Int)) rfl (by kernel_rfl) (by kernel_rfl) (by kernel_rfl) (fun _ _ _ h => h) (Or.inl ⟨by kernel_rfl, ?_⟩) (by assumption) ?_; (focus (intro w hSw; (try dsimp only at hSw); go_simp; first | with_reducible rfl | rw [HI.out])); (try simp only [Act.put, List.getElem_toArray, List.getElem_cons_succ, List.getElem_cons_zero, List.setIfInBounds_toArray, List.set_cons_zero, List.set_cons_succ]))
    refine tk 8 ?_
    try rw [← HA3.out]
    refine wpAnyH_ready (rs := [0, 5]) (by kernel_rfl) (by simp) ?_
    refine AllReadyH.cons rfl (fun K hK => ?_) (AllReadyH.cons rfl (fun K hK => ?_) AllReadyH.nil)
    · go_simp
      have o1 := World.ownsRow_made (base := w3.heap.size) (e := 59) (size := 5) w3 #[] 0 (Nat.le_refl _) (Nat.zero_le _) rfl
      obtain ⟨w4, hmw4⟩ : ∃ w4, w4 = w3.alloc (.cells #[] 59) := ⟨_, rfl⟩
      have lw4 : Below w3.heap.size w3 w4 := by rw [hmw4]; exact (Below.refl _ _).alloc (Nat.le_refl _) _
      have zw4 : w3.heap.size + 1 ≤ w4.heap.size := by rw [hmw4]; simp
      rw [← hmw4] at o1 ⊢
      clear hmw4
      refine hK.out _ _ trivial (fun hHw4 => ?_)
      clear hK K
      try simp only [Act.put, List.getElem_toArray, List.getElem_cons_succ, List.getElem_cons_zero, List.setIfInBounds_toArray, List.set_cons_zero, List.set_cons_succ]
      refine wpAnyH_ready (rs := [4, 5]) (by kernel_rfl) (by simp) ?_
      refine AllReadyH.cons rfl (fun K hK => ?_) (AllReadyH.cons rfl (fun K hK => ?_) AllReadyH.nil)
      · refine step_append_items (by kernel_rfl) _ _ rfl w3.heap.size _ 0 [] rfl o1 A3 (n - i) (c - i) (xs.drop i) rfl HD1.out HAZ.out (HD.out _ (hp3.keep lw4)) (by omega) (by omega) ?_
        intro v w5 ov gv liesv
        have zw5 := gv.size
        refine hK.out _ _ trivial (fun hHw5 => ?_)
        clear hK K
        try simp only [Act.put, List.getElem_toArray, List.getElem_cons_succ, List.getElem_cons_zero, List.setIfInBounds_toArray, List.set_cons_zero, List.set_cons_succ]
        have lw5 : Below w3.heap.size w3 w5 := lw4.grown gv (by omega) (fun k e => by cases e; exact Nat.le_refl _)
        refine wpAnyH_ready (rs := [5]) (by kernel_rfl) (by simp) ?_
        refine AllReadyH.cons rfl (fun K hK => ?_) AllReadyH.nil
        go_simp
        have o2 := World.ownsRow_made (base := w5.heap.size) (e := 59) (size := 5) w5 #[] 0 (Nat.le_refl _) (Nat.zero_le _) rfl
        obtain ⟨w6, hmw6⟩ : ∃ w6, w6 = w5.alloc (.cells #[] 59) := ⟨_, rfl⟩
        have lw6 : Below w5.heap.size w5 w6 := by rw [hmw6]; exact (Below.refl _ _).alloc (Nat.le_refl _) _
        have zw6 : w5.heap.size + 1 ≤ w6.heap.size := by rw [hmw6]; simp
        rw [← hmw6] at o2 ⊢
        clear hmw6
        refine hK.out _ _ trivial (fun hHw6 => ?_)
        clear hK K
        try simp only [Act.put, List.getElem_toArray, List.getElem_cons_succ, List.getElem_cons_zero, List.setIfInBounds_toArray, List.set_cons_zero, List.set_cons_succ]
        have lw6' : Below w3.heap.size w3 w6 := lw5.trans (lw6.mono (by omega))
        refine wpAnyH_ready (rs := [9]) (by kernel_rfl) (by simp) ?_
        refine AllReadyH.cons rfl (fun K hK => ?_) AllReadyH.nil
        refine step_append_items (by kernel_rfl) _ _ rfl w5.heap.size _ 0 [] rfl o2 a i c (xs.take i) rfl HD2.out (fun e => ⟨HZ.out e, by rw [HA0.out e]; simp⟩) ((hp3.keep lw6').take i) (by omega) (by omega) ?_
        intro u w7 ou gu liesu
        have zw7 := gu.size
        refine hK.out _ _ trivial (fun hHw7 => ?_)
        clear hK K
        try simp only [Act.put, List.getElem_toArray, List.getElem_cons_succ, List.getElem_cons_zero, List.setIfInBounds_toArray, List.set_cons_zero, List.set_cons_succ]
        have lw7 : Below w3.heap.size w3 w7 := lw6'.grown gu (by omega) (fun k e => by cases e; show _ ≤ w5.heap.size; omega)
        have ov7 := (copied_two ov lw6).kept gu (lt_ne (W := w5) ov (Nat.le_refl _))
        refine tk 10 ?_
        refine tk 11 ?_
        refine tk 12 ?_
        refine wpAnyH_done (by kernel_rfl) ?_ _
        go_wp2_with fail
        exact bodyPost_ret (v := .tuple #[v, u, .int .i64 0]) (by simp [results, Try.results49, go_sem]) rfl ⟨v, u, rfl, ⟨own_base (by simpa using ov7) (by omega), own_base (by simpa using ou) (by omega), hB3.trans (lw7.mono hB3s)⟩⟩
      · go_simp
        have o2 := World.ownsRow_made (base := w4.heap.size) (e := 59) (size := 5) w4 #[] 0 (Nat.le_refl _) (Nat.zero_le _) rfl
        obtain ⟨w5, hmw5⟩ : ∃ w5, w5 = w4.alloc (.cells #[] 59) := ⟨_, rfl⟩
        have lw5 : Below w4.heap.size w4 w5 := by rw [hmw5]; exact (Below.refl _ _).alloc (Nat.le_refl _) _
        have zw5 : w4.heap.size + 1 ≤ w5.heap.size := by rw [hmw5]; simp
        rw [← hmw5] at o2 ⊢
        clear hmw5
        refine hK.out _ _ trivial (fun hHw5 => ?_)
        clear hK K
        try simp only [Act.put, List.getElem_toArray, List.getElem_cons_succ, List.getElem_cons_zero, List.setIfInBounds_toArray, List.set_cons_zero, List.set_cons_succ]
        have lw5' : Below w3.heap.size w3 w5 := lw4.trans (lw5.mono (by omega))
        refine wpAnyH_ready (rs := [4]) (by kernel_rfl) (by simp) ?_
        refine AllReadyH.cons rfl (fun K hK => ?_) AllReadyH.nil
        refine step_append_items (by kernel_rfl) _ _ rfl w3.heap.size _ 0 [] rfl (copied_two o1 lw5) A3 (n - i) (c - i) (xs.drop i) rfl HD1.out HAZ.out (HD.out _ (hp3.keep lw5')) (by omega) (by omega) ?_
        intro v w6 ov gv liesv
        have zw6 := gv.size
        refine hK.out _ _ trivial (fun hHw6 => ?_)
        clear hK K
        try simp only [Act.put, List.getElem_toArray, List.getElem_cons_succ, List.getElem_cons_zero, List.setIfInBounds_toArray, List.set_cons_zero, List.set_cons_succ]
        have lw6 : Below w3.heap.size w3 w6 := lw5'.grown gv (by omega) (fun k e => by cases e; exact Nat.le_refl _)
        have o2' := o2.kept gv (.inr (slice_ne (by dsimp only; omega)))
        refine wpAnyH_ready (rs := [9]) (by kernel_rfl) (by simp) ?_
        refine AllReadyH.cons rfl (fun K hK => ?_) AllReadyH.nil
        refine step_append_items (by kernel_rfl) _ _ rfl w4.heap.size _ 0 [] rfl o2' a i c (xs.take i) rfl HD2.out (fun e => ⟨HZ.out e, by rw [HA0.out e]; simp⟩) ((hp3.keep lw6).take i) (by omega) (by omega) ?_
        intro u w7 ou gu liesu
        have zw7 := gu.size
        refine hK.out _ _ trivial (fun hHw7 => ?_)
        clear hK K
        try simp only [Act.put, List.getElem_toArray, List.getElem_cons_succ, List.getElem_cons_zero, List.setIfInBounds_toArray, List.set_cons_zero, List.set_cons_succ]
        have lw7 : Below w3.heap.size w3 w7 := lw6.grown gu (by omega) (fun k e => by cases e; show _ ≤ w4.heap.size; omega)
        have ov7 := ov.kept gu (.inr (some_ne liesv (by dsimp only; omega) (by dsimp only; omega)))
        refine tk 10 ?_
        refine tk 11 ?_
        refine tk 12 ?_
        refine wpAnyH_done (by kernel_rfl) ?_ _
        go_wp2_with fail
        exact bodyPost_ret (v := .tuple #[v, u, .int .i64 0]) (by simp [results, Try.results49, go_sem]) rfl ⟨v, u, rfl, ⟨own_base (by simpa using ov7) (by omega), own_base (by simpa using ou) (by omega), hB3.trans (lw7.mono hB3s)⟩⟩
    · go_simp
      have o2 := World.ownsRow_made (base := w3.heap.size) (e := 59) (size := 5) w3 #[] 0 (Nat.le_refl _) (Nat.zero_le _) rfl
      obtain ⟨w4, hmw4⟩ : ∃ w4, w4 = w3.alloc (.cells #[] 59) := ⟨_, rfl⟩
      have lw4 : Below w3.heap.size w3 w4 := by rw [hmw4]; exact (Below.refl _ _).alloc (Nat.le_refl _) _
      have zw4 : w3.heap.size + 1 ≤ w4.heap.size := by rw [hmw4]; simp
      rw [← hmw4] at o2 ⊢
      clear hmw4
      refine hK.out _ _ trivial (fun hHw4 => ?_)
      clear hK K
      try simp only [Act.put, List.getElem_toArray, List.getElem_cons_succ, List.getElem_cons_zero, List.setIfInBounds_toArray, List.set_cons_zero, List.set_cons_succ]
      refine wpAnyH_ready (rs := [0]) (by kernel_rfl) (by simp) ?_
      refine AllReadyH.cons rfl (fun K hK => ?_) AllReadyH.nil
      go_simp
      have o1 := World.ownsRow_made (base := w4.heap.size) (e := 59) (size := 5) w4 #[] 0 (Nat.le_refl _) (Nat.zero_le _) rfl
      obtain ⟨w5, hmw5⟩ : ∃ w5, w5 = w4.alloc (.cells #[] 59) := ⟨_, rfl⟩
      have lw5 : Below w4.heap.size w4 w5 := by rw [hmw5]; exact (Below.refl _ _).alloc (Nat.le_refl _) _
      have zw5 : w4.heap.size + 1 ≤ w5.heap.size := by rw [hmw5]; simp
      rw [← hmw5] at o1 ⊢
      clear hmw5
      refine hK.out _ _ trivial (fun hHw5 => ?_)
      clear hK K
      try simp only [Act.put, List.getElem_toArray, List.getElem_cons_succ, List.getElem_cons_zero, List.setIfInBounds_toArray, List.set_cons_zero, List.set_cons_succ]
      have lw5' : Below w3.heap.size w3 w5 := lw4.trans (lw5.mono (by omega))
      refine wpAnyH_ready (rs := [4]) (by kernel_rfl) (by simp) ?_
      refine AllReadyH.cons rfl (fun K hK => ?_) AllReadyH.nil
      refine step_append_items (by kernel_rfl) _ _ rfl w4.heap.size _ 0 [] rfl o1 A3 (n - i) (c - i) (xs.drop i) rfl HD1.out HAZ.out (HD.out _ (hp3.keep lw5')) (by omega) (by omega) ?_
      intro v w6 ov gv liesv
      have zw6 := gv.size
      refine hK.out _ _ trivial (fun hHw6 => ?_)
      clear hK K
      try simp only [Act.put, List.getElem_toArray, List.getElem_cons_succ, List.getElem_cons_zero, List.setIfInBounds_toArray, List.set_cons_zero, List.set_cons_succ]
      have lw6 : Below w3.heap.size w3 w6 := lw5'.grown gv (by omega) (fun k e => by cases e; show _ ≤ w4.heap.size; omega)
      have o2' := (copied_two o2 lw5).kept gv (.inr (slice_ne (by dsimp only; omega)))
      refine wpAnyH_ready (rs := [9]) (by kernel_rfl) (by simp) ?_
      refine AllReadyH.cons rfl (fun K hK => ?_) AllReadyH.nil
      refine step_append_items (by kernel_rfl) _ _ rfl w3.heap.size _ 0 [] rfl o2' a i c (xs.take i) rfl HD2.out (fun e => ⟨HZ.out e, by rw [HA0.out e]; simp⟩) ((hp3.keep lw6).take i) (by omega) (by omega) ?_
      intro u w7 ou gu liesu
      have zw7 := gu.size
      refine hK.out _ _ trivial (fun hHw7 => ?_)
      clear hK K
      try simp only [Act.put, List.getElem_toArray, List.getElem_cons_succ, List.getElem_cons_zero, List.setIfInBounds_toArray, List.set_cons_zero, List.set_cons_succ]
      have lw7 : Below w3.heap.size w3 w7 := lw6.grown gu (by omega) (fun k e => by cases e; show _ ≤ w3.heap.size; omega)
      have ov7 := ov.kept gu (.inr (some_ne liesv (by dsimp only; omega) (by dsimp only; omega)))
      refine tk 10 ?_
      refine tk 11 ?_
      refine tk 12 ?_
      refine wpAnyH_done (by kernel_rfl) ?_ _
      go_wp2_with fail
      exact bodyPost_ret (v := .tuple #[v, u, .int .i64 0]) (by simp [results, Try.results49, go_sem]) rfl ⟨v, u, rfl, ⟨own_base (by simpa using ov7) (by omega), own_base (by simpa using ou) (by omega), hB3.trans (lw7.mono hB3s)⟩⟩

set_option maxHeartbeats 2000000 in
theorem shedOf_err (xs : List ItemD) (a : Option Addr) (n c : Nat) (limit : Int) (w : World) (hn : xs.length = n) (hm : n ≤ maxLen) (hp : ItemsAt w a xs) (he : shedE xs limit ≠ 0) :
    Calls Try.prog 49 #[.slice a n c, .int .i64 limit] w fun e w' => e = .returned (.tuple #[.slice none 0 0, .slice none 0 0, .int .i64 (shedE xs limit)]) ∧ Below w.heap.size w w' := by
  have HP : Hid (ItemsAt w a xs) := hp
  have HN : Hid (xs.length = n) := hn
  have HM : Hid (n ≤ maxLen) := hm
  cases hl : lineOk xs with
  | false =>
    have e1 : shedE xs limit = 1 := by unfold shedE; rw [hl]; rfl
    have HL : Hid (lineOk xs = false) := hl
    rw [e1]
    clear hp hn hm he hl e1
    go_enter Try.func49, Try.ntmps49
    go_wp2_with fail
    refine (lineFine_any xs _ _ _ _ HN.out HM.out HP.out).mono ?_
    rintro e w2 ⟨rfl, hB2⟩
    rw [HL.out]
    go_wp2_with fail
    exact bodyPost_ret (v := .tuple #[.slice none 0 0, .slice none 0 0, .int .i64 1]) (by simp [results, Try.results49, go_sem]) rfl ⟨rfl, hB2⟩
  | true =>
    have h0 : limit < 0 := by
      rcases Int.lt_or_le limit 0 with h | h
      · exact h
      · exfalso; apply he; unfold shedE; rw [if_pos hl, if_neg (by omega)]
    have e1 : shedE xs limit = 3 := by unfold shedE; rw [if_pos hl, if_pos h0]
    have HL : Hid (lineOk xs = true) := hl
    rw [e1]
    clear hp hn hm he hl e1
    go_enter Try.func49, Try.ntmps49
    go_wp2_with fail
    refine (lineFine_any xs _ _ _ _ HN.out HM.out HP.out).mono ?_
    rintro e w2 ⟨rfl, hB2⟩
    rw [HL.out]
    go_wp2_with fail
    exact bodyPost_ret (v := .tuple #[.slice none 0 0, .slice none 0 0, .int .i64 3]) (by simp [results, Try.results49, go_sem]) rfl ⟨rfl, hB2⟩

theorem shedOf_any (xs : List ItemD) (a : Option Addr) (n c : Nat) (limit : Int) (w : World) (hn : xs.length = n) (hnc : n ≤ c) (hcm : c ≤ maxLen) (hz : a = none → c = 0) (hp : ItemsAt w a xs) (h1 : limit ≤ 9223372036854775807) :
    Calls Try.prog 49 #[.slice a n c, .int .i64 limit] w fun e w' => ∃ v u m1 m2, e = .returned (.tuple #[v, u, .int .i64 (shedE xs limit)]) ∧ w'.ownsRow w.heap.size 59 5 v m1 (itemCells (shedA xs limit)) ∧ w'.ownsRow w.heap.size 59 5 u m2 (itemCells (shedB xs limit)) ∧ Below w.heap.size w w' := by
  by_cases he : shedE xs limit = 0
  · have hl : lineOk xs = true := by
      cases hl : lineOk xs with
      | true => rfl
      | false => unfold shedE at he; rw [hl] at he; simp at he
    have h0 : 0 ≤ limit := by
      rcases Int.lt_or_le limit 0 with h | h
      · unfold shedE at he; rw [if_pos hl, if_pos h] at he; cases he
      · exact h
    refine (shedOf_ok xs a n c _ limit w hn hnc hcm hz hp hl h0 h1 rfl).mono ?_
    rintro e w' ⟨v, u, rfl, o1, o2, hB⟩
    exact ⟨v, u, _, _, by rw [he], by unfold shedA; rw [if_pos he, hn]; exact o1, by unfold shedB; rw [if_pos he, hn]; exact o2, hB⟩
  · refine (shedOf_err xs a n c limit w hn (Nat.le_trans hnc hcm) hp he).mono ?_
    rintro e w' ⟨rfl, hB⟩
    exact ⟨_, _, 0, 0, rfl, by unfold shedA; rw [if_neg he]; exact World.ownsRow_nil _ _ _ _, by unfold shedB; rw [if_neg he]; exact World.ownsRow_nil _ _ _ _, hB⟩
end Go.Proofs.Ythhkpgnjpieckaa
