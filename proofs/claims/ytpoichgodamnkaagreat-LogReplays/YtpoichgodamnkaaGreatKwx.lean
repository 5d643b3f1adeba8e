import Derived.Test.YtpoichgodamnkaaGreatVKf
namespace Go.Proofs.YtpoichgodamnkaaGreat
open Go.RowKit Go.Maps
set_option linter.unusedVariables false
set_option maxRecDepth 100000
def ActOk (x : ActD) : Prop := (0 ≤ x.kind ∧ x.kind ≤ 255) ∧ (0 ≤ x.a ∧ x.a ≤ 255) ∧ (0 ≤ x.b ∧ x.b ≤ 255) ∧ x.key.size ≤ 255 ∧ x.body.size ≤ 255
theorem act_ok {x : ActD} (h : putE (actT x) = 0) : ActOk x := by
 unfold putE at h
 by_cases g : (actT x).all ThingD.ok = true
 ·unfold actT at g
  simp [ThingD.ok] at g
  obtain ⟨g1, g2, g3, g4, g5⟩ := g
  exact ⟨g1, g2, g3, g4, g5⟩
 ·rw [if_neg g] at h; cases h
theorem put_bytes {x : ActD} (h : putE (actT x) = 0) : (putV (actT x)).data.toList = putB_ (actT x) := by
 unfold putV; rw [if_pos h]; rfl
theorem actB_eq (x : ActD) : putB_ (actT x) = [oct8 x.kind] ++ ([oct8 x.a] ++ ([oct8 x.b] ++ (textB x.key ++ textB x.body))) := by
 unfold putB_ actT
 simp [ThingD.bytes]
theorem rAct_fwd {s : ByteArray} {i j : Nat} {x : ActD} (h : rAct s i = some (x, j)) : Has s i (putB_ (actT x)) ∧ j = i + (putB_ (actT x)).length ∧ ActOk x := by
 unfold rAct at h
 cases h1 : rNum s i with
 | none => rw [h1] at h; cases h
 | some q1 =>
   obtain ⟨a, i1⟩ := q1
   rw [h1] at h; dsimp only at h
   cases h2 : rNum s i1 with
   | none => rw [h2] at h; cases h
   | some q2 =>
     obtain ⟨b, i2⟩ := q2
     rw [h2] at h; dsimp only at h
     cases h3 : rNum s i2 with
     | none => rw [h3] at h; cases h
     | some q3 =>
       obtain ⟨c, i3⟩ := q3
       rw [h3] at h; dsimp only at h
       cases h4 : rText s i3 with
       | none => rw [h4] at h; cases h
       | some q4 =>
         obtain ⟨t, i4⟩ := q4
         rw [h4] at h; dsimp only at h
         cases h5 : rText s i4 with
         | none => rw [h5] at h; cases h
         | some q5 =>
           obtain ⟨u, i5⟩ := q5
           rw [h5] at h; dsimp only at h
           cases h
           obtain ⟨f1, e1, o1⟩ := (reads_num s).fwd _ _ _ h1
           obtain ⟨f2, e2, o2⟩ := (reads_num s).fwd _ _ _ h2
           obtain ⟨f3, e3, o3⟩ := (reads_num s).fwd _ _ _ h3
           obtain ⟨f4, e4, o4⟩ := (reads_text s).fwd _ _ _ h4
           obtain ⟨f5, e5, o5⟩ := (reads_text s).fwd _ _ _ h5
           subst e1 e2 e3 e4 e5
           rw [actB_eq]
           refine ⟨Has.append.2 ⟨f1, Has.append.2 ⟨f2, Has.append.2 ⟨f3, Has.append.2 ⟨f4, f5⟩⟩⟩⟩, by simp only [List.length_append]; omega, by dsimp only; omega, by dsimp only; omega, by dsimp only; omega, by dsimp only; omega, by dsimp only; omega⟩
theorem rAct_bwd {s : ByteArray} {i : Nat} {x : ActD} (ho : ActOk x) (h : Has s i (putB_ (actT x))) : rAct s i = some (x, i + (putB_ (actT x)).length) := by
 obtain ⟨k, a, b, t, u⟩ := x
 obtain ⟨o1, o2, o3, o4, o5⟩ := ho
 dsimp only at o1 o2 o3 o4 o5
 obtain ⟨k, rfl⟩ : ∃ n : Nat, k = n := ⟨k.toNat, by omega⟩
 obtain ⟨a, rfl⟩ : ∃ n : Nat, a = n := ⟨a.toNat, by omega⟩
 obtain ⟨b, rfl⟩ : ∃ n : Nat, b = n := ⟨b.toNat, by omega⟩
 rw [actB_eq] at h ⊢
 dsimp only at h ⊢
 obtain ⟨f1, h⟩ := Has.append.1 h
 obtain ⟨f2, h⟩ := Has.append.1 h
 obtain ⟨f3, h⟩ := Has.append.1 h
 obtain ⟨f4, f5⟩ := Has.append.1 h
 have g1 := (reads_num s).bwd _ k (by omega) f1
 have g2 := (reads_num s).bwd _ a (by omega) f2
 have g3 := (reads_num s).bwd _ b (by omega) f3
 have g4 := (reads_text s).bwd _ t (by omega) f4
 have g5 := (reads_text s).bwd _ u (by omega) f5
 try dsimp only at g1 g2 g3
 unfold rAct
 rw [g1]; dsimp only
 rw [g2]; dsimp only
 rw [g3]; dsimp only
 rw [g4]; dsimp only
 rw [g5]; dsimp only
 simp only [List.length_append]
 congr 2; omega
theorem rAct_end {s : ByteArray} {i : Nat} (h : s.size ≤ i) : rAct s i = none := by
 unfold rAct rNum
 rw [dif_neg (by omega)]
theorem cat_list (s t : ByteArray) : (s ++ t).data.toList = s.data.toList ++ t.data.toList := by
 rw [ByteArray.data_append, Array.toList_append]
theorem cat_size (s t : ByteArray) : (s ++ t).size = s.size + t.size := ByteArray.size_append
theorem Has.more {s t : ByteArray} {i : Nat} {l : List UInt8} (h : Has s i l) : Has (s ++ t) i l := by
 refine ⟨by rw [cat_size]; have := h.1; omega, ?_⟩
 rw [cat_list, List.drop_append_of_le_length (by rw [size_list]; exact h.1)]
 exact h.2.trans (List.prefix_append _ _)
theorem has_next (s t : ByteArray) : Has (s ++ t) s.size t.data.toList := by
 refine ⟨by rw [cat_size]; omega, ?_⟩
 rw [cat_list, ← size_list, List.drop_left]
 exact List.prefix_rfl
theorem repL_end {s : ByteArray} (f : Nat) {i : Nat} (h : s.size ≤ i) : repL s f i = ([], i) := by
 cases f with
 | zero => rfl
 | succ f => unfold repL; rw [rAct_end h]
theorem repL_more {t : ByteArray} {x : ActD} (hx : putE (actT x) = 0) : ∀ (f i : Nat), (repL t f i).2 = t.size → (repL t f i).1.length < f → repL (t ++ putV (actT x)) f i = ((repL t f i).1 ++ [x], (t ++ putV (actT x)).size)
 | 0, i, _, hl => absurd hl (Nat.not_lt_zero _)
 | f + 1, i, he, hl => by
   cases h : rAct t i with
   | none =>
     have e0 : repL t (f + 1) i = ([], i) := by unfold repL; rw [h]
     rw [e0] at he ⊢
     dsimp only at he
     subst he
     have hn : rAct (t ++ putV (actT x)) t.size = some (x, t.size + (putB_ (actT x)).length) := rAct_bwd (act_ok hx) (by have := has_next t (putV (actT x)); rwa [put_bytes hx] at this)
     have hz : t.size + (putB_ (actT x)).length = (t ++ putV (actT x)).size := by rw [cat_size, ← size_list (putV _), put_bytes hx]
     rw [hz] at hn
     conv => lhs; unfold repL
     rw [hn]
     dsimp only
     rw [repL_end f (Nat.le_refl _)]
     rfl
   | some q =>
     obtain ⟨y, j⟩ := q
     have e0 : repL t (f + 1) i = (y :: (repL t f j).1, (repL t f j).2) := by conv => lhs; unfold repL; rw [h]
     rw [e0] at he hl ⊢
     dsimp only at he hl
     have ih := repL_more hx f j he (by simpa using hl)
     obtain ⟨f1, f2, f3⟩ := rAct_fwd h
     have hn : rAct (t ++ putV (actT x)) i = some (y, j) := by rw [f2]; exact rAct_bwd f3 f1.more
     conv => lhs; unfold repL; rw [hn]
     dsimp only
     rw [ih]
     rfl
theorem doneL_append (p : PlanD) : ∀ (l : List ActD) (x : ActD) (s : StateD), doneL p (l ++ [x]) s = stepD p (doneL p l s) x
 | [], x, s => rfl
 | y :: l, x, s => doneL_append p l x (stepD p s y)
theorem more_plain {p : PlanD} {t : ByteArray} {x : ActD} (h1 : recE p t = 0) (h2 : putE (actT x) = 0) (h3 : repE t = 0) (h4 : repN t = (t.size : Int)) (h5 : (repA t).length < 60) (h6 : t.size + (putV (actT x)).size ≤ 4096) :
 recE p (t ++ putV (actT x)) = 0 ∧ recN p (t ++ putV (actT x)) = recN p t + 1 ∧ recS p (t ++ putV (actT x)) = stepD p (recS p t) x := by
 have e1 : repE (t ++ putV (actT x)) = 0 := by unfold repE; rw [if_neg (by rw [cat_size]; omega)]
 have e2 : recE p (t ++ putV (actT x)) = 0 := by
  unfold recE at h1 ⊢
  by_cases hc : chkP p ≠ 0
  ·rw [if_pos hc] at h1; exact absurd h1 hc
  ·rw [if_neg hc]; exact e1
 have e3 : repA t = (repL t 60 0).1 := by unfold repA; rw [if_pos h3]
 have e4 : (repL t 60 0).2 = t.size := by unfold repN at h4; rw [if_pos h3] at h4; omega
 have e5 : repA (t ++ putV (actT x)) = repA t ++ [x] := by
  rw [e3] at h5
  rw [e3]; unfold repA; rw [if_pos e1, repL_more h2 60 0 e4 h5]
 refine ⟨e2, ?_, ?_⟩
 ·unfold recN; rw [if_pos e2, if_pos h1, e5]; simp
 ·unfold recS; rw [e5, doneL_append]
end Go.Proofs.YtpoichgodamnkaaGreat
