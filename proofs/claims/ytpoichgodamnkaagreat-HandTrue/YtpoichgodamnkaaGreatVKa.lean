import Derived.Test.YtpoichgodamnkaaGreatVJg
import Derived.Test.YtpoichgodamnkaaGreatKnx
import Derived.Test.YtpoichgodamnkaaGreatVUk
namespace Go.Proofs.YtpoichgodamnkaaGreat
open Go.RowKit Go.Maps
set_option linter.unusedVariables false
set_option maxRecDepth 100000
set_option maxHeartbeats 8000000
structure ActD where
 kind : Int
 a : Int
 b : Int
 key : ByteArray
 body : ByteArray
def ActD.val (x : ActD) : Value := .agg #[.int .i64 x.kind, .int .i64 x.a, .int .i64 x.b, .string x.key, .string x.body]
def doE (p : PlanD) (s : StateD) (x : ActD) : Int :=
 if x.kind = 1 then pubE p s x.a x.key x.body else if x.kind = 2 then joinE p s x.a x.b else if x.kind = 3 then leavE p s x.a else if x.kind = 4 then delE p s x.a else if x.kind = 5 then ackE p s x.a else if x.kind = 6 then rejE p s x.a else 7
def doS (p : PlanD) (s : StateD) (x : ActD) : StateD :=
 if x.kind = 1 then arrS p 600 s (pubL p x.a x.key x.body) else if x.kind = 2 then joinS s x.a x.b else if x.kind = 3 then leavS p s x.a else if x.kind = 4 then delS s x.a else if x.kind = 5 then ackS s x.a else rejS p s x.a (x.b != 0)
theorem do_any (p : PlanD) (a1 a2 a3 : Option Addr) (n1 c1 n2 c2 n3 c3 : Nat) (s : StateD) (b1 b2 b3 : Option Addr) (m1 d1 m2 d2 m3 d3 : Nat) (x : ActD) (w : World) (hp : PlanAt w a1 a2 a3 n1 n2 n3 p) (hs : StateAt w b1 b2 b3 m1 m2 m3 s) (hn2 : b2 = none → d2 = 0) (hn3 : b3 = none → d3 = 0) :
 Calls Tryz.prog 49 #[.agg #[.slice a1 n1 c1, .slice a2 n2 c2, .slice a3 n3 c3], .agg #[.slice b1 m1 d1, .slice b2 m2 d2, .slice b3 m3 d3, .int .i64 s.nextSeq, .int .i64 s.nextTag, .int .i64 s.came, .int .i64 s.acked, .int .i64 s.dropped], x.val] w fun e w' => ∃ v, e = .returned (.tuple #[v, .int .i64 (doE p s x)]) ∧ StRes w' w.heap.size v (doE p s x) (doS p s x) ∧ Below w.heap.size w w' := by
 obtain ⟨kd, ka, kb, ky, bd⟩ := x
 unfold ActD.val
 dsimp only
 obtain ⟨hz5, hg5, hB5⟩ := allocs_heap [.cells #[.slice a1 n1 c1, .slice a2 n2 c2, .slice a3 n3 c3] 26, .cells #[.slice b1 m1 d1, .slice b2 m2 d2, .slice b3 m3 d3, .int .i64 s.nextSeq, .int .i64 s.nextTag, .int .i64 s.came, .int .i64 s.acked, .int .i64 s.dropped] 31, .cells #[.int .i64 kd, .int .i64 ka, .int .i64 kb, .string ky, .string bd] 72, .cells #[.slice none 0 0, .slice none 0 0, .slice none 0 0, .int .i64 0, .int .i64 0, .int .i64 0, .int .i64 0, .int .i64 0] 31] w
 obtain ⟨W5, hW5⟩ : ∃ W5, W5 = List.foldl World.alloc w [.cells #[.slice a1 n1 c1, .slice a2 n2 c2, .slice a3 n3 c3] 26, .cells #[.slice b1 m1 d1, .slice b2 m2 d2, .slice b3 m3 d3, .int .i64 s.nextSeq, .int .i64 s.nextTag, .int .i64 s.came, .int .i64 s.acked, .int .i64 s.dropped] 31, .cells #[.int .i64 kd, .int .i64 ka, .int .i64 kb, .string ky, .string bd] 72, .cells #[.slice none 0 0, .slice none 0 0, .slice none 0 0, .int .i64 0, .int .i64 0, .int .i64 0, .int .i64 0, .int .i64 0] 31] := ⟨_, rfl⟩
 rw [← hW5] at hz5 hg5 hB5
 have HW5 : Hid (W5 = ((((w.alloc (.cells #[.slice a1 n1 c1, .slice a2 n2 c2, .slice a3 n3 c3] 26)).alloc (.cells #[.slice b1 m1 d1, .slice b2 m2 d2, .slice b3 m3 d3, .int .i64 s.nextSeq, .int .i64 s.nextTag, .int .i64 s.came, .int .i64 s.acked, .int .i64 s.dropped] 31)).alloc (.cells #[.int .i64 kd, .int .i64 ka, .int .i64 kb, .string ky, .string bd] 72)).alloc (.cells #[.slice none 0 0, .slice none 0 0, .slice none 0 0, .int .i64 0, .int .i64 0, .int .i64 0, .int .i64 0, .int .i64 0] 31))) := hW5
 have HZ5 : Hid (W5.heap.size = w.heap.size + 4) := by show _ = _; rw [hz5]; rfl
 have X3 := hidI (hg5 3 _ rfl)
 have HB5 := hidI hB5
 have HP := hidI (hp.keep hB5)
 have HS := hidI (hs.keep hB5)
 have HN := hidI (And.intro hn2 hn3)
 clear hW5 hz5 hg5 hB5 hp hs hn2 hn3
 by_cases h1 : kd = 1
 ·subst h1
  have HDE : Hid (doE p s ⟨1, ka, kb, ky, bd⟩ = pubE p s ka ky bd) := rfl
  have HDS : Hid (doS p s ⟨1, ka, kb, ky, bd⟩ = arrS p 600 s (pubL p ka ky bd)) := rfl
  obtain ⟨E, hE⟩ : ∃ E, E = pubE p s ka ky bd := ⟨_, rfl⟩
  have HE := hidI hE
  rw [HDE.out, HDS.out, ← hE]
  clear hE
  go_enter Tryz.func49, Tryz.ntmps49
  go_wp2_with fail
  rw [← HW5.out]
  refine (publish_any p _ _ _ _ _ _ _ _ _ s _ _ _ _ _ _ _ _ _ ka ky bd _ HP.out HS.out HN.out.1 HN.out.2).mono ?_
  rintro e w6 ⟨v, rfl, hres, hB6⟩
  rw [← HE.out] at hres ⊢
  generalize numOf E _ = num
  have x6 := pkp_ X3.out hB6
  obtain ⟨y0, y1, y2, y3, y4, y5, y6, y7⟩ := st_cells x6
  have f0 := foc_ x6 0
  have f1 := foc_ x6 1
  have f2 := foc_ x6 2
  have f3 := foc_ x6 3
  have f4 := foc_ x6 4
  have f5 := foc_ x6 5
  have f6 := foc_ x6 6
  have f7 := foc_ x6 7
  obtain ⟨x1, x2, x3, k1, e1, k2, e2, k3, e3, i1, i2, i3, i4, i5, rfl⟩ := hres.shape
  have X6 := hidI x6
  have HRES := hidI hres
  have HB6 := hidI hB6
  have hlt := lth_ x6
  clear x6 hres hB6
  go_wp2_with fail
  generalize hW7 : World.setCell (World.setCell (World.setCell (World.setCell (World.setCell (World.setCell (World.setCell (World.setCell w6 _ _) _ _) _ _) _ _) _ _) _ _) _ _) _ _ = W7
  obtain ⟨b7, t7⟩ := store8 X6.out hW7
  have hB7 : Below w.heap.size w W7 := HB5.out.trans ((HB6.out.mono HB5.out.size).trans (t7.below (by have := HB6.out.size; have := HZ5.out; omega) (by omega)))
  have l8 : Below W7.heap.size W7 (W7.alloc (.cells #[.slice x1 k1 e1, .slice x2 k2 e2, .slice x3 k3 e3, .int .i64 i1, .int .i64 i2, .int .i64 i3, .int .i64 i4, .int .i64 i5] 31)) := (Below.refl _ _).alloc (Nat.le_refl _) _
  obtain ⟨z0, z1, z2, z3, z4, z5, z6, z7⟩ := st_cells (pkp_ b7 l8)
  exact bodyPost_ret (v := .tuple #[.agg #[.slice x1 k1 e1, .slice x2 k2 e2, .slice x3 k3 e3, .int .i64 i1, .int .i64 i2, .int .i64 i3, .int .i64 i4, .int .i64 i5], .int .i64 E]) (by simp [results, Tryz.results49, go_sem, z0, z1, z2, z3, z4, z5, z6, z7]) rfl ⟨_, rfl, ((HRES.out.turn X6.out t7).keep l8).lower (by have := HZ5.out; omega), hB7.trans (l8.mono hB7.size)⟩
 by_cases h2 : kd = 2
 ·subst h2
  have HDE : Hid (doE p s ⟨2, ka, kb, ky, bd⟩ = joinE p s ka kb) := rfl
  have HDS : Hid (doS p s ⟨2, ka, kb, ky, bd⟩ = joinS s ka kb) := rfl
  obtain ⟨E, hE⟩ : ∃ E, E = joinE p s ka kb := ⟨_, rfl⟩
  have HE := hidI hE
  rw [HDE.out, HDS.out, ← hE]
  clear hE h1
  go_enter Tryz.func49, Tryz.ntmps49
  go_wp2_with fail
  rw [← HW5.out]
  refine (join_any p _ _ _ _ _ _ _ _ _ s _ _ _ _ _ _ _ _ _ ka kb _ HP.out HS.out HN.out.1 HN.out.2).mono ?_
  rintro e w6 ⟨v, rfl, hres, hB6⟩
  rw [← HE.out] at hres ⊢
  generalize numOf E _ = num
  have x6 := pkp_ X3.out hB6
  obtain ⟨y0, y1, y2, y3, y4, y5, y6, y7⟩ := st_cells x6
  have f0 := foc_ x6 0
  have f1 := foc_ x6 1
  have f2 := foc_ x6 2
  have f3 := foc_ x6 3
  have f4 := foc_ x6 4
  have f5 := foc_ x6 5
  have f6 := foc_ x6 6
  have f7 := foc_ x6 7
  obtain ⟨x1, x2, x3, k1, e1, k2, e2, k3, e3, i1, i2, i3, i4, i5, rfl⟩ := hres.shape
  have X6 := hidI x6
  have HRES := hidI hres
  have HB6 := hidI hB6
  have hlt := lth_ x6
  clear x6 hres hB6
  go_wp2_with fail
  generalize hW7 : World.setCell (World.setCell (World.setCell (World.setCell (World.setCell (World.setCell (World.setCell (World.setCell w6 _ _) _ _) _ _) _ _) _ _) _ _) _ _) _ _ = W7
  obtain ⟨b7, t7⟩ := store8 X6.out hW7
  have hB7 : Below w.heap.size w W7 := HB5.out.trans ((HB6.out.mono HB5.out.size).trans (t7.below (by have := HB6.out.size; have := HZ5.out; omega) (by omega)))
  have l8 : Below W7.heap.size W7 (W7.alloc (.cells #[.slice x1 k1 e1, .slice x2 k2 e2, .slice x3 k3 e3, .int .i64 i1, .int .i64 i2, .int .i64 i3, .int .i64 i4, .int .i64 i5] 31)) := (Below.refl _ _).alloc (Nat.le_refl _) _
  obtain ⟨z0, z1, z2, z3, z4, z5, z6, z7⟩ := st_cells (pkp_ b7 l8)
  exact bodyPost_ret (v := .tuple #[.agg #[.slice x1 k1 e1, .slice x2 k2 e2, .slice x3 k3 e3, .int .i64 i1, .int .i64 i2, .int .i64 i3, .int .i64 i4, .int .i64 i5], .int .i64 E]) (by simp [results, Tryz.results49, go_sem, z0, z1, z2, z3, z4, z5, z6, z7]) rfl ⟨_, rfl, ((HRES.out.turn X6.out t7).keep l8).lower (by have := HZ5.out; omega), hB7.trans (l8.mono hB7.size)⟩
 by_cases h3 : kd = 3
 ·subst h3
  have HDE : Hid (doE p s ⟨3, ka, kb, ky, bd⟩ = leavE p s ka) := rfl
  have HDS : Hid (doS p s ⟨3, ka, kb, ky, bd⟩ = leavS p s ka) := rfl
  obtain ⟨E, hE⟩ : ∃ E, E = leavE p s ka := ⟨_, rfl⟩
  have HE := hidI hE
  rw [HDE.out, HDS.out, ← hE]
  clear hE h1 h2
  go_enter Tryz.func49, Tryz.ntmps49
  go_wp2_with fail
  rw [← HW5.out]
  refine (leave_any p _ _ _ _ _ _ _ _ _ s _ _ _ _ _ _ _ _ _ ka _ HP.out HS.out HN.out.1 HN.out.2).mono ?_
  rintro e w6 ⟨v, rfl, hres, hB6⟩
  rw [← HE.out] at hres ⊢
  have x6 := pkp_ X3.out hB6
  obtain ⟨y0, y1, y2, y3, y4, y5, y6, y7⟩ := st_cells x6
  have f0 := foc_ x6 0
  have f1 := foc_ x6 1
  have f2 := foc_ x6 2
  have f3 := foc_ x6 3
  have f4 := foc_ x6 4
  have f5 := foc_ x6 5
  have f6 := foc_ x6 6
  have f7 := foc_ x6 7
  obtain ⟨x1, x2, x3, k1, e1, k2, e2, k3, e3, i1, i2, i3, i4, i5, rfl⟩ := hres.shape
  have X6 := hidI x6
  have HRES := hidI hres
  have HB6 := hidI hB6
  have hlt := lth_ x6
  clear x6 hres hB6
  go_wp2_with fail
  generalize hW7 : World.setCell (World.setCell (World.setCell (World.setCell (World.setCell (World.setCell (World.setCell (World.setCell w6 _ _) _ _) _ _) _ _) _ _) _ _) _ _) _ _ = W7
  obtain ⟨b7, t7⟩ := store8 X6.out hW7
  have hB7 : Below w.heap.size w W7 := HB5.out.trans ((HB6.out.mono HB5.out.size).trans (t7.below (by have := HB6.out.size; have := HZ5.out; omega) (by omega)))
  obtain ⟨z0, z1, z2, z3, z4, z5, z6, z7⟩ := st_cells b7
  exact bodyPost_ret (v := .tuple #[.agg #[.slice x1 k1 e1, .slice x2 k2 e2, .slice x3 k3 e3, .int .i64 i1, .int .i64 i2, .int .i64 i3, .int .i64 i4, .int .i64 i5], .int .i64 E]) (by simp [results, Tryz.results49, go_sem, z0, z1, z2, z3, z4, z5, z6, z7]) rfl ⟨_, rfl, (HRES.out.turn X6.out t7).lower (by have := HZ5.out; omega), hB7⟩
 by_cases h4 : kd = 4
 ·subst h4
  have HDE : Hid (doE p s ⟨4, ka, kb, ky, bd⟩ = delE p s ka) := rfl
  have HDS : Hid (doS p s ⟨4, ka, kb, ky, bd⟩ = delS s ka) := rfl
  obtain ⟨E, hE⟩ : ∃ E, E = delE p s ka := ⟨_, rfl⟩
  have HE := hidI hE
  rw [HDE.out, HDS.out, ← hE]
  clear hE h1 h2 h3
  go_enter Tryz.func49, Tryz.ntmps49
  go_wp2_with fail
  rw [← HW5.out]
  refine (deliver_any p _ _ _ _ _ _ _ _ _ s _ _ _ _ _ _ _ _ _ ka _ HP.out HS.out HN.out.1 HN.out.2).mono ?_
  rintro e w6 ⟨v, rfl, hres, hB6⟩
  rw [← HE.out] at hres ⊢
  generalize numOf E _ = num
  have x6 := pkp_ X3.out hB6
  obtain ⟨y0, y1, y2, y3, y4, y5, y6, y7⟩ := st_cells x6
  have f0 := foc_ x6 0
  have f1 := foc_ x6 1
  have f2 := foc_ x6 2
  have f3 := foc_ x6 3
  have f4 := foc_ x6 4
  have f5 := foc_ x6 5
  have f6 := foc_ x6 6
  have f7 := foc_ x6 7
  obtain ⟨x1, x2, x3, k1, e1, k2, e2, k3, e3, i1, i2, i3, i4, i5, rfl⟩ := hres.shape
  have X6 := hidI x6
  have HRES := hidI hres
  have HB6 := hidI hB6
  have hlt := lth_ x6
  clear x6 hres hB6
  go_wp2_with fail
  generalize hW7 : World.setCell (World.setCell (World.setCell (World.setCell (World.setCell (World.setCell (World.setCell (World.setCell w6 _ _) _ _) _ _) _ _) _ _) _ _) _ _) _ _ = W7
  obtain ⟨b7, t7⟩ := store8 X6.out hW7
  have hB7 : Below w.heap.size w W7 := HB5.out.trans ((HB6.out.mono HB5.out.size).trans (t7.below (by have := HB6.out.size; have := HZ5.out; omega) (by omega)))
  have l8 : Below W7.heap.size W7 (W7.alloc (.cells #[.slice x1 k1 e1, .slice x2 k2 e2, .slice x3 k3 e3, .int .i64 i1, .int .i64 i2, .int .i64 i3, .int .i64 i4, .int .i64 i5] 31)) := (Below.refl _ _).alloc (Nat.le_refl _) _
  obtain ⟨z0, z1, z2, z3, z4, z5, z6, z7⟩ := st_cells (pkp_ b7 l8)
  exact bodyPost_ret (v := .tuple #[.agg #[.slice x1 k1 e1, .slice x2 k2 e2, .slice x3 k3 e3, .int .i64 i1, .int .i64 i2, .int .i64 i3, .int .i64 i4, .int .i64 i5], .int .i64 E]) (by simp [results, Tryz.results49, go_sem, z0, z1, z2, z3, z4, z5, z6, z7]) rfl ⟨_, rfl, ((HRES.out.turn X6.out t7).keep l8).lower (by have := HZ5.out; omega), hB7.trans (l8.mono hB7.size)⟩
 by_cases h5 : kd = 5
 ·subst h5
  have HDE : Hid (doE p s ⟨5, ka, kb, ky, bd⟩ = ackE p s ka) := rfl
  have HDS : Hid (doS p s ⟨5, ka, kb, ky, bd⟩ = ackS s ka) := rfl
  obtain ⟨E, hE⟩ : ∃ E, E = ackE p s ka := ⟨_, rfl⟩
  have HE := hidI hE
  rw [HDE.out, HDS.out, ← hE]
  clear hE h1 h2 h3 h4
  go_enter Tryz.func49, Tryz.ntmps49
  go_wp2_with fail
  rw [← HW5.out]
  refine (ack_any p _ _ _ _ _ _ _ _ _ s _ _ _ _ _ _ _ _ _ ka _ HP.out HS.out HN.out.1 HN.out.2).mono ?_
  rintro e w6 ⟨v, rfl, hres, hB6⟩
  rw [← HE.out] at hres ⊢
  have x6 := pkp_ X3.out hB6
  obtain ⟨y0, y1, y2, y3, y4, y5, y6, y7⟩ := st_cells x6
  have f0 := foc_ x6 0
  have f1 := foc_ x6 1
  have f2 := foc_ x6 2
  have f3 := foc_ x6 3
  have f4 := foc_ x6 4
  have f5 := foc_ x6 5
  have f6 := foc_ x6 6
  have f7 := foc_ x6 7
  obtain ⟨x1, x2, x3, k1, e1, k2, e2, k3, e3, i1, i2, i3, i4, i5, rfl⟩ := hres.shape
  have X6 := hidI x6
  have HRES := hidI hres
  have HB6 := hidI hB6
  have hlt := lth_ x6
  clear x6 hres hB6
  go_wp2_with fail
  generalize hW7 : World.setCell (World.setCell (World.setCell (World.setCell (World.setCell (World.setCell (World.setCell (World.setCell w6 _ _) _ _) _ _) _ _) _ _) _ _) _ _) _ _ = W7
  obtain ⟨b7, t7⟩ := store8 X6.out hW7
  have hB7 : Below w.heap.size w W7 := HB5.out.trans ((HB6.out.mono HB5.out.size).trans (t7.below (by have := HB6.out.size; have := HZ5.out; omega) (by omega)))
  obtain ⟨z0, z1, z2, z3, z4, z5, z6, z7⟩ := st_cells b7
  exact bodyPost_ret (v := .tuple #[.agg #[.slice x1 k1 e1, .slice x2 k2 e2, .slice x3 k3 e3, .int .i64 i1, .int .i64 i2, .int .i64 i3, .int .i64 i4, .int .i64 i5], .int .i64 E]) (by simp [results, Tryz.results49, go_sem, z0, z1, z2, z3, z4, z5, z6, z7]) rfl ⟨_, rfl, (HRES.out.turn X6.out t7).lower (by have := HZ5.out; omega), hB7⟩
 by_cases h6 : kd = 6
 ·subst h6
  have HDE : Hid (doE p s ⟨6, ka, kb, ky, bd⟩ = rejE p s ka) := rfl
  have HDS : Hid (doS p s ⟨6, ka, kb, ky, bd⟩ = rejS p s ka (kb != 0)) := rfl
  obtain ⟨E, hE⟩ : ∃ E, E = rejE p s ka := ⟨_, rfl⟩
  have HE := hidI hE
  rw [HDE.out, HDS.out, ← hE]
  clear hE h1 h2 h3 h4 h5
  go_enter Tryz.func49, Tryz.ntmps49
  go_wp2_with fail
  rw [← HW5.out]
  refine (reject_any p _ _ _ _ _ _ _ _ _ s _ _ _ _ _ _ _ _ _ ka (kb != 0) _ HP.out HS.out HN.out.1 HN.out.2).mono ?_
  rintro e w6 ⟨v, rfl, hres, hB6⟩
  rw [← HE.out] at hres ⊢
  have x6 := pkp_ X3.out hB6
  obtain ⟨y0, y1, y2, y3, y4, y5, y6, y7⟩ := st_cells x6
  have f0 := foc_ x6 0
  have f1 := foc_ x6 1
  have f2 := foc_ x6 2
  have f3 := foc_ x6 3
  have f4 := foc_ x6 4
  have f5 := foc_ x6 5
  have f6 := foc_ x6 6
  have f7 := foc_ x6 7
  obtain ⟨x1, x2, x3, k1, e1, k2, e2, k3, e3, i1, i2, i3, i4, i5, rfl⟩ := hres.shape
  have X6 := hidI x6
  have HRES := hidI hres
  have HB6 := hidI hB6
  have hlt := lth_ x6
  clear x6 hres hB6
  go_wp2_with fail
  generalize hW7 : World.setCell (World.setCell (World.setCell (World.setCell (World.setCell (World.setCell (World.setCell (World.setCell w6 _ _) _ _) _ _) _ _) _ _) _ _) _ _) _ _ = W7
  obtain ⟨b7, t7⟩ := store8 X6.out hW7
  have hB7 : Below w.heap.size w W7 := HB5.out.trans ((HB6.out.mono HB5.out.size).trans (t7.below (by have := HB6.out.size; have := HZ5.out; omega) (by omega)))
  obtain ⟨z0, z1, z2, z3, z4, z5, z6, z7⟩ := st_cells b7
  exact bodyPost_ret (v := .tuple #[.agg #[.slice x1 k1 e1, .slice x2 k2 e2, .slice x3 k3 e3, .int .i64 i1, .int .i64 i2, .int .i64 i3, .int .i64 i4, .int .i64 i5], .int .i64 E]) (by simp [results, Tryz.results49, go_sem, z0, z1, z2, z3, z4, z5, z6, z7]) rfl ⟨_, rfl, (HRES.out.turn X6.out t7).lower (by have := HZ5.out; omega), hB7⟩
 have HDE : Hid (doE p s ⟨kd, ka, kb, ky, bd⟩ = 7) := by show doE p s ⟨kd, ka, kb, ky, bd⟩ = 7; unfold doE; simp only; rw [if_neg h1, if_neg h2, if_neg h3, if_neg h4, if_neg h5, if_neg h6]
 have g1 : (kd == 1) = false := by simpa using h1
 have g2 : (kd == 2) = false := by simpa using h2
 have g3 : (kd == 3) = false := by simpa using h3
 have g4 : (kd == 4) = false := by simpa using h4
 have g5 : (kd == 5) = false := by simpa using h5
 have g6 : (kd == 6) = false := by simpa using h6
 rw [HDE.out]
 have x6 := X3.out
 obtain ⟨y0, y1, y2, y3, y4, y5, y6, y7⟩ := st_cells x6
 have f0 := foc_ x6 0
 have f1 := foc_ x6 1
 have f2 := foc_ x6 2
 have f3 := foc_ x6 3
 have f4 := foc_ x6 4
 have f5 := foc_ x6 5
 have f6 := foc_ x6 6
 have f7 := foc_ x6 7
 clear x6 h1 h2 h3 h4 h5 h6
 go_enter Tryz.func49, Tryz.ntmps49
 go_upto_region 17 with fail
 rw [← HW5.out]
 go_wp2_with fail
 generalize hW7 : World.setCell (World.setCell (World.setCell (World.setCell (World.setCell (World.setCell (World.setCell (World.setCell W5 _ _) _ _) _ _) _ _) _ _) _ _) _ _) _ _ = W7
 obtain ⟨b7, t7⟩ := store8 X3.out hW7
 obtain ⟨z0, z1, z2, z3, z4, z5, z6, z7⟩ := st_cells b7
 exact bodyPost_ret (v := .tuple #[zerS, .int .i64 7]) (by simp [results, Tryz.results49, go_sem, z0, z1, z2, z3, z4, z5, z6, z7, zerS]) rfl ⟨_, rfl, ⟨fun h => absurd h (by decide), fun _ => rfl⟩, HB5.out.trans (t7.below (by have := HZ5.out; omega) (by omega))⟩
end Go.Proofs.YtpoichgodamnkaaGreat
