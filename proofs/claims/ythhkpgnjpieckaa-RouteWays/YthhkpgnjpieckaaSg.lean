/- What PostsOf and QueuesOf of the reference do, plain: posts that are marked, round by round. -/
import Derived.Test.YthhkpgnjpieckaaSe
namespace Go.Proofs.Ythhkpgnjpieckaa
set_option linter.unusedVariables false
set_option maxRecDepth 100000
open Go.RowKit Go.Maps

/-- What is marked in round r, once the binds below k were looked at. -/
structure Marked (A : Nat → Option (Nat × Nat)) (v : Nat) (bs : List Bool) (r k : Nat) : Prop where
  sound : ∀ i, bs.getD i false = true → ∃ s, Path A v s i
  full : ∀ s i, Path A v s i → (s.length ≤ r ∨ ∃ s' m, s = s' ++ [m] ∧ s'.length ≤ r ∧ m < k) → bs.getD i false = true
theorem getD_set {bs : List Bool} {x i : Nat} (hx : x < bs.length) : (bs.set x true).getD i false = (decide (i = x) || bs.getD i false) := by
  rw [List.getD_eq_getElem?_getD, List.getD_eq_getElem?_getD, List.getElem?_set]
  by_cases h : x = i
  · subst h; rw [if_pos rfl, if_pos hx]; simp
  · rw [if_neg h]; have : ¬ i = x := fun e => h e.symm; simp [this]
theorem getD_repl {n i : Nat} : (List.replicate n false).getD i false = false := by
  rw [List.getD_eq_getElem?_getD, List.getElem?_replicate]; split <;> rfl
theorem Marked.start {A : Nat → Option (Nat × Nat)} {v n : Nat} (hv : v < n) : Marked A v ((List.replicate n false).set v true) 0 0 where
  sound := by
    intro i h
    rw [getD_set (by simpa using hv), getD_repl] at h
    simp at h; subst h; exact ⟨[], .nil⟩
  full := by
    intro s i hp h
    rw [getD_set (by simpa using hv)]
    rcases h with h | ⟨s', m, _, _, h⟩
    · have e : s = [] := List.length_eq_zero_iff.1 (by omega)
      subst e
      rcases hp.inv with ⟨_, rfl⟩ | ⟨s', u, m, e, _, _⟩
      · simp
      · simp at e
    · omega
theorem Marked.stay {A : Nat → Option (Nat × Nat)} {v : Nat} {bs : List Bool} {r k : Nat} (h : Marked A v bs r k) (hA : ∀ u x, A k = some (u, x) → bs.getD u false = false) : Marked A v bs r (k + 1) := by
  refine ⟨h.sound, fun s i hp hl => ?_⟩
  rcases hl with hl | ⟨s', m, rfl, h1, h2⟩
  · exact h.full s i hp (.inl hl)
  · by_cases e : m < k
    · exact h.full _ i hp (.inr ⟨s', m, rfl, h1, e⟩)
    · have e2 : m = k := by omega
      subst e2
      obtain ⟨u, hu, ha⟩ := hp.inv_snoc
      have := h.full s' u hu (.inl h1)
      rw [hA u i ha] at this; cases this
theorem Marked.mark {A : Nat → Option (Nat × Nat)} {v : Nat} {bs : List Bool} {r k u x : Nat} (h : Marked A v bs r k) (hA : A k = some (u, x)) (hu : bs.getD u false = true) (hx : x < bs.length) : Marked A v (bs.set x true) r (k + 1) := by
  obtain ⟨s0, hs0⟩ := h.sound u hu
  refine ⟨fun i hi => ?_, fun s i hp hl => ?_⟩
  · rw [getD_set hx] at hi
    by_cases e : i = x
    · subst e; exact ⟨_, .snoc hs0 hA⟩
    · simp [e] at hi; exact h.sound i (by rw [List.getD_eq_getElem?_getD]; exact hi)
  · rw [getD_set hx]
    rcases hl with hl | ⟨s', m, rfl, h1, h2⟩
    · rw [h.full s i hp (.inl hl)]; simp
    · by_cases e : m < k
      · rw [h.full _ i hp (.inr ⟨s', m, rfl, h1, e⟩)]; simp
      · have e2 : m = k := by omega
        subst e2
        obtain ⟨u', hu', ha⟩ := hp.inv_snoc
        rw [hA] at ha; simp at ha; rw [ha.2]; simp
theorem Marked.next {A : Nat → Option (Nat × Nat)} {v : Nat} {bs : List Bool} {r nb : Nat} (h : Marked A v bs r nb) (hnb : ∀ m q, A m = some q → m < nb) : Marked A v bs (r + 1) 0 := by
  refine ⟨h.sound, fun s i hp hl => ?_⟩
  rcases hl with hl | ⟨_, _, _, _, h2⟩
  · rcases hp.inv with ⟨rfl, rfl⟩ | ⟨s', u, m, rfl, h1, h2⟩
    · exact h.full [] _ .nil (.inl (by simp))
    · exact h.full _ i hp (.inr ⟨s', m, rfl, by simp at hl; omega, hnb m _ h2⟩)
  · omega

/-- All are found, at some time. -/
theorem reached_end {A : Nat → Option (Nat × Nat)} {nb r N : Nat} (hN : ∀ L i, Reached A nb r L i → L.length ≤ N) : ∀ (k : Nat) {L : Trails} {i : Nat}, Reached A nb r L i → N ≤ i + k → ∃ L' i', Reached A nb r L' i' ∧ ¬ i' < L'.length
  | 0, L, i, h, hk => ⟨L, i, h, by have := hN L i h; omega⟩
  | k + 1, L, i, h, hk => by
    by_cases hi : i < L.length
    · exact reached_end hN k (Reached.next h hi) (by omega)
    · exact ⟨L, i, h, hi⟩
theorem short_path {p : PlanD} {key : ByteArray} (hr : RightP p) {v : Nat} (hv : v < p.posts.length) {s : List Nat} {x : Nat} (h : Path (arcOf p key) v s x) : ∃ s', Path (arcOf p key) v s' x ∧ s'.length ≤ p.posts.length := by
  obtain ⟨L, i, hL, hi⟩ := reached_end (A := arcOf p key) (nb := p.binds.length) (r := v) (N := p.posts.length) (fun L i h => (reached_in hr hv h).2.1) p.posts.length Reached.start (by omega)
  have hc := (hL.came arc_lt).1
  have hx := (hL.found arc_lt hi).all h
  obtain ⟨y, hy, rfl⟩ := List.mem_map.1 hx
  obtain ⟨j, hj, rfl⟩ := mem_get hy
  have h1 := hc.short (j + 1) j hj (by omega)
  have h2 := (reached_in hr hv hL).2.1
  exact ⟨_, hc.path _ hy, by omega⟩
theorem Marked.done {p : PlanD} {key : ByteArray} (hr : RightP p) {v : Nat} (hv : v < p.posts.length) {bs : List Bool} {r : Nat} (h : Marked (arcOf p key) v bs r 0) (hle : p.posts.length ≤ r) (x : Nat) : bs.getD x false = true ↔ ∃ s, Path (arcOf p key) v s x := by
  refine ⟨h.sound x, ?_⟩
  rintro ⟨s, hs⟩
  obtain ⟨s', h1, h2⟩ := short_path hr hv hs
  exact h.full s' x h1 (.inl (by omega))

/-- The numbers below k of which it holds. -/
def numsTo (f : Nat → Bool) (k : Nat) : List Int := ((List.range k).filter f).map (fun i : Nat => (i : Int))
theorem nums_yes {f : Nat → Bool} {k : Nat} (h : f k = true) : numsTo f (k + 1) = numsTo f k ++ [(k : Int)] := by unfold numsTo; rw [List.range_succ, List.filter_append]; simp [h]
theorem nums_no {f : Nat → Bool} {k : Nat} (h : f k = false) : numsTo f (k + 1) = numsTo f k := by unfold numsTo; rw [List.range_succ, List.filter_append]; simp [h]
theorem nums_len (f : Nat → Bool) (k : Nat) : (numsTo f k).length ≤ k := by
  unfold numsTo; rw [List.length_map]
  have := List.length_filter_le f (List.range k); simpa using this
theorem nums_mem {f : Nat → Bool} {k : Nat} {z : Int} : z ∈ numsTo f k ↔ ∃ x : Nat, z = x ∧ x < k ∧ f x = true := by
  unfold numsTo
  simp only [List.mem_map, List.mem_filter, List.mem_range]
  constructor
  · rintro ⟨x, ⟨h1, h2⟩, rfl⟩; exact ⟨x, rfl, h1, h2⟩
  · rintro ⟨x, rfl, h1, h2⟩; exact ⟨x, ⟨h1, h2⟩, rfl⟩
theorem nums_rise (f : Nat → Bool) (k : Nat) : (numsTo f k).Pairwise (· < ·) := by
  unfold numsTo
  rw [List.pairwise_map]
  exact (List.Pairwise.filter f List.pairwise_lt_range).imp (fun h => by omega)
theorem path_in {p : PlanD} {key : ByteArray} (hr : RightP p) {v : Nat} (hv : v < p.posts.length) {s : List Nat} {x : Nat} (h : Path (arcOf p key) v s x) : x < p.posts.length := by
  rcases h.inv with ⟨_, e⟩ | ⟨s, u, n, _, _, e⟩
  · omega
  · obtain ⟨h1, h2, h3, h4, h5⟩ := arc_some hr e
    have := dst_ok hr n h3
    omega
theorem posts_marked {p : PlanD} {key : ByteArray} (hr : RightP p) {v : Nat} (hv : v < p.posts.length) {bs : List Bool} {r : Nat} (h : Marked (arcOf p key) v bs r 0) (hle : p.posts.length ≤ r) : PostsIs p key v (numsTo (fun i => bs.getD i false) p.posts.length) := by
  refine ⟨nums_rise _ _, fun z => ?_⟩
  rw [nums_mem]
  constructor
  · rintro ⟨x, rfl, h1, h2⟩; exact ⟨x, rfl, (h.done hr hv hle x).1 h2⟩
  · rintro ⟨x, rfl, s, hs⟩; exact ⟨x, rfl, path_in hr hv hs, (h.done hr hv hle x).2 ⟨s, hs⟩⟩

/-- Does some bind below k lead to that queue from one of these posts? -/
def goesTo (p : PlanD) (key : ByteArray) (ps : List Int) (q : Int) (k : Nat) : Bool := (List.range k).any (fun n => !(bAt p n).toPost && (decide ((bAt p n).dst = q) && (decide ((bAt p n).src ∈ ps) && fitP p n key)))
theorem goesTo_succ {p : PlanD} {key : ByteArray} {ps : List Int} {q : Int} {k : Nat} : goesTo p key ps q (k + 1) = (goesTo p key ps q k || (!(bAt p k).toPost && (decide ((bAt p k).dst = q) && (decide ((bAt p k).src ∈ ps) && fitP p k key)))) := by
  unfold goesTo; rw [List.range_succ, List.any_append]; simp
theorem queues_told {p : PlanD} {key : ByteArray} (hr : RightP p) {v : Nat} {ps : List Int} (hp : PostsIs p key v ps) : QueuesIs p key v (numsTo (fun q => goesTo p key ps (q : Int) p.binds.length) p.queues.length) := by
  refine ⟨nums_rise _ _, fun z => ?_⟩
  rw [nums_mem]
  constructor
  · rintro ⟨x, rfl, h1, h2⟩
    unfold goesTo at h2
    simp only [List.any_eq_true, List.mem_range, Bool.and_eq_true, Bool.not_eq_true', decide_eq_true_eq] at h2
    obtain ⟨n, hn, a1, a2, a3, a4⟩ := h2
    obtain ⟨y, hy, hs⟩ := (hp.mem _).1 a3
    exact ⟨n, hn, a4, a1, a2, by rw [hy, Int.toNat_natCast]; exact hs⟩
  · rintro ⟨n, hn, a4, a1, rfl, hs⟩
    have hd := hr.dst _ (List.getElem_mem hn)
    have hsr := hr.src _ (List.getElem_mem hn)
    rw [← bAt_get hn] at hd hsr
    rw [a1] at hd
    simp only [Bool.false_eq_true, if_false] at hd
    refine ⟨(bAt p n).dst.toNat, by omega, by omega, ?_⟩
    unfold goesTo
    simp only [List.any_eq_true, List.mem_range, Bool.and_eq_true, Bool.not_eq_true', decide_eq_true_eq]
    exact ⟨n, hn, a1, by omega, (hp.mem _).2 ⟨(bAt p n).src.toNat, by omega, hs⟩, a4⟩
end Go.Proofs.Ythhkpgnjpieckaa
