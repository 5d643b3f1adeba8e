import Derived.Test.YtpoichgodamnkaaGreatGfx
import Derived.Deep.RegionHeld3
import Derived.BigQuiet
import Derived.Test.YtpoichgodamnkaaGreatGjx
import Derived.Lib.AppendStr
import Derived.Laws.BytesArg
/- Wa -/
namespace Go.Proofs.YtpoichgodamnkaaGreat
set_option linter.unusedVariables false
set_option maxRecDepth 100000
open Go.RowKit

def oct8 (n : Int) : UInt8 := UInt8.ofNat (n % 256).toNat
theorem u8_nat {n : Nat} (h : n < 256) : (oct8 (n : Int)).toNat = n := by unfold oct8; rw [UInt8.toNat_ofNat']; omega
theorem u8_of {n : Int} (h0 : 0 ≤ n) (h : n < 256) : ((oct8 n).toNat : Int) = n := by unfold oct8; rw [UInt8.toNat_ofNat']; omega
theorem u8_self (b : UInt8) : oct8 (b.toNat : Int) = b := by
  unfold oct8
  have := b.toNat_lt
  apply UInt8.toNat_inj.1
  rw [UInt8.toNat_ofNat']; omega

/-- A text has these bytes from a place on. -/
def Has (s : ByteArray) (i : Nat) (l : List UInt8) : Prop := i ≤ s.size ∧ l <+: s.data.toList.drop i
theorem size_list (s : ByteArray) : s.data.toList.length = s.size := Array.length_toList
theorem Has.le {s : ByteArray} {i : Nat} {l : List UInt8} (h : Has s i l) : i + l.length ≤ s.size := by
  have := h.2.length_le
  rw [List.length_drop, size_list] at this
  have := h.1
  omega
theorem Has.append {s : ByteArray} {i : Nat} {l m : List UInt8} : Has s i (l ++ m) ↔ Has s i l ∧ Has s (i + l.length) m := by
  constructor
  · intro h
    have hle := h.le
    rw [List.length_append] at hle
    refine ⟨⟨h.1, (List.prefix_append l m).trans h.2⟩, by omega, ?_⟩
    obtain ⟨t, ht⟩ := h.2
    refine ⟨t, ?_⟩
    rw [← List.drop_drop, ← ht, List.append_assoc, List.drop_left]
  · rintro ⟨h1, h2⟩
    refine ⟨h1.1, ?_⟩
    obtain ⟨t, ht⟩ := h1.2
    obtain ⟨u, hu⟩ := h2.2
    rw [← List.drop_drop, ← ht, List.drop_left] at hu
    exact ⟨u, by rw [List.append_assoc, hu, ht]⟩
theorem Has.nil {s : ByteArray} {i : Nat} (h : i ≤ s.size) : Has s i [] := ⟨h, List.nil_prefix⟩
theorem Has.cons {s : ByteArray} {i : Nat} {b : UInt8} {m : List UInt8} : Has s i (b :: m) ↔ Has s i [b] ∧ Has s (i + 1) m := Has.append (l := [b])
theorem Has.one {s : ByteArray} {i : Nat} {b : UInt8} : Has s i [b] ↔ ∃ h : i < s.size, s[i] = b := by
  constructor
  · intro h
    have hle := h.le
    have hi : i < s.size := Nat.lt_of_succ_le (by simpa using hle)
    refine ⟨hi, ?_⟩
    obtain ⟨t, ht⟩ := h.2
    have hl : i < s.data.toList.length := by rw [size_list]; exact hi
    rw [List.drop_eq_getElem_cons hl] at ht
    have e := (List.cons.inj ht).1
    rw [e]; rfl
  · rintro ⟨hi, rfl⟩
    refine ⟨by omega, ?_⟩
    have hl : i < s.data.toList.length := by rw [size_list]; exact hi
    rw [List.drop_eq_getElem_cons hl]
    exact ⟨_, rfl⟩
theorem Has.all {s : ByteArray} {l : List UInt8} (h : Has s 0 l) (hl : l.length = s.size) : l = s.data.toList := by
  have := h.2
  rw [List.drop_zero] at this
  exact this.eq_of_length (by rw [size_list]; exact hl)
theorem Has.whole {s : ByteArray} : Has s 0 s.data.toList := ⟨Nat.zero_le _, by rw [List.drop_zero]; exact List.prefix_rfl⟩
theorem ext_list (s : ByteArray) (i j : Nat) : (s.extract i j).data.toList = (s.data.toList.drop i).take (j - i) := by rw [Lib.extract_data]
theorem Has.ext {s t : ByteArray} {i : Nat} (h : Has s i t.data.toList) : s.extract i (i + t.size) = t := by
  apply ByteArray.ext
  apply Array.toList_inj.1
  rw [ext_list, Nat.add_sub_cancel_left]
  have := List.prefix_iff_eq_take.1 h.2
  rw [size_list] at this
  exact this.symm
theorem Has.of_ext {s : ByteArray} {i n : Nat} (h : i + n ≤ s.size) : Has s i (s.extract i (i + n)).data.toList := by
  refine ⟨by omega, ?_⟩
  rw [ext_list, Nat.add_sub_cancel_left]
  exact List.take_prefix _ _

/-- The next things of a text from a place on, and where what is behind them begins. -/
def rNum (s : ByteArray) (i : Nat) : Option (Nat × Nat) := if h : i < s.size then some (s[i].toNat, i + 1) else none
def rText (s : ByteArray) (i : Nat) : Option (ByteArray × Nat) :=
  match rNum s i with
  | none => none
  | some (n, j) => if n ≤ s.size - j then some (s.extract j (j + n), j + n) else none
def rFlag (s : ByteArray) (i : Nat) : Option (Bool × Nat) :=
  match rNum s i with
  | none => none
  | some (n, j) => if n = 0 then some (false, j) else if n = 1 then some (true, j) else none
def rPost (s : ByteArray) (i : Nat) : Option (PostD × Nat) :=
  match rText s i with
  | none => none
  | some (t, j) => match rNum s j with
    | none => none
    | some (k, m) => some (⟨t, k⟩, m)
def rQueue (s : ByteArray) (i : Nat) : Option (QueueD × Nat) :=
  match rText s i with
  | none => none
  | some (t, j) => match rNum s j with
    | none => none
    | some (k, m) => match rNum s m with
      | none => none
      | some (d, e) => some (⟨t, k, (d : Int) - 1⟩, e)
def rBind (s : ByteArray) (i : Nat) : Option (BindD × Nat) :=
  match rNum s i with
  | none => none
  | some (a, j) => match rFlag s j with
    | none => none
    | some (b, k) => match rNum s k with
      | none => none
      | some (c, m) => match rText s m with
        | none => none
        | some (t, e) => some (⟨a, b, c, t⟩, e)
def rList {α : Type} (one : Nat → Option (α × Nat)) (i : Nat) : Nat → Option (List α × Nat)
  | 0 => some ([], i)
  | k + 1 => match rList one i k with
    | none => none
    | some (l, j) => match one j with
      | none => none
      | some (x, m) => some (l ++ [x], m)
def rMany {α : Type} (s : ByteArray) (one : Nat → Option (α × Nat)) (i : Nat) : Option (List α × Nat) :=
  match rNum s i with
  | none => none
  | some (n, j) => rList one j n
def rPlan (s : ByteArray) : Option PlanD :=
  match rMany s (rPost s) 0 with
  | none => none
  | some (a, i) => match rMany s (rQueue s) i with
    | none => none
    | some (b, j) => match rMany s (rBind s) j with
      | none => none
      | some (c, m) => if m = s.size then some ⟨a, b, c⟩ else none

/-- How they are written. -/
def textB (t : ByteArray) : List UInt8 := oct8 t.size :: t.data.toList
def postB (x : PostD) : List UInt8 := textB x.name ++ [oct8 x.kind]
def queueB (x : QueueD) : List UInt8 := textB x.name ++ [oct8 x.limit, oct8 (x.dead + 1)]
def flagN (b : Bool) : Int := if b = true then 1 else 0
def bindB (x : BindD) : List UInt8 := [oct8 x.src, oct8 (flagN x.toPost), oct8 x.dst] ++ textB x.pat
def manyB {α : Type} (enc : α → List UInt8) (l : List α) : List UInt8 := oct8 l.length :: l.flatMap enc
def planB (p : PlanD) : List UInt8 := manyB postB p.posts ++ (manyB queueB p.queues ++ manyB bindB p.binds)

/-- A reading that is a writing, backwards. -/
structure Reads {α : Type} (s : ByteArray) (one : Nat → Option (α × Nat)) (enc : α → List UInt8) (ok : α → Prop) : Prop where
  fwd : ∀ i x j, one i = some (x, j) → Has s i (enc x) ∧ j = i + (enc x).length ∧ ok x
  bwd : ∀ i x, ok x → Has s i (enc x) → one i = some (x, i + (enc x).length)
theorem reads_num (s : ByteArray) : Reads s (rNum s) (fun n => [oct8 (n : Int)]) (fun n => n < 256) := by
  constructor
  · intro i x j h
    unfold rNum at h
    split at h
    · rename_i hi
      cases h
      exact ⟨Has.one.2 ⟨hi, (u8_self _).symm⟩, rfl, UInt8.toNat_lt _⟩
    · cases h
  · intro i x hx h
    obtain ⟨hi, e⟩ := Has.one.1 h
    unfold rNum
    rw [dif_pos hi, e, u8_nat hx]; rfl
theorem reads_text (s : ByteArray) : Reads s (rText s) textB (fun t => t.size < 256) := by
  constructor
  · intro i x j h
    unfold rText at h
    cases hn : rNum s i with
    | none => rw [hn] at h; cases h
    | some q =>
      obtain ⟨n, m⟩ := q
      rw [hn] at h
      obtain ⟨h1, h2, h3⟩ := (reads_num s).fwd _ _ _ hn
      simp only at h
      split at h
      · rename_i hle
        cases h
        have hm : m = i + 1 := by simpa using h2
        have hm1 := h1.le
        simp only [List.length_singleton] at hm1
        have hsz : (s.extract m (m + n)).size = n := by rw [ByteArray.size_extract]; omega
        refine ⟨Has.cons.2 ⟨?_, ?_⟩, ?_, by rw [hsz]; exact h3⟩
        · rw [hsz]; exact h1
        · rw [← hm]; exact Has.of_ext (by omega)
        · unfold textB; rw [List.length_cons, size_list, hsz]; omega
      · cases h
  · intro i x hx h
    obtain ⟨h1, h2⟩ := Has.cons.1 h
    have hn := (reads_num s).bwd i x.size hx h1
    unfold rText
    rw [hn]
    simp only [List.length_singleton]
    have hle := h2.le
    rw [size_list] at hle
    rw [if_pos (by omega), h2.ext]
    unfold textB
    rw [List.length_cons, size_list]
    congr 2; omega
theorem reads_flag (s : ByteArray) : Reads s (rFlag s) (fun b => [oct8 (flagN b)]) (fun _ => True) := by
  constructor
  · intro i x j h
    unfold rFlag at h
    cases hn : rNum s i with
    | none => rw [hn] at h; cases h
    | some q =>
      obtain ⟨n, m⟩ := q
      rw [hn] at h
      obtain ⟨h1, h2, h3⟩ := (reads_num s).fwd _ _ _ hn
      simp only at h
      split at h
      · rename_i e; subst e; cases h; exact ⟨h1, h2, trivial⟩
      · split at h
        · rename_i e; subst e; cases h; exact ⟨h1, h2, trivial⟩
        · cases h
  · intro i x _ h
    unfold rFlag
    cases x with
    | true => rw [(reads_num s).bwd i 1 (by omega) h]; rfl
    | false => rw [(reads_num s).bwd i 0 (by omega) h]; rfl
def postSm (x : PostD) : Prop := x.name.size < 256 ∧ 0 ≤ x.kind ∧ x.kind < 256
def queueSm (x : QueueD) : Prop := x.name.size < 256 ∧ 0 ≤ x.limit ∧ x.limit < 256 ∧ -1 ≤ x.dead ∧ x.dead < 255
def bindSm (x : BindD) : Prop := 0 ≤ x.src ∧ x.src < 256 ∧ 0 ≤ x.dst ∧ x.dst < 256 ∧ x.pat.size < 256
theorem num_int {s : ByteArray} {i : Nat} {z : Int} (h0 : 0 ≤ z) (h1 : z < 256) (h : Has s i [oct8 z]) : rNum s i = some (z.toNat, i + 1) := by
  have := (reads_num s).bwd i z.toNat (by omega) (by rw [Int.toNat_of_nonneg h0]; exact h)
  exact this
theorem reads_post (s : ByteArray) : Reads s (rPost s) postB postSm := by
  constructor
  · intro i x j h
    unfold rPost at h
    cases ht : rText s i with
    | none => rw [ht] at h; cases h
    | some q =>
      obtain ⟨t, a⟩ := q
      rw [ht] at h
      simp only at h
      cases hn : rNum s a with
      | none => rw [hn] at h; cases h
      | some q =>
        obtain ⟨k, m⟩ := q
        rw [hn] at h
        cases h
        obtain ⟨h1, h2, h3⟩ := (reads_text s).fwd _ _ _ ht
        obtain ⟨g1, g2, g3⟩ := (reads_num s).fwd _ _ _ hn
        refine ⟨Has.append.2 ⟨h1, by rw [← h2]; exact g1⟩, ?_, h3, by simp only; omega, by simp only; omega⟩
        unfold postB; rw [List.length_append, g2, h2]; simp only [List.length_singleton]; omega
  · rintro i x ⟨x1, x2, x3⟩ h
    obtain ⟨h1, h2⟩ := Has.append.1 h
    unfold rPost
    rw [(reads_text s).bwd i x.name x1 h1]
    simp only
    rw [num_int x2 x3 h2]
    simp only
    rw [Int.toNat_of_nonneg x2]
    unfold postB; rw [List.length_append, List.length_singleton, Nat.add_assoc]
theorem reads_queue (s : ByteArray) : Reads s (rQueue s) queueB queueSm := by
  constructor
  · intro i x j h
    unfold rQueue at h
    cases ht : rText s i with
    | none => rw [ht] at h; cases h
    | some q =>
      obtain ⟨t, a⟩ := q
      rw [ht] at h
      simp only at h
      cases hn : rNum s a with
      | none => rw [hn] at h; cases h
      | some q =>
        obtain ⟨k, m⟩ := q
        rw [hn] at h
        simp only at h
        cases hd : rNum s m with
        | none => rw [hd] at h; cases h
        | some q =>
          obtain ⟨d, e⟩ := q
          rw [hd] at h
          cases h
          obtain ⟨h1, h2, h3⟩ := (reads_text s).fwd _ _ _ ht
          obtain ⟨g1, g2, g3⟩ := (reads_num s).fwd _ _ _ hn
          obtain ⟨f1, f2, f3⟩ := (reads_num s).fwd _ _ _ hd
          simp only [List.length_singleton] at g2 f2
          refine ⟨Has.append.2 ⟨h1, Has.cons.2 ⟨by rw [← h2]; exact g1, ?_⟩⟩, ?_, h3, by simp only; omega, by simp only; omega, by simp only; omega, by simp only; omega⟩
          · rw [← h2, ← g2]; simp only; rw [Int.sub_add_cancel]; exact f1
          · unfold queueB; rw [List.length_append, f2, g2, h2]; simp only [List.length_cons, List.length_nil]; omega
  · rintro i x ⟨x1, x2, x3, x4, x5⟩ h
    obtain ⟨h1, h2⟩ := Has.append.1 h
    obtain ⟨h3, h4⟩ := Has.cons.1 h2
    unfold rQueue
    rw [(reads_text s).bwd i x.name x1 h1]
    simp only
    rw [num_int x2 x3 h3]
    simp only
    rw [num_int (by omega) (by omega) h4]
    simp only
    rw [Int.toNat_of_nonneg x2, Int.toNat_of_nonneg (by omega), Int.add_sub_cancel]
    unfold queueB; rw [List.length_append]
    simp only [List.length_cons, List.length_nil]
    congr 2
theorem reads_bind (s : ByteArray) : Reads s (rBind s) bindB bindSm := by
  constructor
  · intro i x j h
    unfold rBind at h
    cases ha : rNum s i with
    | none => rw [ha] at h; cases h
    | some q =>
      obtain ⟨a, i1⟩ := q
      rw [ha] at h
      simp only at h
      cases hb : rFlag s i1 with
      | none => rw [hb] at h; cases h
      | some q =>
        obtain ⟨b, i2⟩ := q
        rw [hb] at h
        simp only at h
        cases hc : rNum s i2 with
        | none => rw [hc] at h; cases h
        | some q =>
          obtain ⟨c, i3⟩ := q
          rw [hc] at h
          simp only at h
          cases ht : rText s i3 with
          | none => rw [ht] at h; cases h
          | some q =>
            obtain ⟨t, e⟩ := q
            rw [ht] at h
            cases h
            obtain ⟨h1, h2, h3⟩ := (reads_num s).fwd _ _ _ ha
            obtain ⟨g1, g2, g3⟩ := (reads_flag s).fwd _ _ _ hb
            obtain ⟨f1, f2, f3⟩ := (reads_num s).fwd _ _ _ hc
            obtain ⟨k1, k2, k3⟩ := (reads_text s).fwd _ _ _ ht
            simp only [List.length_singleton] at h2 g2 f2
            subst h2 g2 f2
            refine ⟨?_, ?_, by simp only; omega, by simp only; omega, by simp only; omega, by simp only; omega, k3⟩
            · unfold bindB
              rw [Has.append]
              exact ⟨Has.cons.2 ⟨h1, Has.cons.2 ⟨g1, f1⟩⟩, k1⟩
            · unfold bindB; rw [List.length_append, k2]; simp only [List.length_cons, List.length_nil]; omega
  · rintro i x ⟨x1, x2, x3, x4, x5⟩ h
    obtain ⟨h1, h2⟩ := Has.append.1 h
    obtain ⟨h3, h4⟩ := Has.cons.1 h1
    obtain ⟨h5, h6⟩ := Has.cons.1 h4
    unfold rBind
    rw [num_int x1 x2 h3]
    simp only
    rw [(reads_flag s).bwd _ x.toPost trivial h5]
    simp only [List.length_singleton]
    rw [num_int x3 x4 h6]
    simp only
    have h2' : Has s (i + 1 + 1 + 1) (textB x.pat) := h2
    rw [(reads_text s).bwd _ x.pat x5 h2']
    simp only
    rw [Int.toNat_of_nonneg x1, Int.toNat_of_nonneg x3]
    unfold bindB; rw [List.length_append]
    simp only [List.length_cons, List.length_nil]
    congr 2; omega
theorem rList_len {α : Type} {one : Nat → Option (α × Nat)} {i : Nat} : ∀ {n : Nat} {l : List α} {j : Nat}, rList one i n = some (l, j) → l.length = n
  | 0, l, j, h => by cases h; rfl
  | n + 1, l, j, h => by
    unfold rList at h
    cases hl : rList one i n with
    | none => rw [hl] at h; cases h
    | some q =>
      obtain ⟨l', j'⟩ := q
      rw [hl] at h
      simp only at h
      cases ho : one j' with
      | none => rw [ho] at h; cases h
      | some q => rw [ho] at h; cases h; rw [List.length_append, rList_len hl]; rfl
theorem rList_none {α : Type} {one : Nat → Option (α × Nat)} {i k : Nat} (h : rList one i k = none) : ∀ n, k ≤ n → rList one i n = none := by
  intro n hn
  induction n with
  | zero => have : k = 0 := by omega
            subst this; exact h
  | succ n ih =>
    by_cases e : k = n + 1
    · subst e; exact h
    · unfold rList; rw [ih (by omega)]
theorem rList_stop {α : Type} {one : Nat → Option (α × Nat)} {i k j : Nat} {l : List α} (h : rList one i k = some (l, j)) (ho : one j = none) : ∀ n, k < n → rList one i n = none :=
  fun n hn => rList_none (k := k + 1) (by unfold rList; rw [h]; simp only; rw [ho]) n hn
theorem rList_next {α : Type} {one : Nat → Option (α × Nat)} {i k j m : Nat} {l : List α} {x : α} (h : rList one i k = some (l, j)) (ho : one j = some (x, m)) : rList one i (k + 1) = some (l ++ [x], m) := by
  unfold rList; rw [h]; simp only; rw [ho]
theorem reads_list {α : Type} {s : ByteArray} {one : Nat → Option (α × Nat)} {enc : α → List UInt8} {ok : α → Prop} (R : Reads s one enc ok) (i : Nat) (hi : i ≤ s.size) : ∀ n,
    (∀ l j, rList one i n = some (l, j) → Has s i (l.flatMap enc) ∧ j = i + (l.flatMap enc).length ∧ ∀ x ∈ l, ok x) ∧ (∀ l, l.length = n → (∀ x ∈ l, ok x) → Has s i (l.flatMap enc) → rList one i n = some (l, i + (l.flatMap enc).length))
  | 0 => ⟨fun l j h => by cases h; exact ⟨Has.nil hi, rfl, by simp⟩, fun l hl _ _ => by rw [List.length_eq_zero_iff.1 hl]; rfl⟩
  | n + 1 => by
    obtain ⟨f, b⟩ := reads_list R i hi n
    refine ⟨fun l j h => ?_, fun l hl hok h => ?_⟩
    · unfold rList at h
      cases hl : rList one i n with
      | none => rw [hl] at h; cases h
      | some q =>
        obtain ⟨l', j'⟩ := q
        rw [hl] at h
        simp only at h
        cases ho : one j' with
        | none => rw [ho] at h; cases h
        | some q =>
          obtain ⟨x, m⟩ := q
          rw [ho] at h
          cases h
          obtain ⟨h1, h2, h3⟩ := f _ _ hl
          obtain ⟨g1, g2, g3⟩ := R.fwd _ _ _ ho
          rw [List.flatMap_append, List.flatMap_singleton]
          refine ⟨Has.append.2 ⟨h1, by rw [← h2]; exact g1⟩, by rw [List.length_append, g2, h2]; omega, fun y hy => ?_⟩
          rcases List.mem_append.1 hy with hy | hy
          · exact h3 y hy
          · rw [List.mem_singleton.1 hy]; exact g3
    · rcases List.eq_nil_or_concat l with e | ⟨l', x, e⟩
      · subst e; cases hl
      · rw [List.concat_eq_append] at e
        subst e
        rw [List.flatMap_append, List.flatMap_singleton] at h ⊢
        obtain ⟨h1, h2⟩ := Has.append.1 h
        have e1 := b l' (by simpa using hl) (fun y hy => hok y (List.mem_append_left _ hy)) h1
        have e2 := R.bwd _ x (hok x (List.mem_append_right _ (List.mem_singleton.2 rfl))) h2
        rw [rList_next e1 e2, List.length_append, Nat.add_assoc]
theorem reads_many {α : Type} {s : ByteArray} {one : Nat → Option (α × Nat)} {enc : α → List UInt8} {ok : α → Prop} (R : Reads s one enc ok) : Reads s (rMany s one) (manyB enc) (fun l => l.length < 256 ∧ ∀ x ∈ l, ok x) := by
  constructor
  · intro i l j h
    unfold rMany at h
    cases hn : rNum s i with
    | none => rw [hn] at h; cases h
    | some q =>
      obtain ⟨n, m⟩ := q
      rw [hn] at h
      obtain ⟨h1, h2, h3⟩ := (reads_num s).fwd _ _ _ hn
      simp only [List.length_singleton] at h2
      have hle := h1.le
      simp only [List.length_singleton] at hle
      have hl := rList_len (show rList one m n = some (l, j) from h)
      obtain ⟨g1, g2, g3⟩ := (reads_list R m (by omega) n).1 _ _ h
      subst h2
      refine ⟨Has.cons.2 ⟨by rw [hl]; exact h1, g1⟩, ?_, by omega, g3⟩
      unfold manyB; rw [g2, List.length_cons]; omega
  · rintro i l ⟨hl, hok⟩ h
    obtain ⟨h1, h2⟩ := Has.cons.1 h
    unfold rMany
    rw [(reads_num s).bwd i l.length hl h1]
    simp only [List.length_singleton]
    rw [(reads_list R (i + 1) (h2.1) l.length).2 l rfl hok h2]
    unfold manyB; rw [List.length_cons]
    congr 2; omega
/-- What is read is what was written. -/
theorem plan_fwd {s : ByteArray} {p : PlanD} (h : rPlan s = some p) : planB p = s.data.toList := by
  unfold rPlan at h
  cases ha : rMany s (rPost s) 0 with
  | none => rw [ha] at h; cases h
  | some q =>
    obtain ⟨a, i⟩ := q
    rw [ha] at h
    simp only at h
    cases hb : rMany s (rQueue s) i with
    | none => rw [hb] at h; cases h
    | some q =>
      obtain ⟨b, j⟩ := q
      rw [hb] at h
      simp only at h
      cases hc : rMany s (rBind s) j with
      | none => rw [hc] at h; cases h
      | some q =>
        obtain ⟨c, m⟩ := q
        rw [hc] at h
        simp only at h
        split at h
        · rename_i e
          cases h
          obtain ⟨h1, h2, _⟩ := (reads_many (reads_post s)).fwd _ _ _ ha
          obtain ⟨g1, g2, _⟩ := (reads_many (reads_queue s)).fwd _ _ _ hb
          obtain ⟨f1, f2, _⟩ := (reads_many (reads_bind s)).fwd _ _ _ hc
          unfold planB
          refine Has.all (Has.append.2 ⟨h1, Has.append.2 ⟨by rw [← h2]; exact g1, by rw [← h2, ← g2]; exact f1⟩⟩) ?_
          rw [List.length_append, List.length_append]; simp only; omega
        · cases h
structure SmallP (p : PlanD) : Prop where
  posts : p.posts.length < 256 ∧ ∀ x ∈ p.posts, postSm x
  queues : p.queues.length < 256 ∧ ∀ x ∈ p.queues, queueSm x
  binds : p.binds.length < 256 ∧ ∀ x ∈ p.binds, bindSm x
theorem plan_bwd {s : ByteArray} {p : PlanD} (hp : SmallP p) (h : planB p = s.data.toList) : rPlan s = some p := by
  have hw := Has.whole (s := s)
  rw [← h] at hw
  have hle := hw.le
  have hsz : (planB p).length = s.size := by rw [h, size_list]
  unfold planB at hw hsz
  obtain ⟨h1, h2⟩ := Has.append.1 hw
  obtain ⟨h3, h4⟩ := Has.append.1 h2
  unfold rPlan
  rw [(reads_many (reads_post s)).bwd 0 _ hp.posts h1]
  simp only
  rw [(reads_many (reads_queue s)).bwd _ _ hp.queues h3]
  simp only
  rw [(reads_many (reads_bind s)).bwd _ _ hp.binds h4]
  simp only
  rw [List.length_append, List.length_append] at hsz
  rw [if_pos (by omega)]
theorem nameOk_size {l : List UInt8} (h : nameOk l = true) : l.length ≤ 8 := by unfold nameOk at h; simp at h; exact h.1.2
theorem chk_names {p : PlanD} (h : chkP p = 0) : (∀ x ∈ p.posts, x.name.size ≤ 8) ∧ (∀ x ∈ p.queues, x.name.size ≤ 8) := by
  unfold chkP at h
  by_cases q1 : 4 < p.posts.length ∨ 4 < p.queues.length ∨ 10 < p.binds.length
  · rw [if_pos q1] at h; cases h
  rw [if_neg q1] at h
  by_cases q2 : ((p.posts.map PostD.name).all (fun x => nameOk x.data.toList) && (p.queues.map QueueD.name).all (fun x => nameOk x.data.toList)) = false
  · rw [if_pos q2] at h; cases h
  simp only [Bool.not_eq_false, Bool.and_eq_true, List.all_eq_true] at q2
  exact ⟨fun x hx => by have := nameOk_size (q2.1 _ (List.mem_map_of_mem hx)); rwa [size_list] at this, fun x hx => by have := nameOk_size (q2.2 _ (List.mem_map_of_mem hx)); rwa [size_list] at this⟩
theorem chk_small {p : PlanD} (h : chkP p = 0) : SmallP p := by
  have hr := chk_right h
  obtain ⟨n1, n2⟩ := chk_names h
  have hf := hr.few
  refine ⟨⟨by omega, fun x hx => ?_⟩, ⟨by omega, fun x hx => ?_⟩, ⟨by omega, fun x hx => ?_⟩⟩
  · have := n1 x hx; have := hr.kinds x hx; unfold postSm; omega
  · have := n2 x hx; have := hr.queues x hx; unfold queueSm; omega
  · have h1 := hr.src x hx
    have h2 := hr.dst x hx
    have h3 := (werr_zero (hr.pat x hx)).1
    rw [size_list] at h3
    have h4 : (if x.toPost = true then p.posts.length else p.queues.length) ≤ 4 := by split <;> omega
    unfold bindSm; omega

/-- An ear: what is not there is 0. -/
def eNum (s : ByteArray) (i : Nat) : Nat × Nat := if h : i < s.size then (s[i].toNat, i + 1) else (0, i)
def eText (s : ByteArray) (i : Nat) : ByteArray × Nat := (s.extract (eNum s i).2 ((eNum s i).2 + min (eNum s i).1 (s.size - (eNum s i).2)), (eNum s i).2 + min (eNum s i).1 (s.size - (eNum s i).2))
def ePost (s : ByteArray) (i : Nat) : PostD × Nat := (⟨(eText s i).1, (eNum s (eText s i).2).1⟩, (eNum s (eText s i).2).2)
def eQueue (s : ByteArray) (i : Nat) : QueueD × Nat := (⟨(eText s i).1, (eNum s (eText s i).2).1, ((eNum s (eNum s (eText s i).2).2).1 : Int) - 1⟩, (eNum s (eNum s (eText s i).2).2).2)
def eBind (s : ByteArray) (i : Nat) : BindD × Nat :=
  (⟨(eNum s i).1, (eNum s (eNum s i).2).1 == 1, (eNum s (eNum s (eNum s i).2).2).1, (eText s (eNum s (eNum s (eNum s i).2).2).2).1⟩, (eText s (eNum s (eNum s (eNum s i).2).2).2).2)
def eList {α : Type} (one : Nat → α × Nat) (i : Nat) : Nat → List α × Nat
  | 0 => ([], i)
  | k + 1 => ((eList one i k).1 ++ [(one (eList one i k).2).1], (one (eList one i k).2).2)
def eMany {α : Type} (s : ByteArray) (one : Nat → α × Nat) (i : Nat) : List α × Nat := eList one (eNum s i).2 (eNum s i).1
def ePlan (s : ByteArray) : PlanD := ⟨(eMany s (ePost s) 0).1, (eMany s (eQueue s) (eMany s (ePost s) 0).2).1, (eMany s (eBind s) (eMany s (eQueue s) (eMany s (ePost s) 0).2).2).1⟩
theorem e_num {s : ByteArray} {i : Nat} {q : Nat × Nat} (h : rNum s i = some q) : eNum s i = q := by
  unfold rNum at h; unfold eNum
  split at h
  · rename_i hi; rw [dif_pos hi]; exact Option.some.inj h
  · cases h
theorem e_text {s : ByteArray} {i : Nat} {q : ByteArray × Nat} (h : rText s i = some q) : eText s i = q := by
  unfold rText at h
  cases hn : rNum s i with
  | none => rw [hn] at h; cases h
  | some x =>
    obtain ⟨n, j⟩ := x
    rw [hn] at h
    simp only at h
    split at h
    · rename_i hle
      unfold eText
      rw [e_num hn]
      simp only
      rw [Nat.min_eq_left hle]
      exact Option.some.inj h
    · cases h
theorem e_flag {s : ByteArray} {i j : Nat} {b : Bool} (h : rFlag s i = some (b, j)) : ((eNum s i).1 == 1) = b ∧ (eNum s i).2 = j := by
  unfold rFlag at h
  cases hn : rNum s i with
  | none => rw [hn] at h; cases h
  | some x =>
    obtain ⟨n, m⟩ := x
    rw [hn] at h
    rw [e_num hn]
    simp only at h
    split at h
    · rename_i e; subst e; cases h; exact ⟨rfl, rfl⟩
    · split at h
      · rename_i e; subst e; cases h; exact ⟨rfl, rfl⟩
      · cases h
theorem e_post {s : ByteArray} {i : Nat} {q : PostD × Nat} (h : rPost s i = some q) : ePost s i = q := by
  unfold rPost at h
  cases ht : rText s i with
  | none => rw [ht] at h; cases h
  | some x =>
    obtain ⟨t, a⟩ := x
    rw [ht] at h
    simp only at h
    cases hn : rNum s a with
    | none => rw [hn] at h; cases h
    | some x =>
      obtain ⟨k, m⟩ := x
      rw [hn] at h
      unfold ePost
      rw [e_text ht]
      simp only
      rw [e_num hn]
      exact Option.some.inj h
theorem e_queue {s : ByteArray} {i : Nat} {q : QueueD × Nat} (h : rQueue s i = some q) : eQueue s i = q := by
  unfold rQueue at h
  cases ht : rText s i with
  | none => rw [ht] at h; cases h
  | some x =>
    obtain ⟨t, a⟩ := x
    rw [ht] at h
    simp only at h
    cases hn : rNum s a with
    | none => rw [hn] at h; cases h
    | some x =>
      obtain ⟨k, m⟩ := x
      rw [hn] at h
      simp only at h
      cases hd : rNum s m with
      | none => rw [hd] at h; cases h
      | some x =>
        obtain ⟨d, e⟩ := x
        rw [hd] at h
        unfold eQueue
        rw [e_text ht]
        simp only
        rw [e_num hn]
        simp only
        rw [e_num hd]
        exact Option.some.inj h
theorem e_bind {s : ByteArray} {i : Nat} {q : BindD × Nat} (h : rBind s i = some q) : eBind s i = q := by
  unfold rBind at h
  cases ha : rNum s i with
  | none => rw [ha] at h; cases h
  | some x =>
    obtain ⟨a, i1⟩ := x
    rw [ha] at h
    simp only at h
    cases hb : rFlag s i1 with
    | none => rw [hb] at h; cases h
    | some x =>
      obtain ⟨b, i2⟩ := x
      rw [hb] at h
      simp only at h
      cases hc : rNum s i2 with
      | none => rw [hc] at h; cases h
      | some x =>
        obtain ⟨c, i3⟩ := x
        rw [hc] at h
        simp only at h
        cases ht : rText s i3 with
        | none => rw [ht] at h; cases h
        | some x =>
          obtain ⟨t, e⟩ := x
          rw [ht] at h
          obtain ⟨b1, b2⟩ := e_flag hb
          unfold eBind
          rw [e_num ha]
          simp only
          rw [b1, b2, e_num hc]
          simp only
          rw [e_text ht]
          exact Option.some.inj h
theorem e_list {α : Type} {one : Nat → Option (α × Nat)} {two : Nat → α × Nat} (ho : ∀ i q, one i = some q → two i = q) (i : Nat) : ∀ {n : Nat} {q : List α × Nat}, rList one i n = some q → eList two i n = q
  | 0, q, h => Option.some.inj h
  | n + 1, q, h => by
    unfold rList at h
    cases hl : rList one i n with
    | none => rw [hl] at h; cases h
    | some x =>
      obtain ⟨l, j⟩ := x
      rw [hl] at h
      simp only at h
      cases hx : one j with
      | none => rw [hx] at h; cases h
      | some x =>
        obtain ⟨x, m⟩ := x
        rw [hx] at h
        unfold eList
        rw [e_list ho i hl]
        simp only
        rw [ho _ _ hx]
        exact Option.some.inj h
theorem e_many {α : Type} {s : ByteArray} {one : Nat → Option (α × Nat)} {two : Nat → α × Nat} (ho : ∀ i q, one i = some q → two i = q) {i : Nat} {q : List α × Nat} (h : rMany s one i = some q) : eMany s two i = q := by
  unfold rMany at h
  cases hn : rNum s i with
  | none => rw [hn] at h; cases h
  | some x =>
    obtain ⟨n, j⟩ := x
    rw [hn] at h
    unfold eMany
    rw [e_num hn]
    exact e_list ho j h
theorem e_plan {s : ByteArray} {p : PlanD} (h : rPlan s = some p) : ePlan s = p := by
  unfold rPlan at h
  cases ha : rMany s (rPost s) 0 with
  | none => rw [ha] at h; cases h
  | some q =>
    obtain ⟨a, i⟩ := q
    rw [ha] at h
    simp only at h
    cases hb : rMany s (rQueue s) i with
    | none => rw [hb] at h; cases h
    | some q =>
      obtain ⟨b, j⟩ := q
      rw [hb] at h
      simp only at h
      cases hc : rMany s (rBind s) j with
      | none => rw [hc] at h; cases h
      | some q =>
        obtain ⟨c, m⟩ := q
        rw [hc] at h
        simp only at h
        split at h
        · unfold ePlan
          rw [e_many (fun i q => e_post) ha]
          simp only
          rw [e_many (fun i q => e_queue) hb]
          simp only
          rw [e_many (fun i q => e_bind) hc]
          exact Option.some.inj h
        · cases h
/-- What Read tells; what the reference tells. -/
def planOf (s : ByteArray) : Option PlanD :=
  match rPlan s with
  | none => none
  | some p => if chkP p = 0 then some p else none
theorem planOf_ear (s : ByteArray) : planOf s = if chkP (ePlan s) = 0 ∧ planB (ePlan s) = s.data.toList then some (ePlan s) else none := by
  unfold planOf
  cases h : rPlan s with
  | some p =>
    simp only
    have e := e_plan h
    rw [e]
    by_cases hc : chkP p = 0
    · rw [if_pos hc, if_pos ⟨hc, plan_fwd h⟩]
    · rw [if_neg hc, if_neg (fun x => hc x.1)]
  | none =>
    simp only
    rw [if_neg]
    rintro ⟨h1, h2⟩
    rw [plan_bwd (chk_small h1) h2] at h
    cases h
theorem planOf_some {s : ByteArray} {p : PlanD} (h : planOf s = some p) : chkP p = 0 ∧ planB p = s.data.toList := by
  unfold planOf at h
  cases hr : rPlan s with
  | none => rw [hr] at h; cases h
  | some q =>
    rw [hr] at h
    simp only at h
    split at h
    · rename_i hc; cases h; exact ⟨hc, plan_fwd hr⟩
    · cases h
theorem planOf_back {s : ByteArray} {p : PlanD} (hc : chkP p = 0) (h : planB p = s.data.toList) : planOf s = some p := by
  unfold planOf
  rw [plan_bwd (chk_small hc) h]
  simp only
  rw [if_pos hc]
theorem flat_le {α : Type} {f : α → List UInt8} {c : Nat} : ∀ {l : List α}, (∀ x ∈ l, (f x).length ≤ c) → (l.flatMap f).length ≤ l.length * c
  | [], _ => by simp
  | x :: r, h => by
    have h1 := h x List.mem_cons_self
    have h2 := flat_le (l := r) (fun y hy => h y (List.mem_cons_of_mem _ hy))
    rw [List.flatMap_cons, List.length_append, List.length_cons, Nat.add_mul]; omega
theorem planB_short {p : PlanD} (h : chkP p = 0) : (planB p).length ≤ 4096 := by
  have hr := chk_right h
  obtain ⟨n1, n2⟩ := chk_names h
  have hf := hr.few
  have a1 : (p.posts.flatMap postB).length ≤ p.posts.length * 10 := flat_le (fun x hx => by have := n1 x hx; unfold postB textB; simp only [List.length_append, List.length_cons, size_list, List.length_nil]; omega)
  have a2 : (p.queues.flatMap queueB).length ≤ p.queues.length * 11 := flat_le (fun x hx => by have := n2 x hx; unfold queueB textB; simp only [List.length_append, List.length_cons, size_list, List.length_nil]; omega)
  have a3 : (p.binds.flatMap bindB).length ≤ p.binds.length * 28 := flat_le (fun x hx => by have := (werr_zero (hr.pat x hx)).1; rw [size_list] at this; unfold bindB textB; simp only [List.length_append, List.length_cons, size_list, List.length_nil]; omega)
  unfold planB manyB
  simp only [List.length_append, List.length_cons]
  omega

end Go.Proofs.YtpoichgodamnkaaGreat

/- Wb -/
namespace Go.Proofs.YtpoichgodamnkaaGreat
set_option linter.unusedVariables false
set_option maxRecDepth 100000
open Go.RowKit Go.Maps

/-- A reader: of that text so many bytes were read. -/
def RdBox (W : World) (R : Nat) (s : ByteArray) (i : Nat) : Prop := W.heap[R]? = some (.cells #[.string s, .int .i64 i] 202 (0, 0))
theorem RdBox.cells {W : World} {R : Nat} {s : ByteArray} {i : Nat} (h : RdBox W R s i) : W.cell? ⟨R, 0, none⟩ = some (.string s) ∧ W.cell? ⟨R, 1, none⟩ = some (.int .i64 i) := ⟨cell_of_cells h 0, cell_of_cells h 1⟩
theorem RdBox.keep {W W' : World} {R : Nat} {s : ByteArray} {i : Nat} (h : RdBox W R s i) (hB : Below W.heap.size W W') : RdBox W' R s i := plan_keep h hB
theorem RdBox.set {W : World} {R : Nat} {s : ByteArray} {i : Nat} (h : RdBox W R s i) (j : Nat) : RdBox (W.setCell ⟨R, 1, none⟩ (.int .i64 j)) R s j := setCell_block h (j := 1) (.int .i64 j)
/-- What a reading call gives: a value, or it is left with ErrForm. -/
def RdRes {α : Type} (R : Nat) (s : ByteArray) (val : α → Value) (res : Option (α × Nat)) (e : Ending) (W : World) : Prop :=
  match res with
  | none => e = panE 1
  | some (x, j) => e = .returned (val x) ∧ RdBox W R s j ∧ j ≤ s.size
def rTake (s : ByteArray) (i n : Nat) : Option (ByteArray × Nat) := if n ≤ s.size - i then some (s.extract i (i + n), i + n) else none

set_option maxRecDepth 100000 in
set_option maxHeartbeats 2000000 in
theorem take_any (s : ByteArray) (i n R : Nat) (w : World) (hs : s.size ≤ 1000000) (hi : i ≤ s.size) (hn : n ≤ 1000000) (hR : RdBox w R s i) :
    Calls Tryz.prog 224 #[.pointer (some ⟨R, 0, none⟩), .int .i64 n] w fun e w' => FrameT w.heap.size R w w' ∧ RdRes R s Value.string (rTake s i n) e w' := by
  have HR := hidI hR
  have hlt := lt_of_heap hR
  obtain ⟨c0, c1⟩ := hR.cells
  have j0 : IntKind.i64.wrap ((s.size : Int) - (i : Int)) = ((s.size - i : Nat) : Int) := by rw [IntKind.wrap_i64]; omega
  obtain ⟨L, hL⟩ : ∃ L, L = s.size := ⟨_, rfl⟩
  have HL := hidI hL
  rw [← hL] at hs hi j0
  obtain ⟨D, hD⟩ : ∃ D, D = L - i := ⟨_, rfl⟩
  rw [← hD] at j0
  have HD := hidI hD
  have HC : Hid (∀ W', Below w.heap.size w W' → (W'.cell? ⟨R, 0, none⟩ = some (.string s) ∧ W'.cell? ⟨R, 1, none⟩ = some (.int .i64 i))) := fun W' h => (HR.out.keep h).cells
  clear hR hL hD c0 c1
  go_enter Tryz.func224, Tryz.ntmps224
  go_wp2_with fail
  refine wp_region_held_drew (S := fun W' => W'.cell? ⟨R, 0, none⟩ = some (.string s) ∧ W'.cell? ⟨R, 1, none⟩ = some (.int .i64 i)) (by kernel_rfl) (HC.out _ (Below.refl _ _).drew) (fun hHeld => ?_)
  (refine wpAnyH_take (i := 0) (v := ?_) rfl (by kernel_rfl) (by kernel_rfl) (by kernel_rfl) (fun _ _ _ h => h) (Or.inl ⟨by kernel_rfl, ?_⟩) (by assumption) ?_; rotate_left; (focus (intro w hSw; (try dsimp only at hSw); go_simp; (try with_reducible rfl))); (try simp only [Act.put, List.getElem_toArray, List.getElem_cons_zero, List.setIfInBounds_toArray, List.set_cons_zero, List.set_cons_succ]))
  (refine wpAnyH_take (i := 1) (v := ?_) rfl (by kernel_rfl) (by kernel_rfl) (by kernel_rfl) (fun _ _ _ h => h) (Or.inl ⟨by kernel_rfl, ?_⟩) (by assumption) ?_; rotate_left; (focus (intro w hSw; (try dsimp only at hSw); go_simp; (try with_reducible rfl))); (try simp only [Act.put, List.getElem_toArray, List.getElem_cons_succ, List.getElem_cons_zero, List.setIfInBounds_toArray, List.set_cons_zero, List.set_cons_succ]))
  (refine wpAnyH_take (i := 2) (v := ?_) rfl (by kernel_rfl) (by kernel_rfl) (by kernel_rfl) (fun _ _ _ h => h) (Or.inl ⟨by kernel_rfl, ?_⟩) (by assumption) ?_; rotate_left; (focus (intro w hSw; (try dsimp only at hSw); go_simp; (try with_reducible rfl))); (try simp only [Act.put, List.getElem_toArray, List.getElem_cons_succ, List.getElem_cons_zero, List.setIfInBounds_toArray, List.set_cons_zero, List.set_cons_succ]))
  (refine wpAnyH_take (i := 3) (v := ?_) rfl (by kernel_rfl) (by kernel_rfl) (by kernel_rfl) (fun _ _ _ h => h) (Or.inl ⟨by kernel_rfl, ?_⟩) (by assumption) ?_; rotate_left; (focus (intro w hSw; (try dsimp only at hSw); go_simp; (try with_reducible rfl))); (try simp only [Act.put, List.getElem_toArray, List.getElem_cons_succ, List.getElem_cons_zero, List.setIfInBounds_toArray, List.set_cons_zero, List.set_cons_succ]))
  (refine wpAnyH_take (i := 4) (v := ?_) rfl (by kernel_rfl) (by kernel_rfl) (by kernel_rfl) (fun _ _ _ h => h) (Or.inl ⟨by kernel_rfl, ?_⟩) (by assumption) ?_; rotate_left; (focus (intro w hSw; (try dsimp only at hSw); go_simp; (try with_reducible rfl))); (try simp only [Act.put, List.getElem_toArray, List.getElem_cons_succ, List.getElem_cons_zero, List.setIfInBounds_toArray, List.set_cons_zero, List.set_cons_succ]))
  (refine wpAnyH_take (i := 5) (v := ?_) rfl (by kernel_rfl) (by kernel_rfl) (by kernel_rfl) (fun _ _ _ h => h) (Or.inl ⟨by kernel_rfl, ?_⟩) (by assumption) ?_; rotate_left; (focus (intro w hSw; (try dsimp only at hSw); go_simp; (try with_reducible rfl))); (try simp only [Act.put, List.getElem_toArray, List.getElem_cons_succ, List.getElem_cons_zero, List.setIfInBounds_toArray, List.set_cons_zero, List.set_cons_succ]))
  (refine wpAnyH_take (i := 6) (v := ?_) rfl (by kernel_rfl) (by kernel_rfl) (by kernel_rfl) (fun _ _ _ h => h) (Or.inl ⟨by kernel_rfl, ?_⟩) (by assumption) ?_; rotate_left; (focus (intro w hSw; (try dsimp only at hSw); go_simp; (try with_reducible rfl))); (try simp only [Act.put, List.getElem_toArray, List.getElem_cons_succ, List.getElem_cons_zero, List.setIfInBounds_toArray, List.set_cons_zero, List.set_cons_succ]))
  (refine wpAnyH_take (i := 7) (v := ?_) rfl (by kernel_rfl) (by kernel_rfl) (by kernel_rfl) (fun _ _ _ h => h) (Or.inl ⟨by kernel_rfl, ?_⟩) (by assumption) ?_; rotate_left; (focus (intro w hSw; (try dsimp only at hSw); go_simp; (try with_reducible rfl))); (try simp only [Act.put, List.getElem_toArray, List.getElem_cons_succ, List.getElem_cons_zero, List.setIfInBounds_toArray, List.set_cons_zero, List.set_cons_succ]))
  (refine wpAnyH_take (i := 8) (v := ?_) rfl (by kernel_rfl) (by kernel_rfl) (by kernel_rfl) (fun _ _ _ h => h) (Or.inl ⟨by kernel_rfl, ?_⟩) (by assumption) ?_; rotate_left; (focus (intro w hSw; (try dsimp only at hSw); go_simp; (try with_reducible rfl))); (try simp only [Act.put, List.getElem_toArray, List.getElem_cons_succ, List.getElem_cons_zero, List.setIfInBounds_toArray, List.set_cons_zero, List.set_cons_succ]))
  (refine wpAnyH_take (i := 9) (v := ?_) rfl (by kernel_rfl) (by kernel_rfl) (by kernel_rfl) (fun _ _ _ h => h) (Or.inl ⟨by kernel_rfl, ?_⟩) (by assumption) ?_; rotate_left; (focus (intro w hSw; (try dsimp only at hSw); go_simp; (try with_reducible rfl))); (try simp only [Act.put, List.getElem_toArray, List.getElem_cons_succ, List.getElem_cons_zero, List.setIfInBounds_toArray, List.set_cons_zero, List.set_cons_succ]))
  rw [← HL.out]
  (refine wpAnyH_take (i := 10) (v := ?_) rfl (by kernel_rfl) (by kernel_rfl) (by kernel_rfl) (fun _ _ _ h => h) (Or.inl ⟨by kernel_rfl, ?_⟩) (by assumption) ?_; rotate_left; (focus (intro w hSw; (try dsimp only at hSw); go_simp; (try with_reducible rfl))); (try simp only [Act.put, List.getElem_toArray, List.getElem_cons_succ, List.getElem_cons_zero, List.setIfInBounds_toArray, List.set_cons_zero, List.set_cons_succ]))
  (refine wpAnyH_take (i := 11) (v := ?_) rfl (by kernel_rfl) (by kernel_rfl) (by kernel_rfl) (fun _ _ _ h => h) (Or.inl ⟨by kernel_rfl, ?_⟩) (by assumption) ?_; rotate_left; (focus (intro w hSw; (try dsimp only at hSw); go_simp; (try with_reducible rfl))); (try simp only [Act.put, List.getElem_toArray, List.getElem_cons_succ, List.getElem_cons_zero, List.setIfInBounds_toArray, List.set_cons_zero, List.set_cons_succ]))
  refine wpAnyH_ready (rs := [12]) (by kernel_rfl) (by simp) ?_
  refine AllReadyH.cons rfl (fun K hK => ?_) AllReadyH.nil
  go_simp
  refine hK.out _ _ (HC.out _ (by repeat (first | exact Below.refl _ _ | assumption | refine Below.drew ?_ | refine Below.alloc ?_ (by first | (simp; done) | (simp; omega) | omega) _ | refine Below.setCell ?_ (by first | (simp; done) | (simp; omega) | omega) _))) (fun hH1 => ?_)
  clear hK K hHeld
  (try simp only [Act.put, List.getElem_toArray, List.getElem_cons_succ, List.getElem_cons_zero, List.setIfInBounds_toArray, List.set_cons_zero, List.set_cons_succ])
  refine wpAnyH_ready (rs := [13]) (by kernel_rfl) (by simp) ?_
  refine AllReadyH.cons rfl (fun K hK => ?_) AllReadyH.nil
  go_simp
  have hk0 : Below w.heap.size w (w.alloc (Obj.cells #[Value.bool (decide (D < n))] 4)).drew := (by repeat (first | exact Below.refl _ _ | assumption | refine Below.drew ?_ | refine Below.alloc ?_ (by first | (simp; done) | (simp; omega) | omega) _ | refine Below.setCell ?_ (by first | (simp; done) | (simp; omega) | omega) _))
  have hbn : IsBools (w.alloc (Obj.cells #[Value.bool (decide (D < n))] 4)).drew w.heap.size 0 [decide (D < n)] := bools_new w [decide (D < n)]
  by_cases hc : D < n
  · refine (never_yes 1 [decide (D < n)] _ _ (by simp) hbn (by simp [hc])).mono ?_
    rintro e w3 ⟨rfl, rfl⟩
    refine ⟨rfl, FrameT.of_below hk0 (Nat.le_refl _), ?_⟩
    unfold RdRes rTake
    rw [if_neg (by have := HD.out; have := HL.out; omega)]
    rfl
  · refine (never_no 1 [decide (D < n)] _ _ (by simp) hbn (by simp; omega)).mono ?_
    rintro e w3 ⟨rfl, hw3⟩
    have k3 : Below w.heap.size w w3 := by rw [hw3]; exact hk0
    refine hK.out _ _ (HC.out _ k3) (fun hH2 => ?_)
    clear hK K hH1
    (try simp only [Act.put, List.getElem_toArray, List.getElem_cons_succ, List.getElem_cons_zero, List.setIfInBounds_toArray, List.set_cons_zero, List.set_cons_succ])
    refine wpAnyH_done (by kernel_rfl) ?_ _
    have hR3 := HR.out.keep k3
    have HR3 := hidI hR3
    have K3 := hidI k3
    obtain ⟨c0, c1⟩ := hR3.cells
    have f1 := free_of_cells hR3 1
    obtain ⟨M, hM⟩ : ∃ M, M = i + n := ⟨_, rfl⟩
    have HM := hidI hM
    have j1 : IntKind.i64.wrap ((i : Int) + (n : Int)) = (M : Int) := by have := HD.out; rw [IntKind.wrap_i64]; omega
    have hle : M ≤ L := by have := HD.out; omega
    have HLE := hidI hle
    clear hw3 hbn hH2 hk0 hR3 k3
    have i1 : (i : Int) ≤ (M : Int) := by omega
    have i2 : (M : Int) ≤ (s.size : Int) := by have := HL.out; omega
    clear hM
    go_wp2_with fail
    have hR4 := HR3.out.set M
    obtain ⟨w4, hw4⟩ : ∃ w4, w4 = w3.setCell ⟨R, 1, none⟩ (.int .i64 (M : Int)) := ⟨_, rfl⟩
    rw [← hw4] at hR4
    have HR4 := hidI hR4
    have HF : Hid (FrameT w.heap.size R w w4) := by show FrameT w.heap.size R w w4; rw [hw4]; exact (FrameT.of_below K3.out (Nat.le_refl _)).setCell (p := ⟨R, 1, none⟩) (.inr rfl) _
    rw [← hw4]
    clear c0 c1 f1 j0 j1
    obtain ⟨c0, c1⟩ := hR4.cells
    have i0 : (0 : Int) ≤ (i : Int) := by omega
    clear hR4 hw4 hle
    go_quiet (fail)
    go_wp2_with fail
    go_ret
    refine ⟨HF.out.trans ⟨rfl, rfl, rfl, Nat.le_refl _, fun _ _ _ => rfl⟩, ?_⟩
    unfold RdRes rTake
    rw [if_pos (by have := HLE.out; have := HL.out; have := HM.out; omega), ← HM.out]
    exact ⟨rfl, HR4.out, by have := HLE.out; have := HL.out; omega⟩

end Go.Proofs.YtpoichgodamnkaaGreat

/- Wc -/
namespace Go.Proofs.YtpoichgodamnkaaGreat
set_option linter.unusedVariables false
set_option maxRecDepth 100000
open Go.RowKit Go.Maps

theorem row_new {w : World} {cs : List Value} {T : TypeId} : RowAt (w.alloc (.cells cs.toArray T)) (some ⟨w.heap.size, 0, none⟩) cs := .inr ⟨_, 0, rfl, by simp, fun j u hj => by
  rw [cell_of_cells (World.alloc_heap_new w _), Nat.zero_add]; simpa using hj⟩
theorem RdRes.some {α : Type} {R : Nat} {s : ByteArray} {val : α → Value} {x : α} {j : Nat} {e : Ending} {W : World} (h : RdRes R s val (some (x, j)) e W) : e = .returned (val x) ∧ RdBox W R s j ∧ j ≤ s.size := h
theorem RdRes.none {α : Type} {R : Nat} {s : ByteArray} {val : α → Value} {e : Ending} {W : World} (h : RdRes R s val none e W) : e = panE 1 := h
theorem rNum_lt {s : ByteArray} {i : Nat} (h : i < s.size) : rNum s i = some (s[i].toNat, i + 1) := dif_pos h
theorem rNum_ge {s : ByteArray} {i : Nat} (h : ¬ i < s.size) : rNum s i = none := dif_neg h
theorem ext_one {s : ByteArray} {i : Nat} (h : i < s.size) : ∃ ht : 0 < (s.extract i (i + 1)).size, (s.extract i (i + 1))[0] = s[i] := by
  have hz : (s.extract i (i + 1)).size = 1 := by rw [ByteArray.size_extract]; omega
  refine ⟨by omega, ?_⟩
  have := Has.of_ext (s := s) (i := i) (n := 1) (by omega)
  have hl : (s.extract i (i + 1)).data.toList = [(s.extract i (i + 1))[0]'(by omega)] := by
    apply List.ext_getElem
    · rw [size_list]; exact hz
    · intro k h1 h2
      have : k = 0 := by simpa using h2
      subst this
      rfl
  rw [hl] at this
  obtain ⟨_, e⟩ := Has.one.1 this
  exact e.symm

set_option maxRecDepth 100000 in
set_option maxHeartbeats 1000000 in
theorem number_any (s : ByteArray) (i R : Nat) (w : World) (hs : s.size ≤ 1000000) (hi : i ≤ s.size) (hR : RdBox w R s i) :
    Calls Tryz.prog 207 #[.pointer (some ⟨R, 0, none⟩)] w fun e w' => FrameT w.heap.size R w w' ∧ RdRes R s (fun n : Nat => .int .i64 n) (rNum s i) e w' := by
  have HT := hidI (take_any s i 1 R w hs hi (by omega) hR)
  have HI := hidI hi
  by_cases hlt : i < s.size
  · have HLT := hidI hlt
    obtain ⟨hz, h0⟩ := ext_one hlt
    have e1 : rTake s i 1 = some (s.extract i (i + 1), i + 1) := if_pos (by omega)
    rw [rNum_lt hlt]
    obtain ⟨c, hc⟩ : ∃ c, c = s[i]'hlt := ⟨_, rfl⟩
    rw [← hc] at h0 ⊢
    rw [e1] at HT
    obtain ⟨t, ht⟩ : ∃ t, t = s.extract i (i + 1) := ⟨_, rfl⟩
    rw [← ht] at HT
    have h0' : ∃ hz : 0 < t.size, t[0] = c := by rw [ht]; exact ⟨hz, h0⟩
    clear ht h0 hz hc e1 hlt
    obtain ⟨hz, h0⟩ := h0'
    have hz' : (0 : Int) < (t.size : Int) := by omega
    clear hi hR
    go_enter Tryz.func207, Tryz.ntmps207
    go_wp2_with fail
    refine HT.out.mono ?_
    rintro e w1 ⟨hF, rfl, hb, hj⟩
    go_wp2_with fail
    have hw : wrap64 (c.toNat : Int) = c.toNat := by have := UInt8.toNat_lt c; simp only [wrap64]; omega
    rw [hw]
    go_ret
    exact ⟨hF, rfl, hb, hj⟩
  · have e1 : rTake s i 1 = none := if_neg (by omega)
    rw [rNum_ge hlt]
    rw [e1] at HT
    go_enter Tryz.func207, Tryz.ntmps207
    go_wp2_with fail
    refine HT.out.mono ?_
    rintro e w1 ⟨hF, rfl⟩
    exact ⟨rfl, hF, rfl⟩

set_option maxRecDepth 100000 in
set_option maxHeartbeats 1000000 in
theorem text_any (s : ByteArray) (i R : Nat) (w : World) (hs : s.size ≤ 1000000) (hi : i ≤ s.size) (hR : RdBox w R s i) :
    Calls Tryz.prog 208 #[.pointer (some ⟨R, 0, none⟩)] w fun e w' => FrameT w.heap.size R w w' ∧ RdRes R s Value.string (rText s i) e w' := by
  have HN := hidI (number_any s i R w hs hi hR)
  obtain ⟨res, hres⟩ : ∃ res, res = rText s i := ⟨_, rfl⟩
  rw [← hres]
  unfold rText at hres
  have HLR := hidI (lt_of_heap hR)
  cases hr : rNum s i with
  | none =>
    rw [hr] at HN hres
    have HRES := hidI hres
    clear hR hr hres
    go_enter Tryz.func208, Tryz.ntmps208
    go_wp2_with fail
    refine HN.out.mono ?_
    rintro e w1 ⟨hF, rfl⟩
    exact ⟨rfl, hF, by rw [HRES.out]; rfl⟩
  | some q =>
    obtain ⟨n, j⟩ := q
    rw [hr] at HN hres
    have hn256 := ((reads_num s).fwd _ _ _ hr).2.2
    simp only at hres
    have HRES := hidI hres
    clear hR hr hres
    go_enter Tryz.func208, Tryz.ntmps208
    go_wp2_with fail
    refine HN.out.mono ?_
    rintro e w1 ⟨hF, rfl, hb, hj⟩
    have HF := hidI hF
    have T := take_any s j n R w1 hs hj (by omega) hb
    go_wp2_with fail
    refine T.mono ?_
    rintro e w2 ⟨hF2, hr2⟩
    have hF3 : FrameT w.heap.size R w w2 := hF.trans ⟨hF2.os, hF2.tape, hF2.output, hF2.size, fun k h1 h2 => hF2.block k (by have := HF.out.size; omega) h2⟩
    unfold rTake at hr2
    by_cases hc : n ≤ s.size - j
    · rw [if_pos hc] at hr2
      obtain ⟨rfl, hb2, hj2⟩ := hr2
      have HE : Hid (res = some (s.extract j (j + n), j + n)) := by show res = _; rw [HRES.out, if_pos hc]
      go_wp2_with fail
      go_ret
      exact ⟨hF3, by rw [HE.out]; exact ⟨rfl, hb2, hj2⟩⟩
    · rw [if_neg hc] at hr2
      have e2 : e = panE 1 := hr2
      subst e2
      exact ⟨rfl, hF3, by rw [HRES.out, if_neg hc]; rfl⟩

set_option maxHeartbeats 400000 in
theorem flag_true (w : World) : Calls Tryz.prog 173 #[.bool true] w fun e w' => e = .returned (.int .i64 1) ∧ w' = w := by
  go_enter Tryz.func173, Tryz.ntmps173
  go_wp2_with fail
  go_ret
  exact ⟨rfl, rfl⟩

set_option maxHeartbeats 400000 in
theorem flag_false (w : World) : Calls Tryz.prog 173 #[.bool false] w fun e w' => e = .returned (.int .i64 0) ∧ w' = w := by
  go_enter Tryz.func173, Tryz.ntmps173
  go_wp2_with fail
  go_ret
  exact ⟨rfl, rfl⟩


theorem flag_any (b : Bool) (w : World) : Calls Tryz.prog 173 #[.bool b] w fun e w' => e = .returned (.int .i64 (flagN b)) ∧ w' = w := by
  cases b with
  | true => exact flag_true w
  | false => exact flag_false w

end Go.Proofs.YtpoichgodamnkaaGreat

/- Wj -/
namespace Go.Proofs.YtpoichgodamnkaaGreat
set_option linter.unusedVariables false
set_option maxRecDepth 100000
open Go.RowKit Go.Maps

inductive ThingD where
  | num (n : Int)
  | flag (b : Bool)
  | text (s : ByteArray)
def ThingD.val : ThingD → Value
  | .num n => .iface 3 (.int .i64 n)
  | .flag b => .iface 4 (.bool b)
  | .text s => .iface 9 (.string s)
def ThingD.bytes : ThingD → List UInt8
  | .num n => [oct8 n]
  | .flag b => [oct8 (flagN b)]
  | .text s => textB s
def ThingD.ok : ThingD → Bool
  | .num n => decide (0 ≤ n ∧ n ≤ 255)
  | .flag _ => true
  | .text s => decide (s.size ≤ 255)
def putB_ (l : List ThingD) : List UInt8 := l.flatMap ThingD.bytes
def putE (l : List ThingD) : Int := if l.all ThingD.ok = true then 0 else 3
def ThingsAt (W : World) (a : Option Addr) (l : List ThingD) : Prop := RowAt W a (l.map ThingD.val)
def byteCells (l : List UInt8) : List Value := l.map (fun b => .int .u8 (b.toNat : Int))
theorem byteCells_append (a b : List UInt8) : byteCells (a ++ b) = byteCells a ++ byteCells b := List.map_append
theorem byteCells_len (l : List UInt8) : (byteCells l).length = l.length := List.length_map _
theorem byteCells_one (l : List UInt8) : ∀ u ∈ byteCells l, u.oneCell' = true := by
  intro u hu
  obtain ⟨b, _, rfl⟩ := List.mem_map.1 hu
  rfl
theorem strCells_bytes (s : ByteArray) : Lib.strCells s = byteCells s.data.toList := rfl

theorem Tryz.infoByte : (Tryz.prog.info? 5).map (fun i => (i.zero, i.size, i.bytes)) = some (some (.int .u8 0), 1, 1) := by kernel_rfl

theorem elemByte : ElemT 143 5 1 1 := elemT_of Tryz.underlying143 Tryz.infoByte rfl (by omega)

set_option maxHeartbeats 1000000 in
theorem octet_yes (n : Int) (w : World) (h : 0 ≤ n ∧ n ≤ 255) :
    Calls Tryz.prog 172 #[.int .i64 n] w fun e w' => e = .returned (.int .u8 ((oct8 n).toNat : Int)) ∧ Below w.heap.size w w' := by
  have HU : Hid (((oct8 n).toNat : Int) = n) := u8_of h.1 (by omega)
  have h1 : ¬ n < 0 := by omega
  have h2 : ¬ 255 < n := by omega
  clear h
  go_enter Tryz.func172, Tryz.ntmps172
  go_wp2_with fail
  refine (never_no 3 [false, false] _ _ (by simp) (bools_new w [false, false]) (by simp)).mono ?_
  rintro e w2 ⟨rfl, hw2⟩
  have k2 : Below w.heap.size w w2 := by rw [hw2]; exact (Below.refl _ _).alloc (Nat.le_refl _) _
  clear hw2
  go_wp2_with fail
  go_ret
  exact ⟨by rw [HU.out]; rfl, k2⟩

set_option maxHeartbeats 1000000 in
theorem octet_no (n : Int) (w : World) (h : ¬ (0 ≤ n ∧ n ≤ 255)) :
    Calls Tryz.prog 172 #[.int .i64 n] w fun e w' => e = panE 3 ∧ Below w.heap.size w w' := by
  have HN := hidI h
  clear h
  go_enter Tryz.func172, Tryz.ntmps172
  go_wp2_with fail
  refine (never_yes 3 [decide (n < 0), decide (255 < n)] _ _ (by simp) (bools_new w [decide (n < 0), decide (255 < n)]) (by have := HN.out; simp; omega)).mono ?_
  rintro e w2 ⟨rfl, rfl⟩
  exact ⟨rfl, rfl, (Below.refl _ _).alloc (Nat.le_refl _) _⟩

end Go.Proofs.YtpoichgodamnkaaGreat
