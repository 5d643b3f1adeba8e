import Derived.Test.YtlbnkpicnokgoaaGreatSvx
import Derived.Test.YtlbnkpicnokgoaaGreatBUr
import Derived.Test.YtlbnkpicnokgoaaGreatStx
namespace Go.Proofs.YtlbnkpicnokgoaaGreat
open Go.RowKit Go.Maps
set_option linter.unusedVariables false
set_option maxRecDepth 100000
structure l9_ (W:World) (B:Nat) (u:Array Value) (n:Nat) (E:Int) (s:ab_):Prop where
 box:W.heap[B]? = some (.cells u 31 (0,0))
 res:a4_ W n (.agg u) E s
theorem l9_.keep {W W':World} {B:Nat} {u:Array Value} {n:Nat} {E:Int} {s:ab_} (h:l9_ W B u n E s) (hB:Below W.heap.size W W'):l9_ W' B u n E s:=⟨pkp_ h.box hB,h.res.keep hB⟩
theorem ht_ {W:World} {u:Array Value} {n:Nat} {E:Int} {s:ab_} (h:a4_ W n (.agg u) E s):∃ W',W' = W.alloc (.cells u 31)∧Below W.heap.size W W'∧l9_ W' W.heap.size u n E s:=
 ⟨_,rfl,(Below.refl _ _).alloc (Nat.le_refl _) _,World.alloc_heap_new W _,h.keep ((Below.refl _ _).alloc (Nat.le_refl _) _)⟩
end Go.Proofs.YtlbnkpicnokgoaaGreat
