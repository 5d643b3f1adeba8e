import Derived.Test.YtlbnkpicnokgoaaGreatUfx
import Derived.Deep.DeepCutAuto
import Derived.Test.YtlbnkpicnokgoaaGreatUax
namespace Go.Proofs.YtlbnkpicnokgoaaGreat
open Go.RowKit Go.Maps
set_option linter.unusedVariables false
set_option maxRecDepth 100000
theorem bY_ {L E:TypeId} {size bytes:Nat} (hE:eY_ L E size bytes) {w:World} {ops:Array Oper} {o:Oper} {act:Act} {K:Act→World→Prop} {Q:Exit→Act→World→Prop} {F:Prop} (hw:Region.wanted o (yielded ops act.tmps) = true) (s x:Operand)
 (ho:o.op = .call { callee:=.builtin .append,args:=#[s,x],argTypes:=#[L,L] })
 (base:Nat) (v:Value) (n:Nat) (cs:List Value) (hs:act.eval s = v) (hown:w.ownsRow base E size v n cs)
 (a:Option Addr) (m c:Nat) (ds:List Value) (hx:act.eval x = .slice a m c) (hm:ds.length = m * size) (hz:a = none→c = 0∧m = 0) (hT:aO_ w a ds) (h1:∀ u ∈ ds,u.oneCell' = true)
 (hb:n+m≤maxLen) (hby:(n+m) * bytes≤140737488355328) (hbase:base≤w.heap.size)
 (h:∀ v' w',w'.ownsRow base E size v' (n+m) (cs ++ ds)→w.grownBy w' v.ownBlock→(v'.ownBlock = v.ownBlock∨v'.ownBlock = some w.heap.size)→K (act.put o.dst v') w') :
 if Region.wanted o (yielded ops act.tmps) = true then Oper.wp Tryz.prog o act w K Q else F:=by
 rw [if_pos hw];exact cQ_ hE s x ho base v n cs hs hown a m c ds hx hm hz hT h1 hb hby hbase h
theorem ow_ (n:Int) (w:World):(Instr.typeAssert (.iface 3 (.int .i64 n)) 20 3 true).run Tryz.prog w = .ok (.tuple #[.int .i64 n,.bool true]) w:=by kernel_rfl
theorem lT_ (b:Bool) (w:World):(Instr.typeAssert (.iface 4 (.bool b)) 20 3 true).run Tryz.prog w = .ok (.tuple #[.int .i64 0,.bool false]) w:=by kernel_rfl
theorem lU_ (s:ByteArray) (w:World):(Instr.typeAssert (.iface 9 (.string s)) 20 3 true).run Tryz.prog w = .ok (.tuple #[.int .i64 0,.bool false]) w:=by kernel_rfl
theorem nY_ (b:Bool) (w:World):(Instr.typeAssert (.iface 4 (.bool b)) 20 4 true).run Tryz.prog w = .ok (.tuple #[.bool b,.bool true]) w:=by kernel_rfl
theorem kM_ (s:ByteArray) (w:World):(Instr.typeAssert (.iface 9 (.string s)) 20 4 true).run Tryz.prog w = .ok (.tuple #[.bool false,.bool false]) w:=by kernel_rfl
theorem ox_ (s:ByteArray) (w:World):(Instr.typeAssert (.iface 9 (.string s)) 20 9 true).run Tryz.prog w = .ok (.tuple #[.string s,.bool true]) w:=by kernel_rfl
structure cM_ (W:World) (n B:Nat) (l:List UInt8) (b:Option Addr) (m c:Nat):Prop where
 box:W.heap[B]? = some (.cells #[.slice b m c] 144 (0,0))
 row:W.ownsRow n 5 1 (.slice b m c) m (byC_ l)
 len:m = l.length
theorem bp_ {l:List bi_} {k:Nat} (hk:k < l.length) (h:(l.take k).all bi_.ok = true) (hx:l[k].ok = true):(l.take (k+1)).all bi_.ok = true:=by
 rw [List.take_succ_eq_append_getElem hk,List.all_append,h];simp [hx]
theorem bX_ {l:List bi_} {k:Nat} (hk:k < l.length):de_ (l.take (k+1)) = de_ (l.take k) ++ l[k].bytes:=by
 unfold de_;rw [List.take_succ_eq_append_getElem hk,List.flatMap_append,List.flatMap_singleton]
theorem c7_ {l:List bi_} {k:Nat} (hk:k < l.length) (hx:l[k].ok = false):putE l = 3:=by
 unfold putE;rw [if_neg];rw [Bool.not_eq_true,List.all_eq_false];exact ⟨l[k],List.getElem_mem hk,by simp [hx]⟩
theorem cM_.keep {W W':World} {n B:Nat} {l:List UInt8} {b:Option Addr} {m c:Nat} (h:cM_ W n B l b m c) (hB:Below W.heap.size W W'):cM_ W' n B l b m c:=⟨pkp_ h.box hB,cp2_ h.row hB,h.len⟩
theorem cM_.store {W W1:World} {n B:Nat} {l l':List UInt8} {b:Option Addr} {m c:Nat} (h:cM_ W n B l b m c) (hB:B < n) {v:Value} {m':Nat} (ho:W1.ownsRow n 5 1 v m' (byC_ l')) (hg:W.grownBy W1 (Value.slice b m c).ownBlock):∃ b' c',v = .slice b' m' c'∧cM_ (W1.setCell ⟨B,0,none⟩ v) n B l' b' m' c'∧W1.heap[B]? = some (.cells #[.slice b m c] 144 (0,0)):=by
 have hb1:W1.heap[B]? = some (.cells #[.slice b m c] 144 (0,0)):=(hg.block B (lth_ h.box) (fun e=>by have:=h.row.lt B e.symm;omega)).trans h.box;obtain ⟨b',c',rfl,-⟩:=aH_ ho;refine ⟨b',c',rfl,⟨scb_ hb1 (j:=0) _,ch_ ho (fun g hg'=>heap_setCell_other _ _ _ _ (fun e=>by have h2:=(ho.lt g hg').1;have e':g = B:=e;omega)),?_⟩,hb1⟩;have:=ho.1;rw [ez_] at this;omega
end Go.Proofs.YtlbnkpicnokgoaaGreat
