import Derived.Test.YtlbnkpicnokgoaaGreatSmx
import Derived.Deep.DeepCutAuto
import Derived.Test.YtlbnkpicnokgoaaGreatSax
namespace Go.Proofs.YtlbnkpicnokgoaaGreat
open Go.RowKit Go.Maps
set_option linter.unusedVariables false
set_option maxRecDepth 100000
theorem h9_ {L E:TypeId} {size bytes:Nat} (hE:eA_ L E size bytes) {w:World} {ops:Array Oper} {o:Oper} {act:Act} {K:Act→World→Prop} {Q:Exit→Act→World→Prop} {F:Prop} (hw:Region.wanted o (yielded ops act.tmps) = true) (s x:Operand)
 (ho:o.op = .call { callee:=.builtin .append,args:=#[s,x],argTypes:=#[L,L] })
 (base:Nat) (v:Value) (n:Nat) (cs:List Value) (hs:act.eval s = v) (hown:w.ownsRow base E size v n cs)
 (a:Option Addr) (m c:Nat) (ds:List Value) (hx:act.eval x = .slice a m c) (hm:ds.length = m * size) (hz:a = none→c = 0∧m = 0) (hT:a7_ w a ds) (h1:∀ u ∈ ds,u.oneCell' = true)
 (hb:n+m≤maxLen) (hby:(n+m) * bytes≤140737488355328) (hbase:base≤w.heap.size)
 (h:∀ v' w',w'.ownsRow base E size v' (n+m) (cs ++ ds)→w.grownBy w' v.ownBlock→(v'.ownBlock = v.ownBlock∨v'.ownBlock = some w.heap.size)→K (act.put o.dst v') w') :
 if Region.wanted o (yielded ops act.tmps) = true then Oper.wp Tryz.prog o act w K Q else F:=by
 rw [if_pos hw];exact cx_ hE s x ho base v n cs hs hown a m c ds hx hm hz hT h1 hb hby hbase h
end Go.Proofs.YtlbnkpicnokgoaaGreat
