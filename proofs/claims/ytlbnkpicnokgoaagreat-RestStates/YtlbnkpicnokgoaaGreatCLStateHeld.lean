import Derived.Test.YtlbnkpicnokgoaaGreatCTq
import Derived.Test.YtlbnkpicnokgoaaGreatUqx
import Derived.Test.YtlbnkpicnokgoaaGreatUrx
namespace Go.Proofs.YtlbnkpicnokgoaaGreat
open Go.RowKit Go.Maps
set_option linter.unusedVariables false
set_option maxRecDepth 100000
theorem bl_ (p:ad_) (a1 a2 a3:Option Addr) (n1 c1 n2 c2 n3 c3:Nat) (s:ab_) (b1 b2 b3:Option Addr) (m1 d1 m2 d2 m3 d3:Nat) (w:World) (hp:ap_ w a1 a2 a3 n1 n2 n3 p) (hs:an_ w b1 b2 b3 m1 m2 m3 s) :
 Calls Tryz.prog 10 #[.agg #[.slice a1 n1 c1,.slice a2 n2 c2,.slice a3 n3 c3],.agg #[.slice b1 m1 d1,.slice b2 m2 d2,.slice b3 m3 d3,.int .i64 s.nextSeq,.int .i64 s.nextTag,.int .i64 s.came,.int .i64 s.acked,.int .i64 s.dropped]] w fun e w'=>e = .returned (.int .i64 (stE p s))∧Below w.heap.size w w':=
 gz_ p _ _ _ _ _ _ _ _ _ s _ _ _ _ _ _ _ _ _ w hp hs fun W hW h0 h3=>km_ p _ _ _ _ _ _ _ _ _ s _ _ _ _ _ _ _ _ _ W (hp.keep hW) (hs.keep hW) (bc_ h0) h3
end Go.Proofs.YtlbnkpicnokgoaaGreat
