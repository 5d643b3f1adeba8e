import Derived.Lib.SmallJoins
import Derived.Test.YtedmnjimkhamaaaGreatDoorMbx
namespace Go.Proofs.YtedmnjimkhamaaaGreatDoor
set_option linter.unusedVariables false
set_option maxRecDepth 100000
open Go.RowKit Go.Deep Go.Joins Go.ChangeShapes
theorem tU:Tryz.prog.cellsOf 9=1:=by kernel_rfl
theorem sU:Tryz.prog.cellsOf 3=1:=by kernel_rfl
theorem AG:Tryz.prog.cellsOf 4=1:=by kernel_rfl
variable{H:Type}{enc:TypeId×Value->H}{w:World}{base:Nat}{spare:Nat->Bool}{held:Bool}
theorem d8{W:World}{b o:Nat}{v:Value}(h:W.cell? ⟨b,o,none⟩=some v):b<W.heap.size:=by
 unfold World.cell? at h;simp only at h;cases hb:W.heap[b]? with
 |none=>rw[hb]at h;cases h
 |some o=>exact(iC.1 hb).1
theorem IU{α:Type}[Inhabited α]{sz:Nat}(hsz:0<sz){a:Addr}{len:Nat}{vals:α->List Value}{q:α->Prop}(hv:∀x,(vals x).length=sz)
 (hx:∀i,i<len->∃cs,w.cells? base (a.add (i*sz)) sz=some cs/\∃x:α,cs=vals x/\q x):
 ∃xs:List α,xs.length=len/\(∀x∈xs,q x)/\(xs=[]\/∃g o,a=⟨g,o,none⟩/\g<w.heap.size/\∀i(h:i<xs.length)j,j<sz->w.cell? ⟨g,o+i*sz+j,none⟩=(vals xs[i])[j]?):=by
 obtain⟨f,hf⟩:=choose_lt (α:=α) (p:=λi x=>w.cells? base (a.add (i*sz)) sz=some (vals x)/\q x) (λi hi=>by
  obtain⟨cs,h1,x,rfl,h2⟩:=hx i hi;exact⟨x,h1,h2⟩);refine⟨(List.range len).map f,by simp,?_,?_⟩;·intro x hx';obtain⟨i,hi,rfl⟩:=jD.1 hx';exact(hf i (by simpa using hi)).2
 ·by_cases h0:len=0;·left;subst h0;rfl
  ·right;obtain⟨g,o,spot⟩:=a;have hc0:=(World.cells?_some (hf 0 (by omega)).1).2.2 0 hsz;have hne:(vals (f 0))[0]?=some ((vals (f 0))[0]'(by rw[hv];exact hsz)):=tA _;rw[hne]at hc0;have hsp:spot=none:=by simpa[Addr.add]using World.cell?_spot hc0
   subst hsp;have hg:g<w.heap.size:=d8 (b:=g) (o:=o) (by simpa[Addr.add]using hc0);refine⟨g,o,rfl,hg,λi hi j hj=>?_⟩;have hi':i<len:=by simpa using hi
   have h:=(World.cells?_some (hf i hi').1).2.2 j hj;have e:((⟨g,o,none⟩:Addr).add (i*sz)).add j=⟨g,o+i*sz+j,none⟩:=by
    unfold Addr.add;by_cases h1:i*sz=0<;>by_cases h2:j=0<;>simp[h1,h2]
   rw[e]at h;rw[h];simp
end Go.Proofs.YtedmnjimkhamaaaGreatDoor
namespace Go.Proofs.YtedmnjimkhamaaaGreatDoor
set_option linter.unusedVariables false
set_option maxRecDepth 100000
open Go.RowKit Go.Deep Go.Joins Go.ChangeShapes
theorem QI:Tryz.prog.cellsOf 55=2:=by kernel_rfl
theorem PE:Tryz.prog.cellsOf 59=3:=by kernel_rfl
theorem QH:Tryz.prog.cellsOf 74=4:=by kernel_rfl
theorem V_:Tryz.prog.cellsOf 26=3:=by kernel_rfl
variable{H:Type}{enc:TypeId×Value->H}{w:World}{base:Nat}{spare:Nat->Bool}{held:Bool}
theorem D0{m:Nat}{cs:List Value}{x:DataW H×List MemPlace}(h:DataW.trod enc Tryz.prog w base spare held m 55 cs=some x):∃p:nL,cs=[.string p.name,.int .i64 p.kind]/\p.name.size<=maxLen:=by
 obtain⟨y0,y1,n,_,hl,h0,h1⟩:=trod_struct2 Tryz.underlying55 h;rw[QI]at hl;match cs,hl with
 |[c0,c1],_=>
   simp only[tU,sU]at h0 h1;obtain⟨s,e0,_,hs⟩:=DataW.trod_string Tryz.underlying9 h0;obtain⟨k,e1,_,_⟩:=uN Tryz.underlying3 h1;simp at e0 e1;subst e0 e1;exact⟨⟨s,k⟩,rfl,hs⟩
theorem z8{m:Nat}{cs:List Value}{x:DataW H×List MemPlace}(h:DataW.trod enc Tryz.prog w base spare held m 59 cs=some x):∃p:kL,cs=[.string p.name,.int .i64 p.yD,.int .i64 p.dead]/\p.name.size<=maxLen:=by
 obtain⟨y0,y1,y2,n,_,hl,h0,h1,h2⟩:=trod_struct3 Tryz.underlying59 h;rw[PE]at hl;match cs,hl with
 |[c0,c1,c2],_=>
   simp only[tU,sU]at h0 h1 h2;obtain⟨s,e0,_,hs⟩:=DataW.trod_string Tryz.underlying9 h0;obtain⟨k,e1,_,_⟩:=uN Tryz.underlying3 h1;obtain⟨d,e2,_,_⟩:=uN Tryz.underlying3 h2;simp at e0 e1 e2;subst e0 e1 e2;exact⟨⟨s,k,d⟩,rfl,hs⟩
theorem S_{m:Nat}{cs:List Value}{x:DataW H×List MemPlace}(h:DataW.trod enc Tryz.prog w base spare held m 74 cs=some x):∃p:qS,cs=[.int .i64 p.src,.bool p.xF,.int .i64 p.dst,.string p.pat]/\True:=by
 obtain⟨y0,y1,y2,y3,n,_,hl,h0,h1,h2,h3⟩:=trod_struct4 Tryz.underlying74 h;rw[QH]at hl;match cs,hl with
 |[c0,c1,c2,c3],_=>
   simp only[tU,sU,AG]at h0 h1 h2 h3;obtain⟨f,e0,_,_⟩:=uN Tryz.underlying3 h0;obtain⟨tp,e1,_⟩:=DataW.trod_bool Tryz.underlying4 h1;obtain⟨t,e2,_,_⟩:=uN Tryz.underlying3 h2;obtain⟨s,e3,_,hs⟩:=DataW.trod_string Tryz.underlying9 h3;simp at e0 e1 e2 e3;subst e0 e1 e2 e3;exact⟨⟨f,tp,t,s⟩,rfl,trivial⟩
theorem p7{m:Nat}{v:Value}{x:DataW H×List MemPlace}(h:DataW.trod enc Tryz.prog w base spare held m 22 [v]=some x):
 ∃(xs:List nL)(a:Option Addr)(c:Nat),v=.slice a xs.length c/\(∀x∈xs,x.name.size<=maxLen)/\lR w a xs:=by
 rcases open_slice Tryz.underlying22 h with⟨hcs,_⟩|⟨a,len,cap,m',n,D,Pl,hcs,_,hl,_,hm,_,hx⟩;·simp at hcs;subst hcs;exact⟨[],none,0,rfl,by simp,.inl rfl⟩
 ·simp at hcs;subst hcs;rw[QI]at hx;have hle:len<=m':=by rw[hm];split<;>omega
  have:Inhabited nL:=⟨⟨⟨#[]⟩,0⟩⟩;obtain⟨xs,h1,h2,h3⟩:=IU (w:=w) (base:=base) (sz:=2) (by omega) (a:=a) (len:=len) (vals:=λp:nL=>[.string p.name,.int .i64 p.kind]) (q:=λp=>p.name.size<=maxLen) (λ_=>rfl) (λi hi=>by
   obtain⟨cs,q1,q2⟩:=hx i (by omega);obtain⟨p,q3,q4⟩:=D0 q2;exact⟨cs,q1,p,q3,q4⟩);refine⟨xs,some a,cap,by rw[h1],h2,?_⟩;rcases h3 with h3|⟨g,o,rfl,hg,h3⟩;·exact .inl h3
  ·exact .inr ⟨g,o,rfl,hg,λi hi=>⟨by simpa using h3 i hi 0 (by omega),by simpa using h3 i hi 1 (by omega)⟩⟩
theorem ZA{m:Nat}{v:Value}{x:DataW H×List MemPlace}(h:DataW.trod enc Tryz.prog w base spare held m 23 [v]=some x):
 ∃(xs:List kL)(a:Option Addr)(c:Nat),v=.slice a xs.length c/\(∀x∈xs,x.name.size<=maxLen)/\kR w a xs:=by
 rcases open_slice Tryz.underlying23 h with⟨hcs,_⟩|⟨a,len,cap,m',n,D,Pl,hcs,_,hl,_,hm,_,hx⟩;·simp at hcs;subst hcs;exact⟨[],none,0,rfl,by simp,.inl rfl⟩
 ·simp at hcs;subst hcs;rw[PE]at hx;have hle:len<=m':=by rw[hm];split<;>omega
  have:Inhabited kL:=⟨⟨⟨#[]⟩,0,0⟩⟩;obtain⟨xs,h1,h2,h3⟩:=IU (w:=w) (base:=base) (sz:=3) (by omega) (a:=a) (len:=len) (vals:=λp:kL=>[.string p.name,.int .i64 p.yD,.int .i64 p.dead]) (q:=λp=>p.name.size<=maxLen) (λ_=>rfl) (λi hi=>by
   obtain⟨cs,q1,q2⟩:=hx i (by omega);obtain⟨p,q3,q4⟩:=z8 q2;exact⟨cs,q1,p,q3,q4⟩);refine⟨xs,some a,cap,by rw[h1],h2,?_⟩;rcases h3 with h3|⟨g,o,rfl,hg,h3⟩;·exact .inl h3
  ·exact .inr ⟨g,o,rfl,hg,λi hi=>⟨by simpa using h3 i hi 0 (by omega),by simpa using h3 i hi 1 (by omega),by simpa using h3 i hi 2 (by omega)⟩⟩
theorem m_{m:Nat}{v:Value}{x:DataW H×List MemPlace}(h:DataW.trod enc Tryz.prog w base spare held m 24 [v]=some x):
 ∃(xs:List qS)(a:Option Addr)(c:Nat),v=.slice a xs.length c/\wS w a xs:=by
 rcases open_slice Tryz.underlying24 h with⟨hcs,_⟩|⟨a,len,cap,m',n,D,Pl,hcs,_,hl,_,hm,_,hx⟩;·simp at hcs;subst hcs;exact⟨[],none,0,rfl,.inl rfl⟩
 ·simp at hcs;subst hcs;rw[QH]at hx;have hle:len<=m':=by rw[hm];split<;>omega
  have:Inhabited qS:=⟨⟨0,false,0,⟨#[]⟩⟩⟩;obtain⟨xs,h1,h2,h3⟩:=IU (w:=w) (base:=base) (sz:=4) (by omega) (a:=a) (len:=len) (vals:=λp:qS=>[.int .i64 p.src,.bool p.xF,.int .i64 p.dst,.string p.pat]) (q:=λ_=>True) (λ_=>rfl) (λi hi=>by
   obtain⟨cs,q1,q2⟩:=hx i (by omega);obtain⟨p,q3,q4⟩:=S_ q2;exact⟨cs,q1,p,q3,q4⟩);refine⟨xs,some a,cap,by rw[h1],?_⟩;rcases h3 with h3|⟨g,o,rfl,hg,h3⟩;·exact .inl h3
  ·exact .inr ⟨g,o,rfl,hg,λi hi=>⟨by simpa using h3 i hi 0 (by omega),by simpa using h3 i hi 1 (by omega),by simpa using h3 i hi 2 (by omega),by simpa using h3 i hi 3 (by omega)⟩⟩
theorem C7{r:Reach}{b0:Nat}{v:Value}{d:DataW H}{p:List MemPlace}(hv:Value.okWide Tryz.prog w r b0 26 v)(h:DataW.Trod enc Tryz.prog w base spare held 26 v d p):
 ∃(P:lD)(a1 a2 a3:Option Addr)(n1 c1 n2 c2 n3 c3:Nat),v=.agg #[.slice a1 n1 c1,.slice a2 n2 c2,.slice a3 n3 c3]/\sG w a1 a2 a3 n1 n2 n3 P:=by
 obtain⟨v0,v1,v2,y0,y1,y2,n,rfl,_,_,h0,h1,h2⟩:=open_agg3 Tryz.underlying26 (by kernel_rfl) V_ hv h;obtain⟨xs,a1,c1,rfl,s1,k1⟩:=p7 h0;obtain⟨ys,a2,c2,rfl,s2,k2⟩:=ZA h1;obtain⟨zs,a3,c3,rfl,k3⟩:=m_ h2;exact⟨⟨xs,ys,zs⟩,a1,a2,a3,_,c1,_,c2,_,c3,rfl,⟨rfl,rfl,rfl,⟨λx hx=>by obtain⟨p,hp,rfl⟩:=jD.1 hx;exact s1 p hp,λx hx=>by obtain⟨p,hp,rfl⟩:=jD.1 hx;exact s2 p hp⟩,k1,k2,k3⟩⟩
end Go.Proofs.YtedmnjimkhamaaaGreatDoor
