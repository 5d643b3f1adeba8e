import Derived.Lib.SmallJoins
import Derived.Deep.Slices
import Derived.Deep.Strs
import Derived.Test.YtlbnkpicnokgoaaGreatOax
import Derived.Test.YtlbnkpicnokgoaaGreatOcx
import Derived.Test.YtlbnkpicnokgoaaGreatWKa
import Derived.Test.YtlbnkpicnokgoaaGreatOox
namespace Go.Proofs.YtlbnkpicnokgoaaGreat
open Go.RowKit Go.Deep Go.Joins Go.ChangeShapes
set_option linter.unusedVariables false
set_option maxRecDepth 100000
theorem cells9:Tryz.prog.cellsOf 9 = 1:=by kernel_rfl
theorem cells3:Tryz.prog.cellsOf 3 = 1:=by kernel_rfl
theorem cells4:Tryz.prog.cellsOf 4 = 1:=by kernel_rfl
variable {H:Type} {enc:TypeId × Value→H} {w:World} {base:Nat} {spare:Nat→Bool} {held:Bool}
theorem kM_ {W:World} {b o:Nat} {v:Value} (h:W.cell? ⟨b,o,none⟩ = some v):b < W.heap.size:=by
 unfold World.cell? at h;simp only at h;cases hb:W.heap[b]? with
 | none=>rw [hb] at h;cases h
 | some o=>exact (Array.getElem?_eq_some_iff.1 hb).1
theorem eb_ {α:Type} [Inhabited α] {sz:Nat} (hsz:0 < sz) {a:Addr} {len:Nat} {vals:α→List Value} {q:α→Prop} (hv:∀ x,(vals x).length = sz)
 (hx:∀ i,i < len→∃ cs,w.cells? base (a.add (i * sz)) sz = some cs∧∃ x:α,cs = vals x∧q x) :
 ∃ xs:List α,xs.length = len∧(∀ x ∈ xs,q x)∧(xs = []∨∃ g o,a = ⟨g,o,none⟩∧g < w.heap.size∧∀ i (h:i < xs.length) j,j < sz→w.cell? ⟨g,o+i * sz+j,none⟩ = (vals xs[i])[j]?):=by
 obtain ⟨f,hf⟩:=choose_lt (α:=α) (p:=fun i x=>w.cells? base (a.add (i * sz)) sz = some (vals x)∧q x) (fun i hi=>by
  obtain ⟨cs,h1,x,rfl,h2⟩:=hx i hi;exact ⟨x,h1,h2⟩)
 refine ⟨(List.range len).map f,by simp,?_,?_⟩
 ·intro x hx';obtain ⟨i,hi,rfl⟩:=List.mem_map.1 hx';exact (hf i (by simpa using hi)).2
 ·by_cases h0:len = 0
  ·left;subst h0;rfl
  ·right
   obtain ⟨g,o,spot⟩:=a;have hc0:=(World.cells?_some (hf 0 (by omega)).1).2.2 0 hsz;have hne:(vals (f 0))[0]? = some ((vals (f 0))[0]'(by rw [hv];exact hsz)):=List.getElem?_eq_getElem _;rw [hne] at hc0;have hsp:spot = none:=by simpa [Addr.add] using World.cell?_spot hc0
   subst hsp;have hg:g < w.heap.size:=kM_ (b:=g) (o:=o) (by simpa [Addr.add] using hc0);refine ⟨g,o,rfl,hg,fun i hi j hj=>?_⟩;have hi':i < len:=by simpa using hi
   have h:=(World.cells?_some (hf i hi').1).2.2 j hj;have e:((⟨g,o,none⟩:Addr).add (i * sz)).add j = ⟨g,o+i * sz+j,none⟩:=by
    unfold Addr.add;by_cases h1:i * sz = 0 <;> by_cases h2:j = 0 <;> simp [h1,h2]
   rw [e] at h;rw [h];simp
end Go.Proofs.YtlbnkpicnokgoaaGreat
namespace Go.Proofs.YtlbnkpicnokgoaaGreat
open Go.RowKit Go.Deep Go.Joins Go.ChangeShapes
set_option linter.unusedVariables false
set_option maxRecDepth 100000
theorem h3_:Tryz.prog.cellsOf 95 = 2:=by kernel_rfl
theorem gK_:Tryz.prog.cellsOf 80 = 3:=by kernel_rfl
theorem h2_:Tryz.prog.cellsOf 100 = 4:=by kernel_rfl
theorem lq_:Tryz.prog.cellsOf 26 = 3:=by kernel_rfl
variable {H:Type} {enc:TypeId × Value→H} {w:World} {base:Nat} {spare:Nat→Bool} {held:Bool}
theorem mg_ {m:Nat} {cs:List Value} {x:DataW H × List MemPlace} (h:DataW.trod enc Tryz.prog w base spare held m 95 cs = some x):∃ p:bX_,cs = [.string p.name,.int .i64 p.kind]∧p.name.size≤maxLen:=by
 obtain ⟨y0,y1,n,_,hl,h0,h1⟩:=trod_struct2 Tryz.underlying95 h;rw [h3_] at hl;match cs,hl with
 | [c0, c1], _ =>
   simp only [cells9,cells3] at h0 h1;obtain ⟨s,e0,_,hs⟩:=DataW.trod_string Tryz.underlying9 h0;obtain ⟨k,e1,_,_⟩:=DataW.trod_int Tryz.underlying3 h1;simp at e0 e1;subst e0 e1;exact ⟨⟨s,k⟩,rfl,hs⟩
theorem k3_ {m:Nat} {cs:List Value} {x:DataW H × List MemPlace} (h:DataW.trod enc Tryz.prog w base spare held m 80 cs = some x):∃ p:bd_,cs = [.string p.name,.int .i64 p.limit,.int .i64 p.dead]∧p.name.size≤maxLen:=by
 obtain ⟨y0,y1,y2,n,_,hl,h0,h1,h2⟩:=trod_struct3 Tryz.underlying80 h;rw [gK_] at hl;match cs,hl with
 | [c0, c1, c2], _ =>
   simp only [cells9,cells3] at h0 h1 h2;obtain ⟨s,e0,_,hs⟩:=DataW.trod_string Tryz.underlying9 h0;obtain ⟨k,e1,_,_⟩:=DataW.trod_int Tryz.underlying3 h1;obtain ⟨d,e2,_,_⟩:=DataW.trod_int Tryz.underlying3 h2;simp at e0 e1 e2;subst e0 e1 e2;exact ⟨⟨s,k,d⟩,rfl,hs⟩
theorem ln_ {m:Nat} {cs:List Value} {x:DataW H × List MemPlace} (h:DataW.trod enc Tryz.prog w base spare held m 100 cs = some x):∃ p:dF_,cs = [.int .i64 p.src,.bool p.toPost,.int .i64 p.dst,.string p.pat]∧True:=by
 obtain ⟨y0,y1,y2,y3,n,_,hl,h0,h1,h2,h3⟩:=trod_struct4 Tryz.underlying100 h;rw [h2_] at hl;match cs,hl with
 | [c0, c1, c2, c3], _ =>
   simp only [cells9,cells3,cells4] at h0 h1 h2 h3;obtain ⟨f,e0,_,_⟩:=DataW.trod_int Tryz.underlying3 h0;obtain ⟨tp,e1,_⟩:=DataW.trod_bool Tryz.underlying4 h1;obtain ⟨t,e2,_,_⟩:=DataW.trod_int Tryz.underlying3 h2;obtain ⟨s,e3,_,hs⟩:=DataW.trod_string Tryz.underlying9 h3;simp at e0 e1 e2 e3;subst e0 e1 e2 e3;exact ⟨⟨f,tp,t,s⟩,rfl,trivial⟩
theorem kY_ {m:Nat} {v:Value} {x:DataW H × List MemPlace} (h:DataW.trod enc Tryz.prog w base spare held m 22 [v] = some x) :
 ∃ (xs:List bX_) (a:Option Addr) (c:Nat),v = .slice a xs.length c∧(∀ x ∈ xs,x.name.size≤maxLen)∧bH_ w a xs:=by
 rcases open_slice Tryz.underlying22 h with ⟨hcs,_⟩ | ⟨a,len,cap,m',n,D,Pl,hcs,_,hl,_,hm,_,hx⟩
 ·simp at hcs;subst hcs;exact ⟨[],none,0,rfl,by simp,.inl rfl⟩
 ·simp at hcs;subst hcs;rw [h3_] at hx;have hle:len≤m':=by rw [hm];split <;> omega
  have:Inhabited bX_:=⟨⟨⟨#[]⟩,0⟩⟩;obtain ⟨xs,h1,h2,h3⟩:=eb_ (w:=w) (base:=base) (sz:=2) (by omega) (a:=a) (len:=len) (vals:=fun p:bX_=>[.string p.name,.int .i64 p.kind]) (q:=fun p=>p.name.size≤maxLen) (fun _=>rfl) (fun i hi=>by
   obtain ⟨cs,q1,q2⟩:=hx i (by omega);obtain ⟨p,q3,q4⟩:=mg_ q2;exact ⟨cs,q1,p,q3,q4⟩)
  refine ⟨xs,some a,cap,by rw [h1],h2,?_⟩;rcases h3 with h3 | ⟨g,o,rfl,hg,h3⟩
  ·exact .inl h3
  ·exact .inr ⟨g,o,rfl,hg,fun i hi=>⟨by simpa using h3 i hi 0 (by omega),by simpa using h3 i hi 1 (by omega)⟩⟩
theorem jt_ {m:Nat} {v:Value} {x:DataW H × List MemPlace} (h:DataW.trod enc Tryz.prog w base spare held m 23 [v] = some x) :
 ∃ (xs:List bd_) (a:Option Addr) (c:Nat),v = .slice a xs.length c∧(∀ x ∈ xs,x.name.size≤maxLen)∧a9_ w a xs:=by
 rcases open_slice Tryz.underlying23 h with ⟨hcs,_⟩ | ⟨a,len,cap,m',n,D,Pl,hcs,_,hl,_,hm,_,hx⟩
 ·simp at hcs;subst hcs;exact ⟨[],none,0,rfl,by simp,.inl rfl⟩
 ·simp at hcs;subst hcs;rw [gK_] at hx;have hle:len≤m':=by rw [hm];split <;> omega
  have:Inhabited bd_:=⟨⟨⟨#[]⟩,0,0⟩⟩;obtain ⟨xs,h1,h2,h3⟩:=eb_ (w:=w) (base:=base) (sz:=3) (by omega) (a:=a) (len:=len) (vals:=fun p:bd_=>[.string p.name,.int .i64 p.limit,.int .i64 p.dead]) (q:=fun p=>p.name.size≤maxLen) (fun _=>rfl) (fun i hi=>by
   obtain ⟨cs,q1,q2⟩:=hx i (by omega);obtain ⟨p,q3,q4⟩:=k3_ q2;exact ⟨cs,q1,p,q3,q4⟩)
  refine ⟨xs,some a,cap,by rw [h1],h2,?_⟩;rcases h3 with h3 | ⟨g,o,rfl,hg,h3⟩
  ·exact .inl h3
  ·exact .inr ⟨g,o,rfl,hg,fun i hi=>⟨by simpa using h3 i hi 0 (by omega),by simpa using h3 i hi 1 (by omega),by simpa using h3 i hi 2 (by omega)⟩⟩
theorem kn_ {m:Nat} {v:Value} {x:DataW H × List MemPlace} (h:DataW.trod enc Tryz.prog w base spare held m 24 [v] = some x) :
 ∃ (xs:List dF_) (a:Option Addr) (c:Nat),v = .slice a xs.length c∧bG_ w a xs:=by
 rcases open_slice Tryz.underlying24 h with ⟨hcs,_⟩ | ⟨a,len,cap,m',n,D,Pl,hcs,_,hl,_,hm,_,hx⟩
 ·simp at hcs;subst hcs;exact ⟨[],none,0,rfl,.inl rfl⟩
 ·simp at hcs;subst hcs;rw [h2_] at hx;have hle:len≤m':=by rw [hm];split <;> omega
  have:Inhabited dF_:=⟨⟨0,false,0,⟨#[]⟩⟩⟩;obtain ⟨xs,h1,h2,h3⟩:=eb_ (w:=w) (base:=base) (sz:=4) (by omega) (a:=a) (len:=len) (vals:=fun p:dF_=>[.int .i64 p.src,.bool p.toPost,.int .i64 p.dst,.string p.pat]) (q:=fun _=>True) (fun _=>rfl) (fun i hi=>by
   obtain ⟨cs,q1,q2⟩:=hx i (by omega);obtain ⟨p,q3,q4⟩:=ln_ q2;exact ⟨cs,q1,p,q3,q4⟩)
  refine ⟨xs,some a,cap,by rw [h1],?_⟩;rcases h3 with h3 | ⟨g,o,rfl,hg,h3⟩
  ·exact .inl h3
  ·exact .inr ⟨g,o,rfl,hg,fun i hi=>⟨by simpa using h3 i hi 0 (by omega),by simpa using h3 i hi 1 (by omega),by simpa using h3 i hi 2 (by omega),by simpa using h3 i hi 3 (by omega)⟩⟩
theorem mf_ {r:Reach} {b0:Nat} {v:Value} {d:DataW H} {p:List MemPlace} (hv:Value.okWide Tryz.prog w r b0 26 v) (h:DataW.Trod enc Tryz.prog w base spare held 26 v d p) :
 ∃ (P:ad_) (a1 a2 a3:Option Addr) (n1 c1 n2 c2 n3 c3:Nat),v = .agg #[.slice a1 n1 c1,.slice a2 n2 c2,.slice a3 n3 c3]∧ao_ w a1 a2 a3 n1 n2 n3 P:=by
 obtain ⟨v0,v1,v2,y0,y1,y2,n,rfl,_,_,h0,h1,h2⟩:=open_agg3 Tryz.underlying26 (by kernel_rfl) lq_ hv h;obtain ⟨xs,a1,c1,rfl,s1,k1⟩:=kY_ h0;obtain ⟨ys,a2,c2,rfl,s2,k2⟩:=jt_ h1;obtain ⟨zs,a3,c3,rfl,k3⟩:=kn_ h2;exact ⟨⟨xs,ys,zs⟩,a1,a2,a3,_,c1,_,c2,_,c3,rfl,⟨rfl,rfl,rfl,⟨fun x hx=>by obtain ⟨p,hp,rfl⟩:=List.mem_map.1 hx;exact s1 p hp,fun x hx=>by obtain ⟨p,hp,rfl⟩:=List.mem_map.1 hx;exact s2 p hp⟩,k1,k2,k3⟩⟩
end Go.Proofs.YtlbnkpicnokgoaaGreat
namespace Go.Proofs.YtlbnkpicnokgoaaGreat
open Go.RowKit Go.Deep Go.Joins Go.ChangeShapes Go.WideShapes
set_option linter.unusedVariables false
set_option maxRecDepth 100000
variable {H:Type} {enc:TypeId × Value→H} {w:World} {base:Nat} {spare:Nat→Bool} {held:Bool}
theorem iL_ {P:Program} {t:TypeId} {f0 f1 f2 f3 f4:Field} {fuel:Nat} {cs:List Value} {x:DataW H × List MemPlace} (ht:P.underlying t = some (.struct #[f0,f1,f2,f3,f4])) (h:DataW.trod enc P w base spare held fuel t cs = some x) :
 ∃ y0 y1 y2 y3 y4 n, cs.length = P.cellsOf t ∧ DataW.trod enc P w base spare held n f0.type ((cs.drop f0.offset).take (P.cellsOf f0.type)) = some y0 ∧ DataW.trod enc P w base spare held n f1.type ((cs.drop f1.offset).take (P.cellsOf f1.type)) = some y1 ∧
   DataW.trod enc P w base spare held n f2.type ((cs.drop f2.offset).take (P.cellsOf f2.type)) = some y2∧DataW.trod enc P w base spare held n f3.type ((cs.drop f3.offset).take (P.cellsOf f3.type)) = some y3∧DataW.trod enc P w base spare held n f4.type ((cs.drop f4.offset).take (P.cellsOf f4.type)) = some y4:=by
 obtain ⟨xs,n,_,rfl,hl,hlen,hf⟩:=DataW.trod_struct ht h;match xs,hlen with
 | [y0,y1,y2,y3,y4],_=>exact ⟨y0,y1,y2,y3,y4,n,hl,by simpa using hf 0 f0 rfl,by simpa using hf 1 f1 rfl,by simpa using hf 2 f2 rfl,by simpa using hf 3 f3 rfl,by simpa using hf 4 f4 rfl⟩
end Go.Proofs.YtlbnkpicnokgoaaGreat
namespace Go.Proofs.YtlbnkpicnokgoaaGreat
open Go.RowKit Go.Deep Go.Joins Go.ChangeShapes Go.WideShapes
set_option linter.unusedVariables false
set_option maxRecDepth 100000
theorem jL_:Tryz.prog.cellsOf 53 = 5:=by kernel_rfl
variable {H:Type} {enc:TypeId × Value→H} {w:World} {base:Nat} {spare:Nat→Bool} {held:Bool}
theorem gy_ {m:Nat} {cs:List Value} {x:DataW H × List MemPlace} (h:DataW.trod enc Tryz.prog w base spare held m 53 cs = some x):∃ p:ActD,cs = [.int .i64 p.kind,.int .i64 p.a,.int .i64 p.b,.string p.key,.string p.body]:=by
 obtain ⟨y0,y1,y2,y3,y4,n,hl,h0,h1,h2,h3,h4⟩:=iL_ Tryz.underlying53 h;rw [jL_] at hl;match cs,hl with
 | [c0, c1, c2, c3, c4], _ =>
   simp only [cells9,cells3] at h0 h1 h2 h3 h4;obtain ⟨q,e0,_,_⟩:=DataW.trod_int Tryz.underlying3 h0;obtain ⟨a,e1,_,_⟩:=DataW.trod_int Tryz.underlying3 h1;obtain ⟨b,e2,_,_⟩:=DataW.trod_int Tryz.underlying3 h2;obtain ⟨k,e3,_,_⟩:=DataW.trod_string Tryz.underlying9 h3;obtain ⟨d,e4,_,_⟩:=DataW.trod_string Tryz.underlying9 h4;simp at e0 e1 e2 e3 e4;subst e0 e1 e2 e3 e4;exact ⟨⟨q,a,b,k,d⟩,rfl⟩
end Go.Proofs.YtlbnkpicnokgoaaGreat
namespace Go.Proofs.YtlbnkpicnokgoaaGreat
open Go.RowKit Go.Deep Go.Joins Go.ChangeShapes Go.WideShapes
set_option linter.unusedVariables false
set_option maxRecDepth 100000
variable {H:Type} {enc:TypeId × Value→H} {w:World} {base:Nat} {spare:Nat→Bool} {held:Bool}
theorem kl_ {m:Nat} {v:Value} {x:DataW H × List MemPlace} (h:DataW.trod enc Tryz.prog w base spare held m 57 [v] = some x) :
 ∃ (xs:List ActD) (a:Option Addr) (c:Nat),v = .slice a xs.length c∧xs.length≤c∧c≤maxLen∧(a = none→c = 0∧xs.length = 0)∧aJ_ w a (aH_ xs):=by
 rcases open_slice Tryz.underlying57 h with ⟨hcs,_⟩ | ⟨a,len,cap,m',n,D,Pl,hcs,_,hl,hcm,hm,_,hx⟩
 ·simp at hcs;subst hcs;exact ⟨[],none,0,rfl,Nat.le_refl _,Nat.zero_le _,fun _=>⟨rfl,rfl⟩,.inl rfl⟩
 ·simp at hcs;subst hcs;rw [jL_] at hx;have hle:len≤m':=by rw [hm];split <;> omega
  have:Inhabited ActD:=⟨⟨0,0,0,⟨#[]⟩,⟨#[]⟩⟩⟩;obtain ⟨xs,h1,h2,h3⟩:=eb_ (w:=w) (base:=base) (sz:=5) (by omega) (a:=a) (len:=len) (vals:=fun p:ActD=>[.int .i64 p.kind,.int .i64 p.a,.int .i64 p.b,.string p.key,.string p.body]) (q:=fun _=>True) (fun _=>rfl) (fun i hi=>by
   obtain ⟨cs,q1,q2⟩:=hx i (by omega);obtain ⟨p,q3⟩:=gy_ q2;exact ⟨cs,q1,p,q3,trivial⟩)
  refine ⟨xs,some a,cap,by rw [h1],by omega,hcm,(fun e=>by cases e),?_⟩;rcases h3 with h3 | ⟨g,o,rfl,hg,h3⟩
  ·subst h3;exact .inl rfl
  ·refine .inr ⟨g,o,rfl,hg,fun j u hj=>?_⟩;have hjl:j < (aH_ xs).length:=(List.getElem?_eq_some_iff.1 hj).1;rw [fr_] at hjl;have hq:j / 5 < xs.length:=by omega
   have hr:j % 5 < 5:=by omega
   have e:=bI_ (f:=ActD.cells) (k:=5) (fun _=>rfl) xs (j / 5) hq (j % 5) hr;rw [show j / 5 * 5+j % 5 = j by omega] at e;have e2:=h3 (j / 5) hq (j % 5) hr;rw [show o+j = o+j / 5 * 5+j % 5 by omega];have e3:some u = (xs[j / 5]'hq).cells[j % 5]?:=by rw [← hj];exact e
   rw [e3];exact e2
theorem lj_ {r:Reach} {b0:Nat} {v:Value} {d:DataW H} {p:List MemPlace} (hv:Value.okWide Tryz.prog w r b0 57 v) (h:DataW.Trod enc Tryz.prog w base spare held 57 v d p) :
 ∃ (xs:List ActD) (a:Option Addr) (c:Nat),v = .slice a xs.length c∧xs.length≤c∧c≤maxLen∧(a = none→c = 0∧xs.length = 0)∧aJ_ w a (aH_ xs):=by
 obtain ⟨a0,len,cap,rfl⟩:=okWide_slice Tryz.underlying57 hv;obtain ⟨m,hm⟩:=h;exact kl_ hm
end Go.Proofs.YtlbnkpicnokgoaaGreat
