import Derived.Lib.SmallJoins
import Derived.Deep.Slices
import Derived.Deep.Strs
import Derived.Test.YtlbnkpicnokgoaaGreatUax
import Derived.Test.YtlbnkpicnokgoaaGreatUcx
import Derived.SizedLaws
import Derived.Test.YtlbnkpicnokgoaaGreatUdx
import Derived.Test.YtlbnkpicnokgoaaGreatCKa
namespace Go.Proofs.YtlbnkpicnokgoaaGreat
open Go.RowKit Go.Deep Go.Joins Go.ChangeShapes
set_option linter.unusedVariables false
set_option maxRecDepth 100000
theorem cells9:Tryz.prog.cellsOf 9 = 1:=by kernel_rfl
theorem cells3:Tryz.prog.cellsOf 3 = 1:=by kernel_rfl
theorem cells4:Tryz.prog.cellsOf 4 = 1:=by kernel_rfl
variable {H:Type} {enc:TypeId × Value→H} {w:World} {base:Nat} {spare:Nat→Bool} {held:Bool}
theorem kE_ {W:World} {b o:Nat} {v:Value} (h:W.cell? ⟨b,o,none⟩ = some v):b < W.heap.size:=by
 unfold World.cell? at h;simp only at h;cases hb:W.heap[b]? with
 | none=>rw [hb] at h;cases h
 | some o=>exact (Array.getElem?_eq_some_iff.1 hb).1
theorem cp_ {α:Type} [Inhabited α] {sz:Nat} (hsz:0 < sz) {a:Addr} {len:Nat} {vals:α→List Value} {q:α→Prop} (hv:∀ x,(vals x).length = sz)
 (hx:∀ i,i < len→∃ cs,w.cells? base (a.add (i * sz)) sz = some cs∧∃ x:α,cs = vals x∧q x) :
 ∃ xs:List α,xs.length = len∧(∀ x ∈ xs,q x)∧(xs = []∨∃ g o,a = ⟨g,o,none⟩∧g < w.heap.size∧∀ i (h:i < xs.length) j,j < sz→w.cell? ⟨g,o+i * sz+j,none⟩ = (vals xs[i])[j]?):=by
 obtain ⟨f,hf⟩:=choose_lt (α:=α) (p:=fun i x=>w.cells? base (a.add (i * sz)) sz = some (vals x)∧q x) (fun i hi=>by
  obtain ⟨cs,h1,x,rfl,h2⟩:=hx i hi;exact ⟨x,h1,h2⟩)
 refine ⟨(List.range len).map f,by simp,?_,?_⟩
 ·intro x hx';obtain ⟨i,hi,rfl⟩:=List.mem_map.1 hx';exact (hf i (by simpa using hi)).2
 ·by_cases h0:len = 0
  ·left;subst h0;rfl
  ·right
   obtain ⟨g,o,spot⟩:=a;have hc0:=(World.cells?_some (hf 0 (by omega)).1).2.2 0 hsz;have hne:(vals (f 0))[0]? = some ((vals (f 0))[0]'(by rw [hv];exact hsz)):=List.getElem?_eq_getElem _;rw [hne] at hc0;have hsp:spot = none:=by simpa [Addr.add] using World.cell?_spot hc0
   subst hsp;have hg:g < w.heap.size:=kE_ (b:=g) (o:=o) (by simpa [Addr.add] using hc0);refine ⟨g,o,rfl,hg,fun i hi j hj=>?_⟩;have hi':i < len:=by simpa using hi
   have h:=(World.cells?_some (hf i hi').1).2.2 j hj;have e:((⟨g,o,none⟩:Addr).add (i * sz)).add j = ⟨g,o+i * sz+j,none⟩:=by
    unfold Addr.add;by_cases h1:i * sz = 0 <;> by_cases h2:j = 0 <;> simp [h1,h2]
   rw [e] at h;rw [h];simp
end Go.Proofs.YtlbnkpicnokgoaaGreat
namespace Go.Proofs.YtlbnkpicnokgoaaGreat
open Go.RowKit Go.Deep Go.Joins Go.ChangeShapes
set_option linter.unusedVariables false
set_option maxRecDepth 100000
theorem hX_:Tryz.prog.cellsOf 95 = 2:=by kernel_rfl
theorem gE_:Tryz.prog.cellsOf 80 = 3:=by kernel_rfl
theorem hW_:Tryz.prog.cellsOf 100 = 4:=by kernel_rfl
theorem ll_:Tryz.prog.cellsOf 26 = 3:=by kernel_rfl
variable {H:Type} {enc:TypeId × Value→H} {w:World} {base:Nat} {spare:Nat→Bool} {held:Bool}
theorem ma_ {m:Nat} {cs:List Value} {x:DataW H × List MemPlace} (h:DataW.trod enc Tryz.prog w base spare held m 95 cs = some x):∃ p:bV_,cs = [.string p.name,.int .i64 p.kind]∧p.name.size≤maxLen:=by
 obtain ⟨y0,y1,n,_,hl,h0,h1⟩:=trod_struct2 Tryz.underlying95 h;rw [hX_] at hl;match cs,hl with
 | [c0, c1], _ =>
   simp only [cells9,cells3] at h0 h1;obtain ⟨s,e0,_,hs⟩:=DataW.trod_string Tryz.underlying9 h0;obtain ⟨k,e1,_,_⟩:=DataW.trod_int Tryz.underlying3 h1;simp at e0 e1;subst e0 e1;exact ⟨⟨s,k⟩,rfl,hs⟩
theorem kV_ {m:Nat} {cs:List Value} {x:DataW H × List MemPlace} (h:DataW.trod enc Tryz.prog w base spare held m 80 cs = some x):∃ p:ba_,cs = [.string p.name,.int .i64 p.limit,.int .i64 p.dead]∧p.name.size≤maxLen:=by
 obtain ⟨y0,y1,y2,n,_,hl,h0,h1,h2⟩:=trod_struct3 Tryz.underlying80 h;rw [gE_] at hl;match cs,hl with
 | [c0, c1, c2], _ =>
   simp only [cells9,cells3] at h0 h1 h2;obtain ⟨s,e0,_,hs⟩:=DataW.trod_string Tryz.underlying9 h0;obtain ⟨k,e1,_,_⟩:=DataW.trod_int Tryz.underlying3 h1;obtain ⟨d,e2,_,_⟩:=DataW.trod_int Tryz.underlying3 h2;simp at e0 e1 e2;subst e0 e1 e2;exact ⟨⟨s,k,d⟩,rfl,hs⟩
theorem lh_ {m:Nat} {cs:List Value} {x:DataW H × List MemPlace} (h:DataW.trod enc Tryz.prog w base spare held m 100 cs = some x):∃ p:dA_,cs = [.int .i64 p.src,.bool p.toPost,.int .i64 p.dst,.string p.pat]∧True:=by
 obtain ⟨y0,y1,y2,y3,n,_,hl,h0,h1,h2,h3⟩:=trod_struct4 Tryz.underlying100 h;rw [hW_] at hl;match cs,hl with
 | [c0, c1, c2, c3], _ =>
   simp only [cells9,cells3,cells4] at h0 h1 h2 h3;obtain ⟨f,e0,_,_⟩:=DataW.trod_int Tryz.underlying3 h0;obtain ⟨tp,e1,_⟩:=DataW.trod_bool Tryz.underlying4 h1;obtain ⟨t,e2,_,_⟩:=DataW.trod_int Tryz.underlying3 h2;obtain ⟨s,e3,_,hs⟩:=DataW.trod_string Tryz.underlying9 h3;simp at e0 e1 e2 e3;subst e0 e1 e2 e3;exact ⟨⟨f,tp,t,s⟩,rfl,trivial⟩
theorem kQ_ {m:Nat} {v:Value} {x:DataW H × List MemPlace} (h:DataW.trod enc Tryz.prog w base spare held m 22 [v] = some x) :
 ∃ (xs:List bV_) (a:Option Addr) (c:Nat),v = .slice a xs.length c∧(∀ x ∈ xs,x.name.size≤maxLen)∧bG_ w a xs:=by
 rcases open_slice Tryz.underlying22 h with ⟨hcs,_⟩ | ⟨a,len,cap,m',n,D,Pl,hcs,_,hl,_,hm,_,hx⟩
 ·simp at hcs;subst hcs;exact ⟨[],none,0,rfl,by simp,.inl rfl⟩
 ·simp at hcs;subst hcs;rw [hX_] at hx;have hle:len≤m':=by rw [hm];split <;> omega
  have:Inhabited bV_:=⟨⟨⟨#[]⟩,0⟩⟩;obtain ⟨xs,h1,h2,h3⟩:=cp_ (w:=w) (base:=base) (sz:=2) (by omega) (a:=a) (len:=len) (vals:=fun p:bV_=>[.string p.name,.int .i64 p.kind]) (q:=fun p=>p.name.size≤maxLen) (fun _=>rfl) (fun i hi=>by
   obtain ⟨cs,q1,q2⟩:=hx i (by omega);obtain ⟨p,q3,q4⟩:=ma_ q2;exact ⟨cs,q1,p,q3,q4⟩)
  refine ⟨xs,some a,cap,by rw [h1],h2,?_⟩;rcases h3 with h3 | ⟨g,o,rfl,hg,h3⟩
  ·exact .inl h3
  ·exact .inr ⟨g,o,rfl,hg,fun i hi=>⟨by simpa using h3 i hi 0 (by omega),by simpa using h3 i hi 1 (by omega)⟩⟩
theorem jm_ {m:Nat} {v:Value} {x:DataW H × List MemPlace} (h:DataW.trod enc Tryz.prog w base spare held m 23 [v] = some x) :
 ∃ (xs:List ba_) (a:Option Addr) (c:Nat),v = .slice a xs.length c∧(∀ x ∈ xs,x.name.size≤maxLen)∧a6_ w a xs:=by
 rcases open_slice Tryz.underlying23 h with ⟨hcs,_⟩ | ⟨a,len,cap,m',n,D,Pl,hcs,_,hl,_,hm,_,hx⟩
 ·simp at hcs;subst hcs;exact ⟨[],none,0,rfl,by simp,.inl rfl⟩
 ·simp at hcs;subst hcs;rw [gE_] at hx;have hle:len≤m':=by rw [hm];split <;> omega
  have:Inhabited ba_:=⟨⟨⟨#[]⟩,0,0⟩⟩;obtain ⟨xs,h1,h2,h3⟩:=cp_ (w:=w) (base:=base) (sz:=3) (by omega) (a:=a) (len:=len) (vals:=fun p:ba_=>[.string p.name,.int .i64 p.limit,.int .i64 p.dead]) (q:=fun p=>p.name.size≤maxLen) (fun _=>rfl) (fun i hi=>by
   obtain ⟨cs,q1,q2⟩:=hx i (by omega);obtain ⟨p,q3,q4⟩:=kV_ q2;exact ⟨cs,q1,p,q3,q4⟩)
  refine ⟨xs,some a,cap,by rw [h1],h2,?_⟩;rcases h3 with h3 | ⟨g,o,rfl,hg,h3⟩
  ·exact .inl h3
  ·exact .inr ⟨g,o,rfl,hg,fun i hi=>⟨by simpa using h3 i hi 0 (by omega),by simpa using h3 i hi 1 (by omega),by simpa using h3 i hi 2 (by omega)⟩⟩
theorem kb_ {m:Nat} {v:Value} {x:DataW H × List MemPlace} (h:DataW.trod enc Tryz.prog w base spare held m 24 [v] = some x) :
 ∃ (xs:List dA_) (a:Option Addr) (c:Nat),v = .slice a xs.length c∧bF_ w a xs:=by
 rcases open_slice Tryz.underlying24 h with ⟨hcs,_⟩ | ⟨a,len,cap,m',n,D,Pl,hcs,_,hl,_,hm,_,hx⟩
 ·simp at hcs;subst hcs;exact ⟨[],none,0,rfl,.inl rfl⟩
 ·simp at hcs;subst hcs;rw [hW_] at hx;have hle:len≤m':=by rw [hm];split <;> omega
  have:Inhabited dA_:=⟨⟨0,false,0,⟨#[]⟩⟩⟩;obtain ⟨xs,h1,h2,h3⟩:=cp_ (w:=w) (base:=base) (sz:=4) (by omega) (a:=a) (len:=len) (vals:=fun p:dA_=>[.int .i64 p.src,.bool p.toPost,.int .i64 p.dst,.string p.pat]) (q:=fun _=>True) (fun _=>rfl) (fun i hi=>by
   obtain ⟨cs,q1,q2⟩:=hx i (by omega);obtain ⟨p,q3,q4⟩:=lh_ q2;exact ⟨cs,q1,p,q3,q4⟩)
  refine ⟨xs,some a,cap,by rw [h1],?_⟩;rcases h3 with h3 | ⟨g,o,rfl,hg,h3⟩
  ·exact .inl h3
  ·exact .inr ⟨g,o,rfl,hg,fun i hi=>⟨by simpa using h3 i hi 0 (by omega),by simpa using h3 i hi 1 (by omega),by simpa using h3 i hi 2 (by omega),by simpa using h3 i hi 3 (by omega)⟩⟩
theorem l9_ {r:Reach} {b0:Nat} {v:Value} {d:DataW H} {p:List MemPlace} (hv:Value.okWide Tryz.prog w r b0 26 v) (h:DataW.Trod enc Tryz.prog w base spare held 26 v d p) :
 ∃ (P:ad_) (a1 a2 a3:Option Addr) (n1 c1 n2 c2 n3 c3:Nat),v = .agg #[.slice a1 n1 c1,.slice a2 n2 c2,.slice a3 n3 c3]∧ap_ w a1 a2 a3 n1 n2 n3 P:=by
 obtain ⟨v0,v1,v2,y0,y1,y2,n,rfl,_,_,h0,h1,h2⟩:=open_agg3 Tryz.underlying26 (by kernel_rfl) ll_ hv h;obtain ⟨xs,a1,c1,rfl,s1,k1⟩:=kQ_ h0;obtain ⟨ys,a2,c2,rfl,s2,k2⟩:=jm_ h1;obtain ⟨zs,a3,c3,rfl,k3⟩:=kb_ h2;exact ⟨⟨xs,ys,zs⟩,a1,a2,a3,_,c1,_,c2,_,c3,rfl,⟨rfl,rfl,rfl,⟨fun x hx=>by obtain ⟨p,hp,rfl⟩:=List.mem_map.1 hx;exact s1 p hp,fun x hx=>by obtain ⟨p,hp,rfl⟩:=List.mem_map.1 hx;exact s2 p hp⟩,k1,k2,k3⟩⟩
end Go.Proofs.YtlbnkpicnokgoaaGreat
namespace Go.Proofs.YtlbnkpicnokgoaaGreat
open Go.RowKit Go.Deep Go.Joins Go.ChangeShapes Go.WideShapes
set_option linter.unusedVariables false
set_option maxRecDepth 100000
theorem fS_:Tryz.prog.cellsOf 48 = 5:=by kernel_rfl
variable {H:Type} {enc:TypeId × Value→H} {w:World} {base:Nat} {spare:Nat→Bool} {held:Bool}
theorem fw_ {P:Program} {t:TypeId} {f0 f1 f2 f3 f4:Field} {fuel:Nat} {cs:List Value} {x:DataW H × List MemPlace} (ht:P.underlying t = some (.struct #[f0,f1,f2,f3,f4])) (h:DataW.trod enc P w base spare held fuel t cs = some x) :
 ∃ y0 y1 y2 y3 y4 n, cs.length = P.cellsOf t ∧ DataW.trod enc P w base spare held n f0.type ((cs.drop f0.offset).take (P.cellsOf f0.type)) = some y0 ∧ DataW.trod enc P w base spare held n f1.type ((cs.drop f1.offset).take (P.cellsOf f1.type)) = some y1 ∧
   DataW.trod enc P w base spare held n f2.type ((cs.drop f2.offset).take (P.cellsOf f2.type)) = some y2∧DataW.trod enc P w base spare held n f3.type ((cs.drop f3.offset).take (P.cellsOf f3.type)) = some y3∧DataW.trod enc P w base spare held n f4.type ((cs.drop f4.offset).take (P.cellsOf f4.type)) = some y4:=by
 obtain ⟨xs,n,_,rfl,hl,hlen,hf⟩:=DataW.trod_struct ht h;match xs,hlen with
 | [y0,y1,y2,y3,y4],_=>exact ⟨y0,y1,y2,y3,y4,n,hl,by simpa using hf 0 f0 rfl,by simpa using hf 1 f1 rfl,by simpa using hf 2 f2 rfl,by simpa using hf 3 f3 rfl,by simpa using hf 4 f4 rfl⟩
theorem ie_ {m:Nat} {cs:List Value} {x:DataW H × List MemPlace} (h:DataW.trod enc Tryz.prog w base spare held m 48 cs = some x):∃ p:ae_,cs = [.int .i64 p.seq,.string p.key,.string p.body,.bool p.again,.int .i64 p.deaths]∧True:=by
 obtain ⟨y0,y1,y2,y3,y4,n,hl,h0,h1,h2,h3,h4⟩:=fw_ Tryz.underlying48 h;rw [fS_] at hl;match cs,hl with
 | [c0, c1, c2, c3, c4], _ =>
   simp only [cells9,cells3,cells4] at h0 h1 h2 h3 h4;obtain ⟨q,e0,_,_⟩:=DataW.trod_int Tryz.underlying3 h0;obtain ⟨k,e1,_,_⟩:=DataW.trod_string Tryz.underlying9 h1;obtain ⟨b,e2,_,_⟩:=DataW.trod_string Tryz.underlying9 h2;obtain ⟨ag,e3,_⟩:=DataW.trod_bool Tryz.underlying4 h3;obtain ⟨d,e4,_,_⟩:=DataW.trod_int Tryz.underlying3 h4;simp at e0 e1 e2 e3 e4;subst e0 e1 e2 e3 e4;exact ⟨⟨q,k,b,ag,d⟩,rfl,trivial⟩
theorem kr_ {m:Nat} {v:Value} {x:DataW H × List MemPlace} (h:DataW.trod enc Tryz.prog w base spare held m 46 [v] = some x) :
 ∃ (xs:List ae_) (a:Option Addr) (c:Nat),v = .slice a xs.length c∧xs.length≤c∧c≤maxLen∧(a = none→c = 0)∧ai_ w a xs:=by
 rcases open_slice Tryz.underlying46 h with ⟨hcs,_⟩ | ⟨a,len,cap,m',n,D,Pl,hcs,_,hl,hcm,hm,_,hx⟩
 ·simp at hcs;subst hcs;exact ⟨[],none,0,rfl,Nat.le_refl _,Nat.zero_le _,fun _=>rfl,.inl rfl⟩
 ·simp at hcs;subst hcs;rw [fS_] at hx;have hle:len≤m':=by rw [hm];split <;> omega
  have:Inhabited ae_:=⟨⟨0,⟨#[]⟩,⟨#[]⟩,false,0⟩⟩;obtain ⟨xs,h1,h2,h3⟩:=cp_ (w:=w) (base:=base) (sz:=5) (by omega) (a:=a) (len:=len) (vals:=fun p:ae_=>[.int .i64 p.seq,.string p.key,.string p.body,.bool p.again,.int .i64 p.deaths]) (q:=fun _=>True) (fun _=>rfl) (fun i hi=>by
   obtain ⟨cs,q1,q2⟩:=hx i (by omega);obtain ⟨p,q3,q4⟩:=ie_ q2;exact ⟨cs,q1,p,q3,q4⟩)
  refine ⟨xs,some a,cap,by rw [h1],by omega,hcm,(fun e=>by cases e),?_⟩;rcases h3 with h3 | ⟨g,o,rfl,hg,h3⟩
  ·exact .inl h3
  ·exact .inr ⟨g,o,rfl,hg,fun i hi=>⟨by simpa using h3 i hi 0 (by omega),by simpa using h3 i hi 1 (by omega),by simpa using h3 i hi 2 (by omega),by simpa using h3 i hi 3 (by omega),by simpa using h3 i hi 4 (by omega)⟩⟩
end Go.Proofs.YtlbnkpicnokgoaaGreat
namespace Go.Proofs.YtlbnkpicnokgoaaGreat
open Go.RowKit Go.Deep Go.Joins Go.ChangeShapes Go.WideShapes
set_option linter.unusedVariables false
set_option maxRecDepth 100000
theorem lk_:Tryz.prog.cellsOf 46 = 1:=by kernel_rfl
theorem jE_:Tryz.prog.cellsOf 67 = 8:=by kernel_rfl
theorem gF_:Tryz.prog.cellsOf 69 = 2:=by kernel_rfl
theorem kd_:Tryz.prog.cellsOf 31 = 8:=by kernel_rfl
theorem kc_:Tryz.prog.cellsOf 27 = 1:=by kernel_rfl
theorem fT_:Tryz.prog.cellsOf 28 = 1:=by kernel_rfl
theorem ep_:Tryz.prog.cellsOf 29 = 1:=by kernel_rfl
theorem mW_:Tryz.prog.bytesOf 67 = 80:=by kernel_rfl
variable {H:Type} {enc:TypeId × Value→H} {w:World} {base:Nat} {spare:Nat→Bool} {held:Bool}
theorem d3_ {P:Program} {t:TypeId} {f0 f1 f2 f3 f4 f5 f6 f7:Field} {fuel:Nat} {cs:List Value} {x:DataW H × List MemPlace} (ht:P.underlying t = some (.struct #[f0,f1,f2,f3,f4,f5,f6,f7])) (h:DataW.trod enc P w base spare held fuel t cs = some x) :
 ∃ y0 y1 y2 y3 y4 y5 y6 y7 n, x.1 = .agg [y0.1, y1.1, y2.1, y3.1, y4.1, y5.1, y6.1, y7.1] ∧ cs.length = P.cellsOf t ∧ DataW.trod enc P w base spare held n f0.type ((cs.drop f0.offset).take (P.cellsOf f0.type)) = some y0 ∧ DataW.trod enc P w base spare held n f1.type ((cs.drop f1.offset).take (P.cellsOf f1.type)) = some y1 ∧
   DataW.trod enc P w base spare held n f2.type ((cs.drop f2.offset).take (P.cellsOf f2.type)) = some y2∧DataW.trod enc P w base spare held n f3.type ((cs.drop f3.offset).take (P.cellsOf f3.type)) = some y3∧DataW.trod enc P w base spare held n f4.type ((cs.drop f4.offset).take (P.cellsOf f4.type)) = some y4 ∧
   DataW.trod enc P w base spare held n f5.type ((cs.drop f5.offset).take (P.cellsOf f5.type)) = some y5∧DataW.trod enc P w base spare held n f6.type ((cs.drop f6.offset).take (P.cellsOf f6.type)) = some y6∧DataW.trod enc P w base spare held n f7.type ((cs.drop f7.offset).take (P.cellsOf f7.type)) = some y7:=by
 obtain ⟨xs,n,_,rfl,hl,hlen,hf⟩:=DataW.trod_struct ht h;match xs,hlen with
 | [y0,y1,y2,y3,y4,y5,y6,y7],_=>exact ⟨y0,y1,y2,y3,y4,y5,y6,y7,n,rfl,hl,by simpa using hf 0 f0 rfl,by simpa using hf 1 f1 rfl,by simpa using hf 2 f2 rfl,by simpa using hf 3 f3 rfl,by simpa using hf 4 f4 rfl,by simpa using hf 5 f5 rfl,by simpa using hf 6 f6 rfl,by simpa using hf 7 f7 rfl⟩
theorem k7_ {m:Nat} {cs:List Value} {x:DataW H × List MemPlace} (h:DataW.trod enc Tryz.prog w base spare held m 69 cs = some x):∃ p:aj_,cs = [.int .i64 p.queue,.int .i64 p.most]∧True:=by
 obtain ⟨y0,y1,n,_,hl,h0,h1⟩:=trod_struct2 Tryz.underlying69 h;rw [gF_] at hl;match cs,hl with
 | [c0, c1], _ =>
   simp only [cells3] at h0 h1;obtain ⟨q,e0,_,_⟩:=DataW.trod_int Tryz.underlying3 h0;obtain ⟨k,e1,_,_⟩:=DataW.trod_int Tryz.underlying3 h1;simp at e0 e1;subst e0 e1;exact ⟨⟨q,k⟩,rfl,trivial⟩
theorem nk_ {m:Nat} {cs:List Value} {x:DataW H × List MemPlace} (h:DataW.trod enc Tryz.prog w base spare held m 67 cs = some x):∃ p:OutD,cs = [.int .i64 p.tag,.int .i64 p.taker,.int .i64 p.queue,.int .i64 p.item.seq,.string p.item.key,.string p.item.body,.bool p.item.again,.int .i64 p.item.deaths]∧True:=by
 obtain ⟨y0,y1,y2,y3,n,_,hl,h0,h1,h2,h3⟩:=trod_struct4 Tryz.underlying67 h;rw [jE_] at hl;match cs,hl with
 | [c0, c1, c2, c3, c4, c5, c6, c7], _ =>
   simp only [cells3,fS_] at h0 h1 h2 h3;obtain ⟨tg,e0,_,_⟩:=DataW.trod_int Tryz.underlying3 h0;obtain ⟨tk,e1,_,_⟩:=DataW.trod_int Tryz.underlying3 h1;obtain ⟨qu,e2,_,_⟩:=DataW.trod_int Tryz.underlying3 h2;obtain ⟨it,e3,_⟩:=ie_ h3;simp at e0 e1 e2 e3;obtain ⟨rfl,rfl,rfl,rfl,rfl⟩:=e3;subst e0 e1 e2;exact ⟨⟨tg,tk,qu,it⟩,rfl,trivial⟩
theorem jt_ {m:Nat} {v:Value} {x:DataW H × List MemPlace} (h:DataW.trod enc Tryz.prog w base spare held m 29 [v] = some x) :
 ∃ (xs:List aj_) (a:Option Addr) (c:Nat),v = .slice a xs.length c∧xs.length≤maxLen∧cv_ w a xs:=by
 rcases open_slice Tryz.underlying29 h with ⟨hcs,_⟩ | ⟨a,len,cap,m',n,D,Pl,hcs,_,hl,hcm,hm,_,hx⟩
 ·simp at hcs;subst hcs;exact ⟨[],none,0,rfl,Nat.zero_le _,.inl rfl⟩
 ·simp at hcs;subst hcs;rw [gF_] at hx;have hle:len≤m':=by rw [hm];split <;> omega
  have:Inhabited aj_:=⟨⟨0,0⟩⟩;obtain ⟨xs,h1,h2,h3⟩:=cp_ (w:=w) (base:=base) (sz:=2) (by omega) (a:=a) (len:=len) (vals:=fun p:aj_=>[.int .i64 p.queue,.int .i64 p.most]) (q:=fun _=>True) (fun _=>rfl) (fun i hi=>by
   obtain ⟨cs,q1,q2⟩:=hx i (by omega);obtain ⟨p,q3,q4⟩:=k7_ q2;exact ⟨cs,q1,p,q3,q4⟩)
  refine ⟨xs,some a,cap,by rw [h1],by omega,?_⟩;rcases h3 with h3 | ⟨g,o,rfl,hg,h3⟩
  ·exact .inl h3
  ·exact .inr ⟨g,o,rfl,hg,fun i hi=>⟨by simpa using h3 i hi 0 (by omega),by simpa using h3 i hi 1 (by omega)⟩⟩
theorem l3_ {m:Nat} {v:Value} {x:DataW H × List MemPlace} (h:DataW.trod enc Tryz.prog w base spare held m 28 [v] = some x) :
 ∃ (xs:List OutD) (a:Option Addr) (c:Nat),v = .slice a xs.length c∧eg_ w a xs∧(xs = []∨∃ n ∈ x.1.weights Tryz.prog 28,xs.length * 80≤n):=by
 rcases open_slice Tryz.underlying28 h with ⟨hcs,_⟩ | ⟨a,len,cap,m',n,D,Pl,hcs,_,hl,hcm,hm,hxe,hx⟩
 ·simp at hcs;subst hcs;exact ⟨[],none,0,rfl,.inl rfl,.inl rfl⟩
 ·simp at hcs;subst hcs;rw [jE_] at hx;have hle:len≤m':=by rw [hm];split <;> omega
  have:Inhabited OutD:=⟨⟨0,0,0,⟨0,⟨#[]⟩,⟨#[]⟩,false,0⟩⟩⟩;obtain ⟨xs,h1,h2,h3⟩:=cp_ (w:=w) (base:=base) (sz:=8) (by omega) (a:=a) (len:=len) (vals:=fun p:OutD=>[.int .i64 p.tag,.int .i64 p.taker,.int .i64 p.queue,.int .i64 p.item.seq,.string p.item.key,.string p.item.body,.bool p.item.again,.int .i64 p.item.deaths]) (q:=fun _=>True) (fun _=>rfl) (fun i hi=>by
   obtain ⟨cs,q1,q2⟩:=hx i (by omega);obtain ⟨p,q3,q4⟩:=nk_ q2;exact ⟨cs,q1,p,q3,q4⟩)
  refine ⟨xs,some a,cap,by rw [h1],?_,.inr ⟨(len+(List.range (m' - len)).length) * 80,?_,by rw [h1];exact Nat.mul_le_mul_right _ (Nat.le_add_right _ _)⟩⟩
  ·rcases h3 with h3 | ⟨g,o,rfl,hg,h3⟩
   ·exact .inl h3
   ·exact .inr ⟨g,o,rfl,hg,fun i hi=>⟨by simpa using h3 i hi 0 (by omega),by simpa using h3 i hi 1 (by omega),by simpa using h3 i hi 2 (by omega),by simpa using h3 i hi 3 (by omega),by simpa [Nat.add_assoc] using h3 i hi 4 (by omega),by simpa [Nat.add_assoc] using h3 i hi 5 (by omega),by simpa [Nat.add_assoc] using h3 i hi 6 (by omega),by simpa [Nat.add_assoc] using h3 i hi 7 (by omega)⟩⟩
  ·rw [hxe];simp only [DataW.weights,Tryz.underlying28,mW_,List.length_map,List.length_range];exact List.mem_cons_self
theorem kC_ {m:Nat} {v:Value} {x:DataW H × List MemPlace} (h:DataW.trod enc Tryz.prog w base spare held m 27 [v] = some x) :
 ∃ (xss:List (List ae_)) (a:Option Addr) (c:Nat),v = .slice a xss.length c∧xss.length≤maxLen∧b6_ w a xss:=by
 rcases open_slice Tryz.underlying27 h with ⟨hcs,_⟩ | ⟨a,len,cap,m',n,D,Pl,hcs,_,hl,hcm,hm,_,hx⟩
 ·simp at hcs;subst hcs;exact ⟨[],none,0,rfl,Nat.zero_le _,.inl rfl⟩
 ·simp at hcs;subst hcs;rw [lk_] at hx;have hle:len≤m':=by rw [hm];split <;> omega
  have:Inhabited (List ae_ × Option Addr × Nat):=⟨([],none,0)⟩;obtain ⟨ts,h1,h2,h3⟩:=cp_ (w:=w) (base:=base) (sz:=1) (by omega) (a:=a) (len:=len) (vals:=fun p:List ae_ × Option Addr × Nat=>[.slice p.2.1 p.1.length p.2.2]) (q:=fun p=>p.1.length≤p.2.2∧p.2.2≤maxLen∧(p.2.1 = none→p.2.2 = 0)∧ai_ w p.2.1 p.1) (fun _=>rfl) (fun i hi=>by
   obtain ⟨cs,q1,q2⟩:=hx i (by omega);have hcl:cs.length = 1:=(World.cells?_some q1).2.1;match cs,hcl with
   | [c0], _ =>
     obtain ⟨xs,b,c,rfl,r1,r2,r3,r4⟩:=kr_ q2;exact ⟨_,q1,(xs,b,c),rfl,r1,r2,r3,r4⟩)
  refine ⟨ts.map Prod.fst,some a,cap,by rw [List.length_map,h1],by rw [List.length_map];omega,?_⟩;rcases h3 with h3 | ⟨g,o,rfl,hg,h3⟩
  ·exact .inl (by rw [h3];rfl)
  ·refine .inr ⟨g,o,rfl,hg,fun i hi=>?_⟩;have hi':i < ts.length:=by simpa using hi
   obtain ⟨r1,r2,r3,r4⟩:=h2 _ (List.getElem_mem hi');refine ⟨ts[i].2.1,ts[i].2.2,?_,?_,r2,r3,?_⟩
   ·have:=h3 i hi' 0 (by omega);simpa using this
   ·simpa using r1
   ·simpa using r4
theorem k4_ {r:Reach} {b0:Nat} {v:Value} {d:DataW H} {p:List MemPlace} (hv:Value.okWide Tryz.prog w r b0 31 v) (h:DataW.Trod enc Tryz.prog w base spare held 31 v d p) :
 ∃ (s:ab_) (b1 b2 b3:Option Addr) (m1 d1 m2 d2 m3 d3:Nat),v = .agg #[.slice b1 m1 d1,.slice b2 m2 d2,.slice b3 m3 d3,.int .i64 s.nextSeq,.int .i64 s.nextTag,.int .i64 s.came,.int .i64 s.acked,.int .i64 s.dropped]∧((∀ n ∈ d.weights Tryz.prog 31,n≤reachBytes)→an_ w b1 b2 b3 m1 m2 m3 s):=by
 obtain ⟨cs,rfl,hsz⟩:=okWide_struct Tryz.underlying31 hv;obtain ⟨m,hm⟩:=h;obtain ⟨y0,y1,y2,y3,y4,y5,y6,y7,n,hd,hl,h0,h1,h2,h3,h4,h5,h6,h7⟩:=d3_ Tryz.underlying31 hm;rw [kd_] at hl;have hcl:cs.toList.length = 8:=by simpa [Value.cells] using hl
 obtain ⟨c0,c1,c2,c3,c4,c5,c6,c7,hc⟩:∃ c0 c1 c2 c3 c4 c5 c6 c7,cs.toList = [c0,c1,c2,c3,c4,c5,c6,c7]:=by
  match cs.toList,hcl with
  | [c0,c1,c2,c3,c4,c5,c6,c7],_=>exact ⟨c0,c1,c2,c3,c4,c5,c6,c7,rfl⟩
 have hcs:cs = #[c0,c1,c2,c3,c4,c5,c6,c7]:=by rw [← Array.toArray_toList (xs:=cs),hc]
 subst hcs;simp only [Value.cells,cells3,kc_,fT_,ep_] at h0 h1 h2 h3 h4 h5 h6 h7;obtain ⟨xss,b1,e1,k1,x1,q1⟩:=kC_ h0;obtain ⟨os,b2,e2,k2,q2,wz⟩:=l3_ h1;obtain ⟨ts,b3,e3,k3,x3,q3⟩:=jt_ h2;obtain ⟨z3,g3,_,_⟩:=DataW.trod_int Tryz.underlying3 h3;obtain ⟨z4,g4,_,_⟩:=DataW.trod_int Tryz.underlying3 h4;obtain ⟨z5,g5,_,_⟩:=DataW.trod_int Tryz.underlying3 h5;obtain ⟨z6,g6,_,_⟩:=DataW.trod_int Tryz.underlying3 h6;obtain ⟨z7,g7,_,_⟩:=DataW.trod_int Tryz.underlying3 h7;simp at g3 g4 g5 g6 g7;subst k1 k2 k3 g3 g4 g5 g6 g7;refine ⟨⟨xss,os,ts,z3,z4,z5,z6,z7⟩,b1,b2,b3,_,e1,_,e2,_,e3,rfl,fun hall=>⟨rfl,rfl,rfl,x1,?_,x3,q1,q2,q3⟩⟩;rcases wz with rfl | ⟨n,hn,hle⟩
 ·simp
 ·have hd':d = .agg [y0.1,y1.1,y2.1,y3.1,y4.1,y5.1,y6.1,y7.1]:=hd;have:=hall n (by
   rw [hd'];simp only [DataW.weights,Tryz.underlying31];exact DataW.weights_mem_each (j:=1) rfl rfl n hn)
  exact Nat.le_trans hle (by simpa [reachBytes] using this)
end Go.Proofs.YtlbnkpicnokgoaaGreat
namespace Go.Proofs.YtlbnkpicnokgoaaGreat
open Go.RowKit Go.Deep Go.Joins Go.ChangeShapes Go.WideShapes
set_option linter.unusedVariables false
set_option maxRecDepth 100000
variable {H:Type} {enc:TypeId × Value→H} {w:World} {base:Nat} {spare:Nat→Bool} {held:Bool}
theorem k3_ {b1 b2 b3:Option Addr} {m1 d1 m2 d2 m3 d3:Nat} {s:ab_} {d:DataW H} {p:List MemPlace} (h:DataW.Trod enc Tryz.prog w base spare held 31 (.agg #[.slice b1 m1 d1,.slice b2 m2 d2,.slice b3 m3 d3,.int .i64 s.nextSeq,.int .i64 s.nextTag,.int .i64 s.came,.int .i64 s.acked,.int .i64 s.dropped]) d p):(b2 = none→d2 = 0)∧(b3 = none→d3 = 0):=by
 obtain ⟨m,hm⟩:=h;obtain ⟨y0,y1,y2,y3,y4,y5,y6,y7,n,hd,hl,h0,h1,h2,h3,h4,h5,h6,h7⟩:=d3_ Tryz.underlying31 hm;simp only [Value.cells,fT_,ep_] at h1 h2;refine ⟨fun e=>?_,fun e=>?_⟩
 ·rcases open_slice Tryz.underlying28 h1 with ⟨hcs,_⟩ | ⟨a,len,cap,m',n,D,Pl,hcs,_⟩
  ·simp at hcs;exact hcs.2.2
  ·simp at hcs;rw [e] at hcs;cases hcs.1
 ·rcases open_slice Tryz.underlying29 h2 with ⟨hcs,_⟩ | ⟨a,len,cap,m',n,D,Pl,hcs,_⟩
  ·simp at hcs;exact hcs.2.2
  ·simp at hcs;rw [e] at hcs;cases hcs.1
end Go.Proofs.YtlbnkpicnokgoaaGreat
namespace Go.Proofs.YtlbnkpicnokgoaaGreat
open Go.RowKit Go.Deep Go.Joins Go.ChangeShapes Go.WideShapes
set_option linter.unusedVariables false
set_option maxRecDepth 100000
variable {H:Type} {enc:TypeId × Value→H} {w:World} {base:Nat} {spare:Nat→Bool} {held:Bool}
theorem k2_ {b1 b2 b3:Option Addr} {m1 d1 m2 d2 m3 d3:Nat} {s:ab_} {d:DataW H} {p:List MemPlace} (h:DataW.Trod enc Tryz.prog w base spare held 31 (.agg #[.slice b1 m1 d1,.slice b2 m2 d2,.slice b3 m3 d3,.int .i64 s.nextSeq,.int .i64 s.nextTag,.int .i64 s.came,.int .i64 s.acked,.int .i64 s.dropped]) d p):m2≤d2∧d2≤maxLen:=by
 obtain ⟨m,hm⟩:=h;obtain ⟨y0,y1,y2,y3,y4,y5,y6,y7,n,hd,hl,h0,h1,h2,h3,h4,h5,h6,h7⟩:=d3_ Tryz.underlying31 hm;simp only [Value.cells,fT_,ep_] at h1 h2;rcases open_slice Tryz.underlying28 h1 with ⟨hcs,_⟩ | ⟨a,len,cap,m',n,D,Pl,hcs,_,hle,hcm,_⟩
 ·simp at hcs;rw [hcs.2.1,hcs.2.2];exact ⟨Nat.le_refl _,by unfold maxLen;omega⟩
 ·simp at hcs;rw [hcs.2.1,hcs.2.2];exact ⟨hle,hcm⟩
end Go.Proofs.YtlbnkpicnokgoaaGreat
namespace Go.Proofs.YtlbnkpicnokgoaaGreat
open Go.RowKit Go.Deep Go.Joins Go.ChangeShapes Go.WideShapes
set_option linter.unusedVariables false
set_option maxRecDepth 100000
theorem mX_:Tryz.prog.cellsOf 53 = 5:=by kernel_rfl
variable {H:Type} {enc:TypeId × Value→H} {w:World} {base:Nat} {spare:Nat→Bool} {held:Bool}
theorem gs_ {m:Nat} {cs:List Value} {x:DataW H × List MemPlace} (h:DataW.trod enc Tryz.prog w base spare held m 53 cs = some x):∃ p:ActD,cs = [.int .i64 p.kind,.int .i64 p.a,.int .i64 p.b,.string p.key,.string p.body]:=by
 obtain ⟨y0,y1,y2,y3,y4,n,hl,h0,h1,h2,h3,h4⟩:=fw_ Tryz.underlying53 h;rw [mX_] at hl;match cs,hl with
 | [c0, c1, c2, c3, c4], _ =>
   simp only [cells9,cells3] at h0 h1 h2 h3 h4;obtain ⟨q,e0,_,_⟩:=DataW.trod_int Tryz.underlying3 h0;obtain ⟨a,e1,_,_⟩:=DataW.trod_int Tryz.underlying3 h1;obtain ⟨b,e2,_,_⟩:=DataW.trod_int Tryz.underlying3 h2;obtain ⟨k,e3,_,_⟩:=DataW.trod_string Tryz.underlying9 h3;obtain ⟨d,e4,_,_⟩:=DataW.trod_string Tryz.underlying9 h4;simp at e0 e1 e2 e3 e4;subst e0 e1 e2 e3 e4;exact ⟨⟨q,a,b,k,d⟩,rfl⟩
theorem mS_ {r:Reach} {b0:Nat} {v:Value} {d:DataW H} {p:List MemPlace} (hv:Value.okWide Tryz.prog w r b0 53 v) (h:DataW.Trod enc Tryz.prog w base spare held 53 v d p) :
 ∃ x:ActD,v = x.val:=by
 obtain ⟨cs,rfl,hsz⟩:=okWide_struct Tryz.underlying53 hv;obtain ⟨m,hm⟩:=h;obtain ⟨x,hx⟩:=gs_ hm;refine ⟨x,?_⟩;have:cs.toList = [.int .i64 x.kind,.int .i64 x.a,.int .i64 x.b,.string x.key,.string x.body]:=by simpa [Value.cells] using hx
 unfold ActD.val;rw [← this]
end Go.Proofs.YtlbnkpicnokgoaaGreat
