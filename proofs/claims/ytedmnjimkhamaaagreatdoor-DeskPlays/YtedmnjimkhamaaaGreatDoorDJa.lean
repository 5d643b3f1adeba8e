import Derived.Test.YtedmnjimkhamaaaGreatDoorMhx
namespace Go.Proofs.YtedmnjimkhamaaaGreatDoor
set_option linter.unusedVariables false
set_option maxRecDepth 100000
set_option maxHeartbeats 4000000
open Go.RowKit Go.Maps
def wV(cur:Array Value):Nat->List Value->Array Value
 |_,[]=>cur
 |o,v::r=>wV (cur.setIfInBounds o v) (o+1) r
theorem JZ:∀(vs:List Value)(o:Nat)(cur:Array Value),(wV cur o vs).size=cur.size
 |[],_,_=>rfl
 |v::r,o,cur=>by unfold wV;rw[JZ r];simp
theorem LE:∀(vs:List Value)(o:Nat)(cur:Array Value)(j:Nat),(wV cur o vs)[j]?=if o<=j/\j<o+vs.length/\j<cur.size then vs[j-o]? else cur[j]?
 |[],o,cur,j=>by rw[kA (by simp;omega)];rfl
 |v::r,o,cur,j=>by
   unfold wV;rw[LE r,Array.size_setIfInBounds,Array.getElem?_setIfInBounds];by_cases h:o+1<=j/\j<o+1+r.length/\j<cur.size;·rw[qA h,qA (by simp;omega)];obtain⟨d,hd⟩:∃d,j-o=d+1:=⟨j-o-1,by omega⟩;rw[show j-(o+1)=d by omega,hd];simp
   ·rw[kA h];by_cases e:o=j
    ·subst e;by_cases hs:o<cur.size;·simp[hs]
     ·simp[hs]
    ·rw[kA e,kA (by simp;omega)]
theorem vJ.refl(g:Nat)(W:World):vJ g W W:=⟨rfl,rfl,rfl,eA _,λ_ _ _=>rfl⟩
theorem GX{g:Nat}{T:TypeId}:∀(vs:List Value)(o:Nat)(W:World)(cur:Array Value),W.heap[g]?=some (.cells cur T (0,0))->(W.setCells g o vs).heap[g]?=some (.cells (wV cur o vs) T (0,0))/\vJ g W (W.setCells g o vs)
 |[],o,W,cur,h=>⟨h,vJ.refl g W⟩
 |v::r,o,W,cur,h=>by
   obtain⟨h1,h2⟩:=GX r (o+1) (W.setCell ⟨g,o,none⟩ v) _ (bG h (j:=o) v);exact⟨h1,(uF W g o v).trans h2⟩
theorem pp_{α:Type}{l xs:List α}{k:Nat}(h:l.take k=xs){j:Nat}(hj:j<k):l[j]?=xs[j]?:=by
 rw[<-h,List.getElem?_take,qA hj]
theorem t_{W:World}{n g m c i:Nat}{xs:List eF}(h:W.ownsRow n 88 8 (.slice (some ⟨g,0,none⟩) m c) m (dJ xs))(hl:xs.length=m)(hi:i<m){zs:List Value}(hz:zs.length=8){W':World}(hW':W'=(W.setCells g (i*8) (dJ (xs.drop (i+1)))).setCells g ((m-1)*8) zs):
 W'.ownsRow n 88 8 (.slice (some ⟨g,0,none⟩) (m-1) c) (m-1) (dJ (xs.eraseIdx i))/\vJ g W W'/\n<=g:=by
 rcases h.2 with⟨e,_⟩|⟨g2,cap,cur,e,hb,hg,h1,h2,h3,h4⟩;·cases e
 cases e;obtain⟨k1,k2⟩:=GX (dJ (xs.drop (i+1))) (i*8) W cur hg;obtain⟨k3,k4⟩:=GX zs ((m-1)*8) _ _ k1;rw[<-hW']at k3 k4;have hnl:(dJ (xs.drop (i+1))).length=(m-(i+1))*8:=by rw[zU,rF,hl]
 have htl:(dJ (xs.take i)).length=i*8:=by rw[zU,iD,hl,nK (by omega)]
 have he:dJ (xs.eraseIdx i)=dJ (xs.take i)++dJ (xs.drop (i+1)):=by rw[jL,rX]
 have hx:dJ xs=dJ (xs.take i)++dJ (xs.drop i):=by rw[<-rX,gF]
 refine⟨⟨by rw[zU,List.length_eraseIdx,hl,qA hi],.inr ⟨g,c,_,rfl,hb,k3,by omega,h2,by rw[JZ,JZ];exact h3,?_⟩⟩,k2.trans k4,hb⟩;apply List.ext_getElem?;intro j;rw[List.getElem?_take];by_cases hj:j<(m-1)*8
 ·rw[qA hj,Array.getElem?_toList,LE,kA (by omega),LE,he];have hcs:m*8<=cur.size:=by rw[h3];omega
  by_cases hj2:i*8<=j;·rw[qA (by rw[hnl];omega),uE (by omega),htl]
  ·rw[kA (by omega),wE (by omega),<-Array.getElem?_toList,pp_ h4 (by omega),hx,wE (by omega)]
 ·rw[kA hj,tF (by rw[zU,List.length_eraseIdx,hl,qA hi];omega)]
theorem XN(W:World)(t e ty:TypeId)(z:Value)(zs:List Value)(ht:Tryz.prog.underlying t=some (.slice e))(hv:∀w,(zeroValue e).run Tryz.prog w=.ok z w)(hz:z.cells=zs.toArray)(h0:0<zs.length)(h1:∀v∈zs,v.oneCell'=true)(b o c:Nat)
 (hc:∀j,j<zs.length->(W.cell? ⟨b,o+j,none⟩).isSome=true)(hf:∀j,j<zs.length->W.frozen? ⟨b,o+j,none⟩=false):
 (Builtin.clear_ #[t] ty #[.slice (some ⟨b,o,none⟩) 1 c]).run Tryz.prog W=.ok (.tuple #[]) (W.setCells b o zs):=by
 have hzc:(Builtin.zeroCells z.cells 1).toList=zs:=by
  rw[hz];simp only[Builtin.zeroCells];apply nG;·simp
  ·intro i h1 h2;have h3:i<zs.length:=h2;simp[Nat.mod_eq_of_lt h3,tA h3]
 have hst:=run_storeCells_cells (P:=Tryz.prog) b o zs 0 W (by simpa using hc) (by simpa using hf) h1;simp only[Nat.add_zero]at hst;simp[Builtin.clear_,run_underlying ht,hv,hzc,hst]
theorem U0(w:World):(zeroValue 88).run Tryz.prog w=.ok (.agg #[.int .i64 0,.int .i64 0,.int .i64 0,.int .i64 0,.string ⟨#[]⟩,.string ⟨#[]⟩,.bool false,.int .i64 0]) w:=by kernel_rfl
def qY:List Value:=[.int .i64 0,.int .i64 0,.int .i64 0,.int .i64 0,.string ⟨#[]⟩,.string ⟨#[]⟩,.bool false,.int .i64 0]
theorem s_(xs:List eF)(n g m c i j:Nat)(w:World)(hr:w.ownsRow n 88 8 (.slice (some ⟨g,0,none⟩) m c) m (dJ xs))(hl:xs.length=m)(hi:i<m)(hj:j=i+1)(hm:m<=100000000):
 Calls Tryz.prog 142 #[.slice (some ⟨g,0,none⟩) m c,.int .i64 i,.int .i64 j] w λe w'=>e=.returned (.slice (some ⟨g,0,none⟩) (m-1) c)/\w'.ownsRow n 88 8 (.slice (some ⟨g,0,none⟩) (m-1) c) (m-1) (dJ (xs.eraseIdx i))/\vJ g w w':=by
 obtain⟨news,hnews⟩:∃news,news=dJ (xs.drop j):=⟨_,rfl⟩;have hlen:news.length=(m-j)*8:=by rw[hnews,zU,rF,hl]
 obtain⟨hmc,hcm,-⟩:=rV hr;have hdr:w.drew.ownsRow n 88 8 (.slice (some ⟨g,0,none⟩) m c) m (dJ xs):=uI hr (dA _ _).drew;have hget:∀t u,news[t]?=some u->w.drew.cell? ⟨g,j*8+t,none⟩=some u:=by
  intro t u hu;have ht:t<(m-j)*8:=by have:=(cH.1 hu).1;rwa[hlen]at this
  rw[hdr.cellAt _ (by omega)];have hx:dJ xs=dJ (xs.take j)++dJ (xs.drop j):=by rw[<-rX,gF]
  have htl:(dJ (xs.take j)).length=j*8:=by rw[zU,iD,hl,nK (by omega)]
  rw[hx,uE (by omega),htl,uP,<-hnews];exact hu
 obtain⟨A,hA,hsrc⟩:∃A:Addr,(if c=j then some (⟨g,0,none⟩:Addr)else some ⟨g,j*8,none⟩)=some A/\Hid (∀t u,news[t]?=some u->w.drew.cell? (A.add t)=some u):=by
  by_cases h:c=j
  ·refine⟨⟨g,0,none⟩,by simp[h],λt u hu=>?_⟩;have h0:news.length=0:=by rw[hlen];omega
   rw[kC.1 h0]at hu;simp at hu
  ·refine⟨⟨g,j*8,none⟩,by simp[h],λt u hu=>?_⟩;rw[Addr.add_lit];exact hget t u hu
 have s1:Hid (news.length=(m-j)*8):=hlen;have s2:Hid (∀u∈news,u.oneCell'=true):=by rw[hnews];exact tY _
 have hsome:∀t,t<m*8->(w.drew.cell? ⟨g,t,none⟩).isSome=true:=by
  intro t ht;rw[hdr.cellAt t ht,tA (by rw[zU,hl];exact ht)];rfl
 have s3:Hid (∀t,t<news.length->(w.drew.cell? ⟨g,0+i*8+t,none⟩).isSome=true/\w.drew.frozen? ⟨g,0+i*8+t,none⟩=false):=by
  intro t ht;rw[hlen]at ht;exact⟨hsome _ (by omega),hdr.frozenAt _⟩
 obtain⟨W1,hW1⟩:∃W1,W1=w.drew.setCells g (0+i*8) news:=⟨_,rfl⟩;have hL:i+(m-j)=m-1:=by omega
 have hcl:∀ty,(Builtin.clear_ #[36] ty #[.slice (some ⟨g,(i+(m-j))*8,none⟩) (m-(i+(m-j))) (c-(i+(m-j)))]).run Tryz.prog W1=.ok (.tuple #[]) (W1.setCells g ((i+(m-j))*8) qY):=λty=>by
  rw[show m-(i+(m-j))=1 by omega];exact XN W1 _ _ ty _ qY Tryz.underlying36 U0 rfl (by decide) (by unfold qY;simp[Value.oneCell']) g ((i+(m-j))*8) _
   (λt ht=>by
    have ht':t<8:=ht;rw[hW1];by_cases hin:(i+(m-j))*8+t<0+i*8\/0+i*8+news.length<=(i+(m-j))*8+t;·rw[World.cell?_setCells_out g news _ _ _ (λ_ _=>hin)];exact hsome _ (by omega)
    ·rw[hlen]at hin;omega)
   (λt ht=>by rw[hW1,World.frozen?_setCells];exact hdr.frozenAt _)
 have HD:=aA (t_ hdr hl hi (zs:=qY) rfl rfl);have hW:Hid (W1=w.drew.setCells g (0+i*8) news):=hW1;have HN:Hid (news=dJ (xs.drop (i+1))):=by show news=_;rw[hnews,hj]
 have HJ:Hid (j=i+1):=hj;have hij:i<=j:=by omega
 have hjm:j<=m:=by omega
 have hic:i<=c:=by omega
 have hjc:j<=c:=by omega
 have hne:¬i=j:=by omega
 have hcn:¬c=i+(m-j):=by omega
 have hlc:i+(m-j)<=c:=by omega
 have hlm:i+(m-j)<=m:=by omega
 have HL:=aA hL;have hne2:((i:Int)==(j:Int))=false:=by rw[xD];omega
 clear hr hdr hget hlen hnews hW1 hsome hj hL;go_enter Tryz.func142,Tryz.ntmps142;go_wp2_with fail;go_region_law(refine step_append_room rfl (.tmp 22) (.tmp 25) 36 rfl 88 _ 8 Tryz.underlying36 rfl rfl g 0 i c (by simp[Act.eval,Act.put]) A (m-j) (c-j) news (by simp[Act.eval,Act.put]) s1.out hsrc.out s2.out (by omega) s3.out ?_;rw[<-hW.out]);go_wp2_with fail;go_ret;have hd:=HD.out;rw[<-HN.out]at hd;have hW':=hW.out;rw[uD]at hW';rw[<-hW',<-HL.out]at hd;refine⟨by rw[<-HL.out];rfl,?_,?_⟩;·rw[<-HL.out];exact hd.1
 ·exact(⟨rfl,rfl,rfl,eA _,λ_ _ _=>rfl⟩:vJ g w w.drew).trans hd.2.1
end Go.Proofs.YtedmnjimkhamaaaGreatDoor
