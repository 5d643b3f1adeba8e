import Derived.Test.YtedmnjimkhamaaaGreatDoorMox
namespace Go.Proofs.YtedmnjimkhamaaaGreatDoor
set_option linter.unusedVariables false
set_option maxRecDepth 100000
set_option maxHeartbeats 8000000
open Go.RowKit Go.Maps
theorem U9(p:lD)(a1 a2 a3:Option Addr)(n1 c1 n2 c2 n3 c3:Nat)(W0:World)(hp0:sG W0 a1 a2 a3 n1 n2 n3 p)(hm:n1<=100)(hm2:n2<=100)(hpow:rJ W0)(s:yC)(nm key body:ByteArray)(g c:Nat)(t:Nat)(w:World)(h0:Below W0.heap.size W0 w)(ht0:W0.heap.size<=t)(hb:zO a1 a2 a3 n1 c1 n2 c2 n3 c3 w W0.heap.size t s)
 (g0:w.cell? ⟨g,0,none⟩=some (.string ⟨#[115,101,110,100]⟩))(g1:w.cell? ⟨g,1,none⟩=some (.string nm))(g2:w.cell? ⟨g,2,none⟩=some (.string key))(g3:w.cell? ⟨g,3,none⟩=some (.string body))(hg:g<w.heap.size):
 Calls Tryz.prog 35 #[.pointer (some ⟨t,0,none⟩),.slice (some ⟨g,0,none⟩) 4 c] w λe w'=>
  oT a1 a2 a3 n1 c1 n2 c2 n3 c3 w w' W0.heap.size t e (uV p s nm key body) ⟨(Lib.decDigits (eO p key (yE (eM nm) p.nC).toNat).length).toArray⟩ s (oI p 600 s (dI p (yE (eM nm) p.nC) key body)):=by
 have hgt:g≠t:=λe=>by
  obtain⟨b1,b2,b3,m1,d1,m2,d2,m3,d3,hh,ho⟩:=hb;have:=(kS hh).1.1;rw[e,this]at g0;cases g0
 have CL:Hid (∀W,Below w.heap.size w W->Calls Tryz.prog 60 #[.pointer (some ⟨t,0,none⟩),.string nm,.string key,.string body] W λe w'=>oT a1 a2 a3 n1 c1 n2 c2 n3 c3 w w' W0.heap.size t e (uV p s nm key body) ⟨(Lib.decDigits (eO p key (yE (eM nm) p.nC).toNat).length).toArray⟩ s (oI p 600 s (dI p (yE (eM nm) p.nC) key body))):=λW hW=>by
  refine(C3 p a1 a2 a3 n1 c1 n2 c2 n3 c3 W0 hp0 hm hm2 hpow s nm key body t W (h0.trans (hW.mono h0.size)) ht0 (hb.sA hW)).mono ?_;rintro e w'⟨hf,hx⟩;exact⟨(qE.kB hW (eA _)).trans ⟨hf.os,hf.tape,hf.output,hf.size,λk h1 h2=>hf.block k (by have:=hW.size;omega) h2⟩,hx⟩
 obtain⟨E,hE⟩:∃E,E=uV p s nm key body:=⟨_,rfl⟩;obtain⟨R,hR⟩:∃R:ByteArray,R=⟨(Lib.decDigits (eO p key (yE (eM nm) p.nC).toNat).length).toArray⟩:=⟨_,rfl⟩;obtain⟨S',hS'⟩:∃S',S'=oI p 600 s (dI p (yE (eM nm) p.nC) key body):=⟨_,rfl⟩;rw[<-hE,<-hR,<-hS']at CL⊢;clear hE hR hS' hp0 hpow hb h0;have HSQ:Hid (∀W',qE w.heap.size t w W'->W'.cell? ⟨g,1,none⟩=some (.string nm)/\W'.cell? ⟨g,2,none⟩=some (.string key)/\W'.cell? ⟨g,3,none⟩=some (.string body)):=λW' hW'=>by
  have K:∀{i:Nat}{v:Value},w.cell? ⟨g,i,none⟩=some v->W'.cell? ⟨g,i,none⟩=some v:=λ{i v}h=>by
   have:=hW'.block g hg hgt;unfold World.cell? at h⊢;simp only at h⊢;rw[this];exact h
  exact⟨K g1,K g2,K g3⟩
 by_cases he:E=0;·subst he;go_enter Tryz.func35,Tryz.ntmps35;go_wp2_with fail;go_region_held3(λw'=>w'.cell? ⟨g,1,none⟩=some (.string nm)/\w'.cell? ⟨g,2,none⟩=some (.string key)/\w'.cell? ⟨g,3,none⟩=some (.string body))(first|exact HSQ.out _ (qE.kB ((dA _ _).drew:Below w.heap.size w w.drew) (eA _))|exact HSQ.out _ F3)
   (first|(go_at_call 60;refine(CL.out _ (by repeat(first|with_reducible assumption|with_reducible refine pD ?_ (by first|(simp;done)|(simp;omega)|omega) _|with_reducible refine cE ?_ (by first|(simp;done)|(simp;omega)|omega) _|with_reducible refine nE ?_|with_reducible exact dA _ _))).mono ?_;rintro e w3⟨F3,hx3⟩;obtain⟨-,rfl,CB⟩:=hx3.resolve_left (λh=>h.1 rfl)));all_goals
   go_wp2_with fail;go_ret;exact⟨F3,.inr ⟨rfl,rfl,CB⟩⟩
 ·go_enter Tryz.func35,Tryz.ntmps35;go_wp2_with fail;go_region_dies;all_goals
   refine(CL.out _ (by repeat(first|with_reducible assumption|with_reducible refine pD ?_ (by first|(simp;done)|(simp;omega)|omega) _|with_reducible refine cE ?_ (by first|(simp;done)|(simp;omega)|omega) _|with_reducible refine nE ?_|with_reducible exact dA _ _))).mono ?_;rintro e w3⟨F3,hx3⟩;obtain⟨h1,rfl,CB⟩:=hx3.resolve_right (λh=>he h.1);exact⟨rfl,F3,.inl ⟨he,rfl,CB⟩⟩
theorem U7(p:lD)(a1 a2 a3:Option Addr)(n1 c1 n2 c2 n3 c3:Nat)(W0:World)(hp0:sG W0 a1 a2 a3 n1 n2 n3 p)(hm:n1<=100)(hm2:n2<=100)(hpow:rJ W0)(s:yC)(nm nD:ByteArray)(hms:nD.size<=1000000)(g c:Nat)(t:Nat)(w:World)(h0:Below W0.heap.size W0 w)(ht0:W0.heap.size<=t)(hb:zO a1 a2 a3 n1 c1 n2 c2 n3 c3 w W0.heap.size t s)
 (g0:w.cell? ⟨g,0,none⟩=some (.string ⟨#[106,111,105,110]⟩))(g1:w.cell? ⟨g,1,none⟩=some (.string nm))(g2:w.cell? ⟨g,2,none⟩=some (.string nD))(hg:g<w.heap.size):
 Calls Tryz.prog 35 #[.pointer (some ⟨t,0,none⟩),.slice (some ⟨g,0,none⟩) 3 c] w λe w'=>
  oT a1 a2 a3 n1 c1 n2 c2 n3 c3 w w' W0.heap.size t e (bW p s nm nD) ⟨(Lib.decDigits (iE s.nA)).toArray⟩ s (bR s (yE (iK nm) p.jB) (eH nD.data.toList:Nat)):=by
 have hgt:g≠t:=λe=>by
  obtain⟨b1,b2,b3,m1,d1,m2,d2,m3,d3,hh,ho⟩:=hb;have:=(kS hh).1.1;rw[e,this]at g0;cases g0
 have CL:Hid (∀W,Below w.heap.size w W->Calls Tryz.prog 61 #[.pointer (some ⟨t,0,none⟩),.string nm,.string nD] W λe w'=>oT a1 a2 a3 n1 c1 n2 c2 n3 c3 w w' W0.heap.size t e (bW p s nm nD) ⟨(Lib.decDigits (iE s.nA)).toArray⟩ s (bR s (yE (iK nm) p.jB) (eH nD.data.toList:Nat))):=λW hW=>by
  refine(H5 p a1 a2 a3 n1 c1 n2 c2 n3 c3 W0 hp0 hm hm2 hpow s nm nD hms t W (h0.trans (hW.mono h0.size)) ht0 (hb.sA hW)).mono ?_;rintro e w'⟨hf,hx⟩;exact⟨(qE.kB hW (eA _)).trans ⟨hf.os,hf.tape,hf.output,hf.size,λk h1 h2=>hf.block k (by have:=hW.size;omega) h2⟩,hx⟩
 obtain⟨E,hE⟩:∃E,E=bW p s nm nD:=⟨_,rfl⟩;obtain⟨R,hR⟩:∃R:ByteArray,R=⟨(Lib.decDigits (iE s.nA)).toArray⟩:=⟨_,rfl⟩;obtain⟨S',hS'⟩:∃S',S'=bR s (yE (iK nm) p.jB) (eH nD.data.toList:Nat):=⟨_,rfl⟩;rw[<-hE,<-hR,<-hS']at CL⊢;clear hE hR hS' hp0 hpow hb h0;have HSQ:Hid (∀W',qE w.heap.size t w W'->W'.cell? ⟨g,1,none⟩=some (.string nm)/\W'.cell? ⟨g,2,none⟩=some (.string nD)):=λW' hW'=>by
  have K:∀{i:Nat}{v:Value},w.cell? ⟨g,i,none⟩=some v->W'.cell? ⟨g,i,none⟩=some v:=λ{i v}h=>by
   have:=hW'.block g hg hgt;unfold World.cell? at h⊢;simp only at h⊢;rw[this];exact h
  exact⟨K g1,K g2⟩
 by_cases he:E=0;·subst he;go_enter Tryz.func35,Tryz.ntmps35;go_wp2_with fail;go_region_held3(λw'=>w'.cell? ⟨g,1,none⟩=some (.string nm)/\w'.cell? ⟨g,2,none⟩=some (.string nD))(first|exact HSQ.out _ (qE.kB ((dA _ _).drew:Below w.heap.size w w.drew) (eA _))|exact HSQ.out _ F3)
   (first|(go_at_call 61;refine(CL.out _ (by repeat(first|with_reducible assumption|with_reducible refine pD ?_ (by first|(simp;done)|(simp;omega)|omega) _|with_reducible refine cE ?_ (by first|(simp;done)|(simp;omega)|omega) _|with_reducible refine nE ?_|with_reducible exact dA _ _))).mono ?_;rintro e w3⟨F3,hx3⟩;obtain⟨-,rfl,CB⟩:=hx3.resolve_left (λh=>h.1 rfl)));all_goals
   go_wp2_with fail;go_ret;exact⟨F3,.inr ⟨rfl,rfl,CB⟩⟩
 ·go_enter Tryz.func35,Tryz.ntmps35;go_wp2_with fail;go_region_dies;all_goals
   refine(CL.out _ (by repeat(first|with_reducible assumption|with_reducible refine pD ?_ (by first|(simp;done)|(simp;omega)|omega) _|with_reducible refine cE ?_ (by first|(simp;done)|(simp;omega)|omega) _|with_reducible refine nE ?_|with_reducible exact dA _ _))).mono ?_;rintro e w3⟨F3,hx3⟩;obtain⟨h1,rfl,CB⟩:=hx3.resolve_right (λh=>he h.1);exact⟨rfl,F3,.inl ⟨he,rfl,CB⟩⟩
end Go.Proofs.YtedmnjimkhamaaaGreatDoor
