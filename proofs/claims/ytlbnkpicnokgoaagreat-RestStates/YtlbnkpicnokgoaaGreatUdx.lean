import Derived.Test.YtlbnkpicnokgoaaGreatUcx
import Derived.WalkLawsBesides
import Derived.Test.YtlbnkpicnokgoaaGreatUax
import Derived.Maps.AppendAt
import Derived.Test.YtlbnkpicnokgoaaGreatUbx
import Derived.Defers
import Derived.Recover
import Derived.Maps.OwnIn
import Derived.Deep.RegionHeld3
namespace Go.Proofs.YtlbnkpicnokgoaaGreat
open Go.RowKit
set_option linter.unusedVariables false
set_option maxRecDepth 100000
set_option maxHeartbeats 2000000
def cf_:ad_:={
 posts:=[⟨⟨#[109,97,105,110]⟩,3⟩,⟨⟨#[97,108,108]⟩,2⟩,⟨⟨#[100,101,97,100]⟩,1⟩]
 queues:=[⟨⟨#[97]⟩,2,2⟩,⟨⟨#[98]⟩,3,-1⟩,⟨⟨#[100]⟩,2,-1⟩]
 binds:=[⟨0,false,0,⟨#[120,46,35]⟩⟩,⟨0,true,1,⟨#[42,46,121]⟩⟩,⟨1,false,1,⟨#[35]⟩⟩,⟨1,true,0,⟨#[35]⟩⟩,⟨2,false,2,⟨#[120,46,121]⟩⟩] }
def oG_:Array Value:=#[.string ⟨#[109,97,105,110]⟩,.int .i64 3,.string ⟨#[97,108,108]⟩,.int .i64 2,.string ⟨#[100,101,97,100]⟩,.int .i64 1]
def oc_:Array Value:=#[.string ⟨#[97]⟩,.int .i64 2,.int .i64 2,.string ⟨#[98]⟩,.int .i64 3,.int .i64 (-1),.string ⟨#[100]⟩,.int .i64 2,.int .i64 (-1)]
def iq_:Array Value:=#[.int .i64 0,.bool false,.int .i64 0,.string ⟨#[120,46,35]⟩,.int .i64 0,.bool true,.int .i64 1,.string ⟨#[42,46,121]⟩,.int .i64 1,.bool false,.int .i64 1,.string ⟨#[35]⟩,.int .i64 1,.bool true,.int .i64 0,.string ⟨#[35]⟩,.int .i64 2,.bool false,.int .i64 2,.string ⟨#[120,46,121]⟩]
theorem lv_ (w:World) (A B C D:Obj):((((w.alloc A).alloc B).alloc C).alloc D).heap.size = w.heap.size+4∧((((w.alloc A).alloc B).alloc C).alloc D).heap[w.heap.size+1]? = some B∧((((w.alloc A).alloc B).alloc C).alloc D).heap[w.heap.size+1+1]? = some C∧((((w.alloc A).alloc B).alloc C).alloc D).heap[w.heap.size+1+1+1]? = some D:=by
 have hB:=World.alloc_heap_new (w.alloc A) B;have hC:=World.alloc_heap_new ((w.alloc A).alloc B) C;have hD:=World.alloc_heap_new (((w.alloc A).alloc B).alloc C) D;simp only [World.size_alloc] at hB hC hD;refine ⟨by simp only [World.size_alloc],?_,?_,hD⟩
 ·rw [Below.heap_alloc _ _ _ (by simp only [World.size_alloc];omega),Below.heap_alloc _ _ _ (by simp only [World.size_alloc];omega)];exact hB
 ·rw [Below.heap_alloc _ _ _ (by simp only [World.size_alloc];omega)];exact hC
theorem coc_ {W:World} {b:Nat} {cs:Array Value} {t:TypeId} (h:W.heap[b]? = some (.cells cs t (0,0))) (i:Nat):W.cell? ⟨b,i,none⟩ = cs[i]?:=by
 unfold World.cell?;simp only;rw [h];simp
theorem foc_ {W:World} {b:Nat} {cs:Array Value} {t:TypeId} (h:W.heap[b]? = some (.cells cs t (0,0))) (i:Nat):W.frozen? ⟨b,i,none⟩ = false:=by
 simp [World.frozen?,h]
theorem lth_ {W:World} {b:Nat} {o:Obj} (h:W.heap[b]? = some o):b < W.heap.size:=(Array.getElem?_eq_some_iff.1 h).1
theorem nm_ {W:World} {b:Nat} {cs:Array Value} {t:TypeId} (h:W.heap[b]? = some (.cells cs t (0,0))) (xs:List bV_)
 (hc:∀ i (hi:i < xs.length),cs[i * 2]? = some (.string xs[i].name)∧cs[i * 2+1]? = some (.int .i64 xs[i].kind)):bG_ W (some ⟨b,0,none⟩) xs:=
 .inr ⟨b,0,rfl,lth_ h,fun i hi=>by simp only [Nat.zero_add,coc_ h];exact hc i hi⟩
theorem jl_ {W:World} {b:Nat} {cs:Array Value} {t:TypeId} (h:W.heap[b]? = some (.cells cs t (0,0))) (xs:List ba_)
 (hc:∀ i (hi:i < xs.length),cs[i * 3]? = some (.string xs[i].name)∧cs[i * 3+1]? = some (.int .i64 xs[i].limit)∧cs[i * 3+2]? = some (.int .i64 xs[i].dead)):a6_ W (some ⟨b,0,none⟩) xs:=
 .inr ⟨b,0,rfl,lth_ h,fun i hi=>by simp only [Nat.zero_add,coc_ h];exact hc i hi⟩
theorem mU_ {W:World} {b:Nat} {cs:Array Value} {t:TypeId} (h:W.heap[b]? = some (.cells cs t (0,0))) (xs:List dA_)
 (hc:∀ i (hi:i < xs.length),cs[i * 4]? = some (.int .i64 xs[i].src)∧cs[i * 4+1]? = some (.bool xs[i].toPost)∧cs[i * 4+2]? = some (.int .i64 xs[i].dst)∧cs[i * 4+3]? = some (.string xs[i].pat)):bF_ W (some ⟨b,0,none⟩) xs:=
 .inr ⟨b,0,rfl,lth_ h,fun i hi=>by simp only [Nat.zero_add,coc_ h];exact hc i hi⟩
theorem kP_ (w:World):Calls Tryz.prog 42 #[] w fun e w'=>e = .returned (.agg #[.slice (some ⟨w.heap.size+1,0,none⟩) 3 3,.slice (some ⟨w.heap.size+1+1,0,none⟩) 3 3,.slice (some ⟨w.heap.size+1+1+1,0,none⟩) 5 5]) ∧
 Below w.heap.size w w'∧w'.heap.size = w.heap.size+4∧w'.heap[w.heap.size+1]? = some (.cells oG_ 95 (0,0))∧w'.heap[w.heap.size+1+1]? = some (.cells oc_ 80 (0,0))∧w'.heap[w.heap.size+1+1+1]? = some (.cells iq_ 100 (0,0)):=by
 go_enter Tryz.func42,Tryz.ntmps42;go_wp2_with fail
 exact bodyPost_ret (v:=.agg #[.slice (some ⟨w.heap.size+1,0,none⟩) 3 3,.slice (some ⟨w.heap.size+1+1,0,none⟩) 3 3,.slice (some ⟨w.heap.size+1+1+1,0,none⟩) 5 5]) (by simp [results,Tryz.results42,go_sem]) rfl ⟨rfl,(by repeat (first | exact Below.refl _ _ | assumption | refine Below.drew ?_ | refine Below.alloc ?_ (by first | (simp;done) | (simp;omega) | omega) _ | refine Below.setCell ?_ (by first | (simp;done) | (simp;omega) | omega) _)),lv_ w _ _ _ _⟩
theorem jr_ {p:ad_} (h:((p.posts.map bV_.name).all (fun x=>decide (x.size≤100)) && (p.queues.map ba_.name).all (fun x=>decide (x.size≤100))) = true):Sized p:=by
 rw [Bool.and_eq_true,List.all_eq_true,List.all_eq_true] at h;unfold Sized maxLen;exact ⟨fun x hx=>by have:=h.1 x hx;simp at this;omega,fun x hx=>by have:=h.2 x hx;simp at this;omega⟩
theorem posts3 {cs:Array Value} {x y z:bV_} (h:cs = #[.string x.name,.int .i64 x.kind,.string y.name,.int .i64 y.kind,.string z.name,.int .i64 z.kind]):∀ i (hi:i < [x,y,z].length),cs[i * 2]? = some (.string [x,y,z][i].name)∧cs[i * 2+1]? = some (.int .i64 [x,y,z][i].kind):=by
 subst h;intro i hi;match i,hi with
 | 0,_=>exact ⟨rfl,rfl⟩
 | 1,_=>exact ⟨rfl,rfl⟩
 | 2,_=>exact ⟨rfl,rfl⟩
theorem queues3 {cs:Array Value} {x y z:ba_} (h:cs = #[.string x.name,.int .i64 x.limit,.int .i64 x.dead,.string y.name,.int .i64 y.limit,.int .i64 y.dead,.string z.name,.int .i64 z.limit,.int .i64 z.dead]):∀ i (hi:i < [x,y,z].length),cs[i * 3]? = some (.string [x,y,z][i].name)∧cs[i * 3+1]? = some (.int .i64 [x,y,z][i].limit)∧cs[i * 3+2]? = some (.int .i64 [x,y,z][i].dead):=by
 subst h;intro i hi;match i,hi with
 | 0,_=>exact ⟨rfl,rfl,rfl⟩
 | 1,_=>exact ⟨rfl,rfl,rfl⟩
 | 2,_=>exact ⟨rfl,rfl,rfl⟩
theorem binds5:∀ i (hi:i < cf_.binds.length),iq_[i * 4]? = some (.int .i64 cf_.binds[i].src)∧iq_[i * 4+1]? = some (.bool cf_.binds[i].toPost)∧iq_[i * 4+2]? = some (.int .i64 cf_.binds[i].dst)∧iq_[i * 4+3]? = some (.string cf_.binds[i].pat):=by
 intro i hi;match i,hi with
 | 0,_=>exact ⟨rfl,rfl,rfl,rfl⟩
 | 1,_=>exact ⟨rfl,rfl,rfl,rfl⟩
 | 2,_=>exact ⟨rfl,rfl,rfl,rfl⟩
 | 3,_=>exact ⟨rfl,rfl,rfl,rfl⟩
 | 4,_=>exact ⟨rfl,rfl,rfl,rfl⟩
theorem gW_ (w:World):Calls Tryz.prog 42 #[] w fun e w'=>e = .returned (.agg #[.slice (some ⟨w.heap.size+1,0,none⟩) 3 3,.slice (some ⟨w.heap.size+1+1,0,none⟩) 3 3,.slice (some ⟨w.heap.size+1+1+1,0,none⟩) 5 5]) ∧
 Below w.heap.size w w'∧ap_ w' (some ⟨w.heap.size+1,0,none⟩) (some ⟨w.heap.size+1+1,0,none⟩) (some ⟨w.heap.size+1+1+1,0,none⟩) 3 3 5 cf_:=by
 refine (kP_ w).mono ?_;rintro e w' ⟨rfl,hB,hs,h1,h2,h3⟩;exact ⟨rfl,hB,⟨rfl,rfl,rfl,jr_ (by decide +kernel),nm_ h1 _ (posts3 rfl),jl_ h2 _ (queues3 rfl),mU_ h3 _ binds5⟩⟩
theorem scb_ {W:World} {b j:Nat} {cs:Array Value} {t:TypeId} (h:W.heap[b]? = some (.cells cs t (0,0))) (u:Value):(W.setCell ⟨b,j,none⟩ u).heap[b]? = some (.cells (cs.setIfInBounds j u) t (0,0)):=heap_setCell_same W b j cs t u h
def panE (d:Int):Ending:=.panicked [{ v:=.iface 33 (.int .i64 d),recovered:=false }]
def okE:Ending:=.returned (.tuple #[])
def askE (d:Int):Ending:=if d = 0 then okE else panE d
theorem b8_:askE 0 = okE:=rfl
theorem cO_ {d:Int} (h:d≠0):askE d = panE d:=if_neg h
theorem bk_ (w:World) (bs:List Bool):be_ (w.alloc (.cells (bs.map Value.bool).toArray 4)) w.heap.size 0 bs:=by
 intro i hi;have h:=World.alloc_heap_new w (.cells (bs.map Value.bool).toArray 4);rw [coc_ h];simp [hi]
theorem gN_ (bs:List Bool) (g n c:Nat) (w:World) (hn:bs.length = n) (hm:n≤100) (h:be_ w g 0 bs) :
 Calls Tryz.prog 127 #[.slice (some ⟨g,0,none⟩) n c,.bool true] w fun e w'=>∃ i:Int,e = .returned (.int .i64 i)∧(0≤i↔true ∈ bs)∧w' = w:=by
 have HN:Hid (bs.length = n):=hn;have H:Hid (be_ w g 0 bs):=h;clear hn h;go_enter Tryz.func127,Tryz.ntmps127;go_wp2_with fail
 go_loopw [5,8] (fun _ i wr=>∃ (k:Nat),k≤n∧i = .int .i64 k∧(true ∉ bs.take k)∧wr = w) (fun _ i _=>n - (intOf i).toNat)
 case atStart=>exact ⟨0,Nat.zero_le _,rfl,by simp,rfl⟩
 case round=>
  obtain ⟨k,hk,rfl,hno,rfl⟩:=hrel;have HNO:Hid (true ∉ bs.take k):=hno;clear hno;by_cases hlt:k < n
  ·have hkl:k < bs.length:=by rw [HN.out];exact hlt
   have d1:=H.out k hkl;rw [Nat.zero_add] at d1;have HKM:Hid (bs[k] ∈ bs):=List.getElem_mem hkl;have HTK:Hid (bs.take (k+1) = bs.take k ++ [bs[k]]):=List.take_succ_eq_append_getElem hkl;obtain ⟨y,hy⟩:∃ y,y = bs[k]:=⟨_,rfl⟩
   rw [← hy] at d1 HKM HTK;have j1:(0:Int)≤(k:Int):=by omega
   have j2:(k:Int) < n:=by omega
   clear hy;cases y with
   | true =>
     go_wp2_with fail
     go_ret
     exact ⟨k,rfl,⟨fun _=>HKM.out,fun _=>by omega⟩,rfl⟩
   | false =>
     go_wp2_with fail
     go_roundw
     case rel=>exact ⟨k+1,by omega,by go_num,by rw [HTK.out,List.mem_append,List.mem_singleton];exact fun h=>h.elim HNO.out (fun e=>nomatch e),by first | trivial | rfl⟩
     case measure=>simp [intOf];omega
  ·have hke:k = n:=by omega
   subst hke;clear hlt hk;go_wp2_with fail
   go_ret
   refine ⟨-1,rfl,⟨fun h=>by omega,fun h=>?_⟩,rfl⟩;have:=HNO.out;rw [← HN.out,List.take_length] at this;exact absurd h this
theorem ax_ (d:Int) (bs:List Bool) (g:Nat) (w:World) (hm:bs.length≤100) (h:be_ w g 0 bs) (hb:true ∈ bs) :
 Calls Tryz.prog 30 #[.int .i64 d,.slice (some ⟨g,0,none⟩) bs.length bs.length] w fun e w'=>e = .panicked [{ v:=.iface 33 (.int .i64 d),recovered:=false }]∧w' = w:=by
 obtain ⟨n,hn⟩:∃ n,n = bs.length:=⟨_,rfl⟩
 rw [← hn] at hm ⊢;have HN:Hid (n = bs.length):=hn;have H:Hid (be_ w g 0 bs):=h;have HB:Hid (true ∈ bs):=hb;clear hn h hb;go_enter Tryz.func30,Tryz.ntmps30;go_wp2_with (first | (go_at_call 127;refine (gN_ bs g _ _ _ HN.out.symm hm H.out).mono ?_;rintro e w2 ⟨i,rfl,hi,rfl⟩;have hi0:(0:Int)≤i:=hi.2 HB.out;clear hi) | go_in)
 first
  | exact ⟨rfl,rfl,rfl⟩
  | (go_end0;exact ⟨rfl,rfl⟩)
theorem aF_ (d:Int) (bs:List Bool) (g:Nat) (w:World) (hm:bs.length≤100) (h:be_ w g 0 bs) (hb:true ∉ bs) :
 Calls Tryz.prog 30 #[.int .i64 d,.slice (some ⟨g,0,none⟩) bs.length bs.length] w fun e w'=>e = .returned (.tuple #[])∧w' = w:=by
 obtain ⟨n,hn⟩:∃ n,n = bs.length:=⟨_,rfl⟩
 rw [← hn] at hm ⊢;have HN:Hid (n = bs.length):=hn;have H:Hid (be_ w g 0 bs):=h;have HB:Hid (true ∉ bs):=hb;clear hn h hb;go_enter Tryz.func30,Tryz.ntmps30;go_wp2_with (first | (go_at_call 127;refine (gN_ bs g _ _ _ HN.out.symm hm H.out).mono ?_;rintro e w2 ⟨i,rfl,hi,rfl⟩;have hi0:¬ (0:Int)≤i:=fun h=>HB.out (hi.1 h);clear hi) | go_in)
 first
  | exact ⟨rfl,rfl,rfl⟩
  | (go_end0;exact ⟨rfl,rfl⟩)
theorem dw_ (d:Int) (g:Nat) (w:World) (hc:w.cell? ⟨g,0,none⟩ = some (.int .i64 d)) (hg:g < w.heap.size) (hd:d≠0) :
 Calls Tryz.prog 47 #[.slice (some ⟨g,0,none⟩) 1 1] w fun e w'=>e = .panicked [{ v:=.iface 33 (.int .i64 d),recovered:=false }]∧Below w.heap.size w w':=by
 have hd':(d != 0) = true:=bne_iff_ne.2 hd;go_enter Tryz.func47,Tryz.ntmps47;go_wp2_with fail
 go_loopw [3,6] (fun _ i wr=>i = .int .i64 0∧wr = w) (fun _ _ _=>0)
 case atStart=>exact ⟨rfl,rfl⟩
 case round=>
  obtain ⟨rfl,rfl⟩:=hrel;go_wp2_with (go_at_call 30;refine (ax_ d [true] _ _ (by simp) (bk_ _ [true]) (by simp)).mono ?_;rintro e w2 ⟨rfl,rfl⟩)
  exact ⟨rfl,rfl,(Below.refl _ _).alloc (Nat.le_refl _) _⟩
theorem dY_ (g:Nat) (w:World) (hc:w.cell? ⟨g,0,none⟩ = some (.int .i64 0)) (hg:g < w.heap.size) :
 Calls Tryz.prog 47 #[.slice (some ⟨g,0,none⟩) 1 1] w fun e w'=>e = .returned (.tuple #[])∧Below w.heap.size w w':=by
 go_enter Tryz.func47,Tryz.ntmps47;go_wp2_with fail
 go_loopw [3,6] (fun _ i wr=>∃ k:Nat,k≤1∧i = .int .i64 k∧Below w.heap.size w wr) (fun _ i _=>1 - (intOf i).toNat)
 case atStart=>exact ⟨0,by omega,rfl,Below.refl _ _⟩
 case round=>
  obtain ⟨k,hk,rfl,hB⟩:=hrel;have hB':=hB.size;by_cases hlt:k < 1
  ·have hk0:k = 0:=by omega
   subst hk0;have hc':=(hB.cell (p:=⟨g,0,none⟩) hg).trans hc;go_wp2_with (go_at_call 30;refine (aF_ 0 [false] _ _ (by simp) (bk_ _ [false]) (by simp)).mono ?_;rintro e w2 ⟨rfl,rfl⟩)
   go_roundw
   case rel=>exact ⟨1,by omega,rfl,hB.alloc hB' _⟩
   case measure=>simp [intOf]
  ·have hk1:k = 1:=by omega
   subst hk1;go_wp2_with fail
   go_end0
   exact ⟨rfl,hB⟩
structure OutD where
 tag:Int
 taker:Int
 queue:Int
 item:ae_
structure aj_ where
 queue:Int
 most:Int
structure ab_ where
 ready:List (List ae_)
 outs:List OutD
 takers:List aj_
 nextSeq:Int
 nextTag:Int
 came:Int
 acked:Int
 dropped:Int
structure d4_ (W:World) (g o:Nat) (xs:List ae_) (b:Option Addr) (c:Nat):Prop where
 cell:W.cell? ⟨g,o,none⟩ = some (.slice b xs.length c)
 le:xs.length≤c
 cm:c≤maxLen
 nil:b = none→c = 0
 it:ai_ W b xs
def b6_ (W:World) (a:Option Addr) (xss:List (List ae_)):Prop:=xss = []∨∃ g o,a = some ⟨g,o,none⟩∧g < W.heap.size∧∀ i (h:i < xss.length),∃ b c,d4_ W g (o+i) xss[i] b c
def eg_ (W:World) (a:Option Addr) (xs:List OutD):Prop:=xs = []∨∃ g o,a = some ⟨g,o,none⟩∧g < W.heap.size∧∀ i (h:i < xs.length),W.cell? ⟨g,o+i * 8,none⟩ = some (.int .i64 xs[i].tag)∧W.cell? ⟨g,o+i * 8+1,none⟩ = some (.int .i64 xs[i].taker)∧W.cell? ⟨g,o+i * 8+2,none⟩ = some (.int .i64 xs[i].queue)∧aR_ W g (o+i * 8+3) xs[i].item
def cv_ (W:World) (a:Option Addr) (xs:List aj_):Prop:=xs = []∨∃ g o,a = some ⟨g,o,none⟩∧g < W.heap.size∧∀ i (h:i < xs.length),W.cell? ⟨g,o+i * 2,none⟩ = some (.int .i64 xs[i].queue)∧W.cell? ⟨g,o+i * 2+1,none⟩ = some (.int .i64 xs[i].most)
theorem d4_.keep {W W':World} {g o:Nat} {xs:List ae_} {b:Option Addr} {c:Nat} (h:d4_ W g o xs b c) (hg:g < W.heap.size) (hB:Below W.heap.size W W'):d4_ W' g o xs b c:=
 ⟨(hB.cell (p:=⟨g,o,none⟩) hg).trans h.cell,h.le,h.cm,h.nil,h.it.keep hB⟩
theorem b6_.keep {W W':World} {a:Option Addr} {xss:List (List ae_)} (h:b6_ W a xss) (hB:Below W.heap.size W W'):b6_ W' a xss:=by
 rcases h with h | ⟨g,o,ha,hg,h⟩
 ·exact .inl h
 ·exact .inr ⟨g,o,ha,Nat.lt_of_lt_of_le hg hB.size,fun i hi=>by obtain ⟨b,c,hl⟩:=h i hi;exact ⟨b,c,hl.keep hg hB⟩⟩
theorem eg_.keep {W W':World} {a:Option Addr} {xs:List OutD} (h:eg_ W a xs) (hB:Below W.heap.size W W'):eg_ W' a xs:=by
 rcases h with h | ⟨g,o,ha,hg,h⟩
 ·exact .inl h
 ·exact .inr ⟨g,o,ha,Nat.lt_of_lt_of_le hg hB.size,fun i hi=>⟨(hB.cell (p:=⟨g,_,none⟩) hg).trans (h i hi).1,(hB.cell (p:=⟨g,_,none⟩) hg).trans (h i hi).2.1,(hB.cell (p:=⟨g,_,none⟩) hg).trans (h i hi).2.2.1,(h i hi).2.2.2.keep hB hg⟩⟩
theorem cv_.keep {W W':World} {a:Option Addr} {xs:List aj_} (h:cv_ W a xs) (hB:Below W.heap.size W W'):cv_ W' a xs:=by
 rcases h with h | ⟨g,o,ha,hg,h⟩
 ·exact .inl h
 ·exact .inr ⟨g,o,ha,Nat.lt_of_lt_of_le hg hB.size,fun i hi=>⟨(hB.cell (p:=⟨g,_,none⟩) hg).trans (h i hi).1,(hB.cell (p:=⟨g,_,none⟩) hg).trans (h i hi).2⟩⟩
structure an_ (W:World) (b1 b2 b3:Option Addr) (m1 m2 m3:Nat) (s:ab_):Prop where
 l1:s.ready.length = m1
 l2:s.outs.length = m2
 l3:s.takers.length = m3
 x1:m1≤maxLen
 x2:m2 * 80≤140737488351232
 x3:m3≤maxLen
 q1:b6_ W b1 s.ready
 q2:eg_ W b2 s.outs
 q3:cv_ W b3 s.takers
theorem an_.keep {W W':World} {b1 b2 b3:Option Addr} {m1 m2 m3:Nat} {s:ab_} (h:an_ W b1 b2 b3 m1 m2 m3 s) (hB:Below W.heap.size W W'):an_ W' b1 b2 b3 m1 m2 m3 s:=
 ⟨h.l1,h.l2,h.l3,h.x1,h.x2,h.x3,h.q1.keep hB,h.q2.keep hB,h.q3.keep hB⟩
def aI_ (nq:Nat) (t:aj_):Bool:=(decide (t.queue = -1) || ar_ t.queue nq) && decide (1≤t.most∧t.most≤4)
def aY_ (nq:Nat) (xss:List (List ae_)):Bool:=decide (xss.length = nq) && xss.all at_
def cI_ (ts:List aj_) (nt last:Int) (o:OutD):Bool:=
 decide (last < o.tag) && decide (o.tag < nt) && ar_ o.taker ts.length && (match ts[o.taker.toNat]? with | none=>false | some t=>decide (t.queue≠-1) && decide (t.queue = o.queue)) && am_ o.item
def ao_ (ts:List aj_) (nt:Int):Int→List OutD→Bool
 | _,[]=>true
 | last,o :: r=>cI_ ts nt last o && ao_ ts nt o.tag r
def a2_ (n:Int):Bool:=decide (0≤n∧n≤1048576)
def bf_ (s:ab_):Bool:=a2_ s.nextSeq && a2_ s.nextTag && a2_ s.came && a2_ s.acked && a2_ s.dropped
def as_ (s:ab_):List Int:=(s.ready.flatMap (fun l=>l.map ae_.seq)) ++ s.outs.map (fun o=>o.item.seq)
def ci_ (s:ab_):Bool:=decide (as_ s).Nodup && (as_ s).all (fun n=>decide (n < s.nextSeq))
def heldN (s:ab_) (t:Int):Nat:=(s.outs.filter (fun o=>decide (o.taker = t))).length
def dD_ (p:ad_) (s:ab_):Bool:=(List.range s.ready.length).all (fun q=>decide (((s.ready.getD q []).length:Int)≤(p.queues.getD q ⟨⟨#[]⟩,0,0⟩).limit))
def dE_ (s:ab_):Bool:=(List.range s.takers.length).all (fun k=>decide ((heldN s k:Int)≤(s.takers.getD k ⟨0,0⟩).most))
def cj_ (s:ab_):Bool:=decide (s.came = (as_ s).length+s.acked+s.dropped) && decide (s.came = s.nextSeq)
def bs_ (p:ad_) (s:ab_):Bool:=aY_ p.queues.length s.ready && s.takers.all (aI_ p.queues.length) && ao_ s.takers s.nextTag (-1) s.outs && bf_ s && ci_ s
def stE (p:ad_) (s:ab_):Int:=
 if chkP p≠0 then chkP p else if 4 < s.takers.length then 2 else if bs_ p s = false then 1 else if (dD_ p s && dE_ s) = false then 3 else if cj_ s = false then 10 else 0
def aO_ (W:World) (a:Option Addr) (cs:List Value):Prop:=cs = []∨∃ g o,a = some ⟨g,o,none⟩∧g < W.heap.size∧∀ j u,cs[j]? = some u→W.cell? ⟨g,o+j,none⟩ = some u
theorem aO_.keep {W W':World} {a:Option Addr} {cs:List Value} (h:aO_ W a cs) (hB:Below W.heap.size W W'):aO_ W' a cs:=by
 rcases h with h | ⟨g,o,ha,hg,h⟩
 ·exact .inl h
 ·exact .inr ⟨g,o,ha,Nat.lt_of_lt_of_le hg hB.size,fun j u hj=>(hB.cell (p:=⟨g,o+j,none⟩) hg).trans (h j u hj)⟩
theorem aO_.news {W:World} {ad:Addr} {cs:List Value} (h:aO_ W (some ad) cs):∀ j u,cs[j]? = some u→W.cell? (ad.add j) = some u:=by
 intro j u hj;rcases h with rfl | ⟨g,o,ha,_,h⟩
 ·simp at hj
 ·cases ha;rw [cN_];exact h j u hj
theorem aH_ {W:World} {base:Nat} {T:TypeId} {size:Nat} {v:Value} {n:Nat} {cs:List Value} (h:W.ownsRow base T size v n cs) :
 ∃ a c,v = .slice a n c∧n≤c∧c≤maxLen∧(a = none→c = 0∧n = 0)∧aO_ W a cs:=by
 rcases h.2 with ⟨rfl,h0⟩ | ⟨g,cap,cur,rfl,hb,hg,h1,h2,_⟩
 ·have hx:cs = []:=List.length_eq_zero_iff.1 (by have:=h.1;rw [h0] at this;simpa using this);exact ⟨none,0,by rw [h0],by omega,by unfold maxLen;omega,fun _=>⟨rfl,h0⟩,.inl hx⟩
 ·refine ⟨_,cap,rfl,h1,h2,(fun h=>by cases h),.inr ⟨g,0,rfl,(Array.getElem?_eq_some_iff.1 hg).1,fun j u hj=>?_⟩⟩;have:=h.cells (g:=g) rfl _ _ hj;rw [cN_] at this;exact this
theorem bK_ {α:Type} {f:α→List Value} {k:Nat} (hf:∀ x,(f x).length = k) (xs:List α):(xs.flatMap f).length = xs.length * k:=by
 induction xs with
 | nil=>simp
 | cons x r ih=>rw [List.flatMap_cons,List.length_append,hf,ih,List.length_cons,Nat.add_mul];omega
theorem bJ_ {α:Type} {f:α→List Value} {k:Nat} (hf:∀ x,(f x).length = k):∀ (xs:List α) (i:Nat) (h:i < xs.length) (j:Nat),j < k→(xs.flatMap f)[i * k+j]? = (f xs[i])[j]?
 | x :: r, 0, _, j, hj => by
   rw [List.flatMap_cons,List.getElem?_append_left (by rw [hf];omega)];simp
 | x :: r, i + 1, h, j, hj => by
   have e:(i+1) * k+j = k+(i * k+j):=by rw [Nat.add_mul];omega
   rw [List.flatMap_cons,e,List.getElem?_append_right (by rw [hf];omega),hf,Nat.add_sub_cancel_left];exact bJ_ hf r i (by simpa using h) j hj
theorem jM_ {k j n:Nat} (hk:0 < k) (h:j < n * k):j / k < n∧j % k < k∧j / k * k+j % k = j:=
 ⟨(Nat.div_lt_iff_lt_mul hk).2 h,Nat.mod_lt _ hk,by rw [Nat.mul_comm];exact Nat.div_add_mod j k⟩
theorem mt_ {α:Type} {f:α→List Value} {k:Nat} (hk:0 < k) (hf:∀ x,(f x).length = k) {W:World} {a:Option Addr} {xs:List α}
 (h:xs = []∨∃ g o,a = some ⟨g,o,none⟩∧g < W.heap.size∧∀ i (h:i < xs.length) j,j < k→W.cell? ⟨g,o+i * k+j,none⟩ = (f xs[i])[j]?):aO_ W a (xs.flatMap f):=by
 rcases h with rfl | ⟨g,o,ha,hg,h⟩
 ·exact .inl rfl
 ·refine .inr ⟨g,o,ha,hg,fun j u hj=>?_⟩;have hjl:j < xs.length * k:=by
   rcases Nat.lt_or_ge j (xs.length * k) with h | h
   ·exact h
   ·rw [List.getElem?_eq_none (by rw [bK_ hf];exact h)] at hj;cases hj
  obtain ⟨h1,h2,h3⟩:=jM_ hk hjl;have hc:=h _ h1 _ h2;rw [← bJ_ hf xs _ h1 _ h2,h3,Nat.add_assoc,h3,hj] at hc;exact hc
theorem aO_.get {α:Type} {f:α→List Value} {k:Nat} (hf:∀ x,(f x).length = k) {W:World} {a:Option Addr} {xs:List α} (h:aO_ W a (xs.flatMap f)) (hk:0 < k) :
 xs = []∨∃ g o,a = some ⟨g,o,none⟩∧g < W.heap.size∧∀ i (h:i < xs.length) j,j < k→W.cell? ⟨g,o+i * k+j,none⟩ = (f xs[i])[j]?:=by
 rcases h with h | ⟨g,o,ha,hg,h⟩
 ·refine .inl (List.length_eq_zero_iff.1 ?_);have:=congrArg List.length h;rw [bK_ hf,List.length_nil] at this;rcases Nat.mul_eq_zero.1 this with h | h
  ·exact h
  ·omega
 ·refine .inr ⟨g,o,ha,hg,fun i hi j hj=>?_⟩;have e:=bJ_ hf xs i hi j hj;have hv:(f xs[i])[j]? = some ((f xs[i])[j]'(by rw [hf];exact hj)):=List.getElem?_eq_getElem _;rw [hv] at e ⊢;have:=h _ _ e;rw [Nat.add_assoc];exact this
def aj_.cells (t:aj_):List Value:=[.int .i64 t.queue,.int .i64 t.most]
def OutD.cells (o:OutD):List Value:=[.int .i64 o.tag,.int .i64 o.taker,.int .i64 o.queue,.int .i64 o.item.seq,.string o.item.key,.string o.item.body,.bool o.item.again,.int .i64 o.item.deaths]
def tkC_ (xs:List aj_):List Value:=xs.flatMap aj_.cells
def ah_ (xs:List OutD):List Value:=xs.flatMap OutD.cells
theorem b5_ {W:World} {a:Option Addr} {xs:List aj_}:cv_ W a xs↔aO_ W a (tkC_ xs):=by
 constructor
 ·intro h;refine mt_ (k:=2) (by omega) (fun _=>rfl) ?_;rcases h with h | ⟨g,o,ha,hg,h⟩
  ·exact .inl h
  ·refine .inr ⟨g,o,ha,hg,fun i hi j hj=>?_⟩;match j,hj with
   | 0,_=>exact (h i hi).1
   | 1,_=>exact (h i hi).2
 ·intro h;rcases aO_.get (k:=2) (fun _=>rfl) h (by omega) with h | ⟨g,o,ha,hg,h⟩
  ·exact .inl h
  ·exact .inr ⟨g,o,ha,hg,fun i hi=>⟨h i hi 0 (by omega),h i hi 1 (by omega)⟩⟩
theorem c5_ {W:World} {a:Option Addr} {xs:List OutD}:eg_ W a xs↔aO_ W a (ah_ xs):=by
 constructor
 ·intro h;refine mt_ (k:=8) (by omega) (fun _=>rfl) ?_;rcases h with h | ⟨g,o,ha,hg,h⟩
  ·exact .inl h
  ·refine .inr ⟨g,o,ha,hg,fun i hi j hj=>?_⟩;obtain ⟨h0,h1,h2,h3⟩:=h i hi;match j,hj with
   | 0,_=>exact h0
   | 1,_=>exact h1
   | 2,_=>exact h2
   | 3,_=>exact h3.at (j:=0) (by omega)
   | 4,_=>exact h3.at (j:=1) (by omega)
   | 5,_=>exact h3.at (j:=2) (by omega)
   | 6,_=>exact h3.at (j:=3) (by omega)
   | 7,_=>exact h3.at (j:=4) (by omega)
 ·intro h;rcases aO_.get (k:=8) (fun _=>rfl) h (by omega) with h | ⟨g,o,ha,hg,h⟩
  ·exact .inl h
  ·refine .inr ⟨g,o,ha,hg,fun i hi=>⟨h i hi 0 (by omega),h i hi 1 (by omega),h i hi 2 (by omega),aR_.of fun j hj=>?_⟩⟩;have:=h i hi (3+j) (by omega);rw [← Nat.add_assoc] at this;rw [this];match j,hj with
   | 0,_=>rfl
   | 1,_=>rfl
   | 2,_=>rfl
   | 3,_=>rfl
   | 4,_=>rfl
theorem cc_ {W:World} {a:Option Addr} {xs:List ae_}:ai_ W a xs↔aO_ W a (al_ xs):=by
 constructor
 ·intro h;refine mt_ (k:=5) (by omega) (fun _=>rfl) ?_;rcases h with h | ⟨g,o,ha,hg,h⟩
  ·exact .inl h
  ·exact .inr ⟨g,o,ha,hg,fun i hi j hj=>(h i hi).at hj⟩
 ·intro h;rcases aO_.get (k:=5) (fun _=>rfl) h (by omega) with h | ⟨g,o,ha,hg,h⟩
  ·exact .inl h
  ·exact .inr ⟨g,o,ha,hg,fun i hi=>aR_.of fun j hj=>h i hi j hj⟩
theorem cy_ (xs:List aj_):∀ u ∈ tkC_ xs,u.oneCell' = true:=by
 intro u hu;obtain ⟨x,_,hx⟩:=List.mem_flatMap.1 hu;simp [aj_.cells] at hx;rcases hx with rfl | rfl <;> rfl
theorem bA_ (xs:List OutD):∀ u ∈ ah_ xs,u.oneCell' = true:=by
 intro u hu;obtain ⟨x,_,hx⟩:=List.mem_flatMap.1 hu;simp [OutD.cells] at hx;rcases hx with rfl | rfl | rfl | rfl | rfl | rfl | rfl | rfl <;> rfl
structure eY_ (L E:TypeId) (size bytes:Nat):Prop where
 ex:∃ (i0:TypeInfo) (z:Value),Tryz.prog.underlying L = some (.slice E)∧Tryz.prog.info? E = some i0∧i0.zero = some z∧i0.size = size∧i0.bytes = bytes∧z.cells.size = size∧0 < size
theorem dl_ {L E:TypeId} {size bytes:Nat} {z:Value} (hu:Tryz.prog.underlying L = some (.slice E)) (hi:(Tryz.prog.info? E).map (fun i=>(i.zero,i.size,i.bytes)) = some (some z,size,bytes)) (hz:z.cells.size = size) (h0:0 < size):eY_ L E size bytes:=by
 obtain ⟨i0,h1,h2,h3,h4⟩:=info_parts hi;exact ⟨i0,z,hu,h1,h2,h3,h4,hz,h0⟩
theorem cQ_ {L E:TypeId} {size bytes:Nat} (hE:eY_ L E size bytes) {w:World} {o:Oper} {act:Act} {K:Act→World→Prop} {Q:Exit→Act→World→Prop} (s x:Operand)
 (ho:o.op = .call { callee:=.builtin .append,args:=#[s,x],argTypes:=#[L,L] })
 (base:Nat) (v:Value) (n:Nat) (cs:List Value) (hs:act.eval s = v) (hown:w.ownsRow base E size v n cs)
 (a:Option Addr) (m c:Nat) (ds:List Value) (hx:act.eval x = .slice a m c) (hm:ds.length = m * size) (hz:a = none→c = 0∧m = 0) (hT:aO_ w a ds) (h1:∀ u ∈ ds,u.oneCell' = true)
 (hb:n+m≤maxLen) (hby:(n+m) * bytes≤140737488355328) (hbase:base≤w.heap.size)
 (h:∀ v' w',w'.ownsRow base E size v' (n+m) (cs ++ ds)→w.grownBy w' v.ownBlock→(v'.ownBlock = v.ownBlock∨v'.ownBlock = some w.heap.size)→K (act.put o.dst v') w') :
 Oper.wp Tryz.prog o act w K Q:=by
 obtain ⟨i0,z,hu,hi,hz0,hz1,hz2,hzs,h0⟩:=hE.ex;cases a with
 | none =>
   obtain ⟨rfl,rfl⟩:=hz rfl;have hd:ds = []:=List.length_eq_zero_iff.1 (by rw [hm,Nat.zero_mul]);subst hd;have hrun:=run_append_owned_none (P:=Tryz.prog) (w:=w) base L o.type E i0 size hu hi v n _ hown;unfold Oper.wp;simp [execOp,ho,resolve,invoke,builtin,hs,hx,hrun,Result.andThen];exact h v w (by simpa using hown) (gL_ _ _) (.inl rfl)
 | some ad =>
   obtain ⟨v',w',hr,h2,h3,h4,h5⟩:=run_append_own_at (P:=Tryz.prog) w base L o.type E i0 z size bytes hu hi hz0 hz1 hz2 hzs h0 v n _ hown ad m c ds hm hT.news h1 hb hby hbase;unfold Oper.wp execOp;simp only [ho,resolve,invoke,builtin,Sem.run_bind,Sem.run_pure,Result.andThen_ok,List.map_toArray,List.map_cons,List.map_nil,hs,hx,hr];exact h v' w' h2 h3 h5
theorem a1_ {L E:TypeId} {size bytes:Nat} (hE:eY_ L E size bytes) {w:World} {ops:Array Oper} {rest:List Oper} {o:Oper} {act:Act} {Q:Exit→Act→World→Prop} (hw:Region.wanted o (yielded ops act.tmps) = true) (s x:Operand)
 (ho:o.op = .call { callee:=.builtin .append,args:=#[s,x],argTypes:=#[L,L] })
 (base:Nat) (v:Value) (n:Nat) (cs:List Value) (hs:act.eval s = v) (hown:w.ownsRow base E size v n cs)
 (a:Option Addr) (m c:Nat) (ds:List Value) (hx:act.eval x = .slice a m c) (hm:ds.length = m * size) (hz:a = none→c = 0∧m = 0) (hT:aO_ w a ds) (h1:∀ u ∈ ds,u.oneCell' = true)
 (hb:n+m≤maxLen) (hby:(n+m) * bytes≤140737488355328) (hbase:base≤w.heap.size)
 (h:∀ v' w',w'.ownsRow base E size v' (n+m) (cs ++ ds)→w.grownBy w' v.ownBlock→(v'.ownBlock = v.ownBlock∨v'.ownBlock = some w.heap.size)→wpList Tryz.prog ops Q rest (act.put o.dst v') w'):wpList Tryz.prog ops Q (o :: rest) act w:=
 wpList_step fun K hK=>by
  rw [if_pos hw];exact cQ_ hE s x ho base v n cs hs hown a m c ds hx hm hz hT h1 hb hby hbase (fun v' w' h1 h2 h3=>hK _ _ (h v' w' h1 h2 h3))
theorem fC_:eY_ 46 48 5 56:=dl_ Tryz.underlying46 Tryz.infoItem rfl (by omega)
theorem Tryz.infoTaker:(Tryz.prog.info? 69).map (fun i=>(i.zero,i.size,i.bytes)) = some (some (.agg #[.int .i64 0,.int .i64 0]),2,16):=by kernel_rfl
theorem eB_:eY_ 29 69 2 16:=dl_ Tryz.underlying29 Tryz.infoTaker rfl (by omega)
theorem Tryz.infoOut:(Tryz.prog.info? 67).map (fun i=>(i.zero,i.size,i.bytes)) = some (some (.agg #[.int .i64 0,.int .i64 0,.int .i64 0,.int .i64 0,.string ⟨#[]⟩,.string ⟨#[]⟩,.bool false,.int .i64 0]),8,80):=by kernel_rfl
theorem er_:eY_ 28 67 8 80:=dl_ Tryz.underlying28 Tryz.infoOut rfl (by omega)
theorem mu_ (d:Int) (w:World):(Instr.typeAssert (.iface 33 (.int .i64 d)) 20 33 true).run Tryz.prog w = .ok (.tuple #[.int .i64 d,.bool true]) w:=by kernel_rfl
theorem go_ (B:Nat) (w:World) :
 CallsD Tryz.prog 83 #[.pointer (some ⟨B,0,none⟩)] .returning w fun e u' w'=>e = .returned (.tuple #[])∧u' = .returning∧w' = w:=by
 refine callsD_of_wpS Tryz.func83 rfl fun c₀ cs hu=>?_
 apply wpS_seq
 apply wpS_region
 simp [wpOpsS,go_sem,recoverD,hu,Tryz.ntmps83,Exit.thenS];refine wpS_of_wp ?_;go_wp2
 cases c₀;simp_all [bodyPostS,results,Tryz.results83]
theorem g7_ (B:Nat) (d x:Int) (older:List PanicEntry) (w:World) (hc:w.cell? ⟨B,0,none⟩ = some (.int .i64 x)) (hz:w.frozen? ⟨B,0,none⟩ = false) :
 CallsD Tryz.prog 83 #[.pointer (some ⟨B,0,none⟩)] (.panicking ({ v:=.iface 33 (.int .i64 d),recovered:=false } :: older)) w fun e u' w'=>
  e = .returned (.tuple #[])∧u' = .panicking ({ v:=.iface 33 (.int .i64 d),recovered:=true } :: older)∧w' = w.setCell ⟨B,0,none⟩ (.int .i64 d):=by
 have hta:=mu_;refine callsD_of_wpS Tryz.func83 rfl fun c₀ cs hu=>?_
 apply wpS_seq
 apply wpS_region
 simp [wpOpsS,go_sem,recoverD,hu,Tryz.ntmps83,Exit.thenS];refine wpS_of_wp ?_;go_wp2
 cases c₀;simp_all [bodyPostS,results,Tryz.results83]
theorem ju_ (B1 B2:Nat) (D:Int) (w:World) (hdo:Calls Tryz.prog 46 #[.pointer (some ⟨B1,0,none⟩),.pointer (some ⟨B2,0,none⟩)] (w.alloc (.cells #[.int .i64 0] 33)) fun e w'=>e = askE D∧Below (w.heap.size+1) (w.alloc (.cells #[.int .i64 0] 33)) w') :
 Calls Tryz.prog 45 #[.func (.func 46) #[] #[.pointer (some ⟨B1,0,none⟩),.pointer (some ⟨B2,0,none⟩)]] w fun e w'=>e = .returned (.int .i64 D)∧Below w.heap.size w w':=by
 have hmf:∀ (fn:Fn) (first cap:Array Value) (w:World),(Instr.makeFunc fn first cap).run Tryz.prog w = .ok (.func fn first cap) w:=fun _ _ _ _=>rfl
 have HDO:Hid (Calls Tryz.prog 46 #[.pointer (some ⟨B1,0,none⟩),.pointer (some ⟨B2,0,none⟩)] (w.alloc (.cells #[.int .i64 0] 33)) fun e w'=>e = askE D∧Below (w.heap.size+1) (w.alloc (.cells #[.int .i64 0] 33)) w'):=hdo;clear hdo;go_enter_defers Tryz.func45,Tryz.ntmps45
 go_wp2_with fail
 refine HDO.out.mono ?_;rintro e w2 ⟨rfl,hB⟩;have hb:=(hB.block w.heap.size (by omega)).trans (World.alloc_heap_new w (.cells #[.int .i64 0] 33));have c0:=coc_ hb 0;have f0:=foc_ hb 0;simp at c0;have hBw:Below w.heap.size w w2:=((Below.refl _ _).alloc (Nat.le_refl _) _).trans (hB.mono (Nat.le_succ _));by_cases hD:D = 0
 ·subst hD;rw [b8_];unfold okE;go_wp2_with fail
  refine leaves_cons (f:=83) (args:=#[.pointer (some ⟨w.heap.size,0,none⟩)]) (by simp) (by simp [go_sem]) ?_;refine (go_ w.heap.size _).mono ?_;rintro e u' w'' ⟨rfl,rfl,rfl⟩;have c1:=coc_ (scb_ hb (j:=0) (.int .i64 0)) 0;simp at c1;have hBe:=hBw.setCell (p:=⟨w.heap.size,0,none⟩) (Nat.le_refl _) (.int .i64 0);simp [Leaves,settle,results,Tryz.results45,go_sem,c1];exact hBe
 ·rw [cO_ hD];unfold panE;go_wp2_with fail
  refine leaves_cons (f:=83) (args:=#[.pointer (some ⟨w.heap.size,0,none⟩)]) (by simp) (by simp [go_sem]) ?_;refine (g7_ w.heap.size D 0 [] _ c0 f0).mono ?_;rintro e u' w'' ⟨rfl,rfl,rfl⟩;have c1:=coc_ (scb_ hb (j:=0) (.int .i64 D)) 0;simp at c1;have hBe:=hBw.setCell (p:=⟨w.heap.size,0,none⟩) (Nat.le_refl _) (.int .i64 D);simp [Leaves,settle,results,Tryz.results45,go_sem,c1];exact hBe
theorem hidI {p:Prop} (h:p):Hid p:=h
theorem bZ_ (w:World) (pv sv:Array Value):∃ W2,W2 = (w.alloc (.cells pv 26)).alloc (.cells sv 31)∧Below w.heap.size w W2∧W2.heap.size = w.heap.size+2 ∧
 ∀ W,Below W2.heap.size W2 W→W.heap[w.heap.size]? = some (.cells pv 26 (0,0))∧W.heap[w.heap.size+1]? = some (.cells sv 31 (0,0)):=by
 refine ⟨_,rfl,((Below.refl _ _).alloc (Nat.le_refl _) _).alloc (by simp) _,by simp,fun W hW=>⟨(hW.block _ (by simp;omega)).trans ?_,(hW.block _ (by simp)).trans ?_⟩⟩
 ·rw [Below.heap_alloc _ _ _ (by simp)];exact World.alloc_heap_new w _
 ·have:=World.alloc_heap_new (w.alloc (.cells pv 26)) (.cells sv 31);rw [World.size_alloc] at this;exact this
theorem du_ (w:World) (sv:Array Value):∃ W1,W1 = w.alloc (.cells sv 31)∧Below w.heap.size w W1∧W1.heap.size = w.heap.size+1 ∧
 ∀ W,Below W1.heap.size W1 W→W.heap[w.heap.size]? = some (.cells sv 31 (0,0)):=by
 refine ⟨_,rfl,(Below.refl _ _).alloc (Nat.le_refl _) _,by simp,fun W hW=>(hW.block _ (by simp)).trans (World.alloc_heap_new w _)⟩
theorem ag_ {W:World} {B:Nat} {v1 v2 v3:Value} {t:TypeId} (h:W.heap[B]? = some (.cells #[v1,v2,v3] t (0,0))):W.cell? ⟨B,0,none⟩ = some v1∧W.cell? ⟨B,1,none⟩ = some v2∧W.cell? ⟨B,2,none⟩ = some v3:=
 ⟨coc_ h 0,coc_ h 1,coc_ h 2⟩
theorem aa_ {W:World} {B:Nat} {v0 v1 v2 v3 v4 v5 v6 v7:Value} {t:TypeId} (h:W.heap[B]? = some (.cells #[v0,v1,v2,v3,v4,v5,v6,v7] t (0,0))):W.cell? ⟨B,0,none⟩ = some v0∧W.cell? ⟨B,1,none⟩ = some v1∧W.cell? ⟨B,2,none⟩ = some v2∧W.cell? ⟨B,3,none⟩ = some v3∧W.cell? ⟨B,4,none⟩ = some v4∧W.cell? ⟨B,5,none⟩ = some v5∧W.cell? ⟨B,6,none⟩ = some v6∧W.cell? ⟨B,7,none⟩ = some v7:=
 ⟨coc_ h 0,coc_ h 1,coc_ h 2,coc_ h 3,coc_ h 4,coc_ h 5,coc_ h 6,coc_ h 7⟩
theorem bng_ (w:World) (bs:List Bool) {g:Nat} (hg:g = w.heap.size):be_ (w.alloc (.cells (bs.map Value.bool).toArray 4)) g 0 bs:=by rw [hg];exact bk_ w bs
theorem aP_ (w:World) (x:Value) (t:TypeId):(w.alloc (.cells #[x] t)).cell? ⟨w.heap.size,0,none⟩ = some x:=coc_ (World.alloc_heap_new w (.cells #[x] t)) 0
theorem b6_.get {W:World} {a:Option Addr} {xss:List (List ae_)} (h:b6_ W a xss) {k:Nat} (hk:k < xss.length):∃ g o b c,a = some ⟨g,o,none⟩∧g < W.heap.size∧d4_ W g (o+k) xss[k] b c:=by
 rcases h with h | ⟨g,o,ha,hg,h⟩
 ·rw [h] at hk;simp at hk
 ·obtain ⟨b,c,hl⟩:=h k hk;exact ⟨g,o,b,c,ha,hg,hl⟩
theorem hT_ (p:ad_) (a1 a2 a3:Option Addr) (n1 c1 n2 c2 n3 c3:Nat) (s:ab_) (b1 b2 b3:Option Addr) (m1 d1 m2 d2 m3 d3:Nat) (w:World) (hp:ap_ w a1 a2 a3 n1 n2 n3 p) (hs:an_ w b1 b2 b3 m1 m2 m3 s) :
 Calls Tryz.prog 49 #[.agg #[.slice a1 n1 c1,.slice a2 n2 c2,.slice a3 n3 c3],.agg #[.slice b1 m1 d1,.slice b2 m2 d2,.slice b3 m3 d3,.int .i64 s.nextSeq,.int .i64 s.nextTag,.int .i64 s.came,.int .i64 s.acked,.int .i64 s.dropped]] w fun e w'=>e = askE (if aY_ n2 s.ready = true then 0 else 1)∧Below w.heap.size w w':=by
 obtain ⟨D,hD⟩:∃ D:Int,D = if aY_ n2 s.ready = true then 0 else 1:=⟨_,rfl⟩
 rw [← hD];have HD:=hidI hD;clear hD;obtain ⟨W2,hW2,hBw,hs2,hbx⟩:=bZ_ w #[.slice a1 n1 c1,.slice a2 n2 c2,.slice a3 n3 c3] #[.slice b1 m1 d1,.slice b2 m2 d2,.slice b3 m3 d3,.int .i64 s.nextSeq,.int .i64 s.nextTag,.int .i64 s.came,.int .i64 s.acked,.int .i64 s.dropped];have HW2:=hidI hW2;have BX:=hidI hbx;have HS:=hidI (hs.keep hBw);have HM1:Hid (s.ready.length = m1):=hs.l1;have hx1:=hs.x1;have s0:=hBw.size;have hs2':w.heap.size+1 < W2.heap.size:=by omega
 unfold maxLen at hx1;have HS2:Hid (w.heap.size+1+1 = W2.heap.size):=hs2.symm;clear hW2 hbx hs hp hs2;obtain ⟨p0,q0⟩:=BX.out W2 (Below.refl _ _);obtain ⟨x0,x1,x2⟩:=ag_ p0;obtain ⟨y0,y1,y2,y3,y4,y5,y6,y7⟩:=aa_ q0;clear p0 q0;by_cases hm:m1 = n2
 ·have hmb:((m1:Int) != (n2:Int)) = false:=by simp [hm]
  have HME:=hidI hm;clear hm;go_enter Tryz.func49,Tryz.ntmps49;go_wp2_with fail
  rw [← HW2.out];refine (aF_ 1 [false] _ _ (by simp) (bng_ W2 [false] HS2.out) (by simp)).mono ?_;rintro e w3 ⟨rfl,hw3⟩;have hB3:Below W2.heap.size W2 w3:=by rw [hw3];exact (Below.refl _ _).alloc (Nat.le_refl _) _
  obtain ⟨p0,q0⟩:=BX.out w3 hB3;clear x0 x1 x2 y0 y1 y2 y3 y4 y5 y6 y7;obtain ⟨y0,y1,y2,y3,y4,y5,y6,y7⟩:=aa_ q0;clear hw3 p0 q0;go_wp2_with fail
  go_loopw [5,18] (fun _ i wr=>∃ k:Nat,k≤m1∧i = .int .i64 k∧(∀ x ∈ s.ready.take k,at_ x = true)∧Below W2.heap.size W2 wr) (fun _ i _=>m1 - (intOf i).toNat)
  case atStart=>exact ⟨0,Nat.zero_le _,rfl,by simp,hB3⟩
  case round=>
   obtain ⟨k,hk,rfl,ha,hB⟩:=hrel;have HA:=hidI ha;have hBs:=hB.size;clear ha;by_cases hlt:k < m1
   ·have hkl:k < s.ready.length:=by rw [HM1.out];exact hlt
    obtain ⟨g,o,b,c,ha,hg,hl⟩:=(HS.out.q1.keep hB).get hkl;subst ha;have e1:=hl.cell;have HLI:=hidI hl;have HTK:=hidI (fun h1 h2=>aA_ (p:=at_) (xs:=s.ready) (k:=k) hkl h1 h2);have HNOT:=hidI (fun h2=>afg_ (p:=at_) (xs:=s.ready) (k:=k) hkl h2);obtain ⟨xs,hxs⟩:∃ xs,xs = s.ready[k]:=⟨_,rfl⟩
    rw [← hxs] at HLI e1 HTK HNOT;obtain ⟨n,hn⟩:∃ n,n = xs.length:=⟨_,rfl⟩
    rw [← hn] at e1;have HN:=hidI hn;have j1:(0:Int)≤(k:Int):=by omega
    have j2:(k:Int) < m1:=by omega
    clear hl hxs hn;go_wp2_with fail
    refine (bu_ xs b _ c _ HN.out.symm (Nat.le_trans (by rw [HN.out];exact HLI.out.le) HLI.out.cm) HLI.out.it).mono ?_;rintro e w4 ⟨rfl,hB4⟩;have k4:Below W2.heap.size W2 w4:=hB.trans (hB4.mono hBs);have s4:=k4.size;have k5:=k4.alloc s4 (.cells #[.int .i64 (bw_ xs)] 33);obtain ⟨ok,hok⟩:∃ ok,ok = at_ xs:=⟨_,rfl⟩
    have HOK:=hidI hok;unfold bw_ at k5 ⊢;rw [← hok] at k5 ⊢;clear hok hB4;cases ok with
    | true =>
      simp only [if_true] at k5 ⊢;go_wp2_with (go_at_call 47;refine (dY_ _ _ (aP_ _ _ _) (by simp)).mono ?_;rintro e w5 ⟨rfl,hB5⟩)
      go_roundw
      case rel=>exact ⟨k+1,by omega,by go_num,HTK.out HA.out HOK.out.symm,k5.trans (hB5.mono k5.size)⟩
      case measure=>simp [intOf];omega
    | false =>
      simp only [Bool.false_eq_true,if_false] at k5 ⊢;have HNO:Hid (aY_ n2 s.ready = false):=by show aY_ n2 s.ready = false;unfold aY_;rw [HNOT.out HOK.out.symm];simp
      go_wp2_with (go_at_call 47;refine (dw_ 1 _ _ (aP_ _ _ _) (by simp) (by decide)).mono ?_;rintro e w5 ⟨rfl,hB5⟩)
      exact ⟨rfl,by rw [HD.out,HNO.out];rfl,hBw.trans ((k5.trans (hB5.mono k5.size)).mono s0)⟩
   ·have hke:k = m1:=by omega
    subst hke;have HYES:Hid (aY_ n2 s.ready = true):=by
     show aY_ n2 s.ready = true;unfold aY_;rw [a0_ HM1.out (Nat.lt_irrefl _) HA.out,decide_eq_true (by rw [HM1.out];exact HME.out)];rfl
    clear hlt hk;go_wp2_with fail
    go_end0
    exact ⟨by rw [HD.out,HYES.out];rfl,hBw.trans (hB.mono s0)⟩
 ·have hmb:((m1:Int) != (n2:Int)) = true:=by simp;omega
  have HNO:Hid (aY_ n2 s.ready = false):=by show aY_ n2 s.ready = false;unfold aY_;rw [HM1.out,decide_eq_false hm];rfl
  clear hm;go_enter Tryz.func49,Tryz.ntmps49;go_wp2_with fail
  rw [← HW2.out];refine (ax_ 1 [true] _ _ (by simp) (bng_ W2 [true] HS2.out) (by simp)).mono ?_;rintro e w3 ⟨rfl,rfl⟩;exact ⟨rfl,by rw [HD.out,HNO.out];rfl,(hBw.alloc s0 _)⟩
theorem cv_.get {W:World} {a:Option Addr} {xs:List aj_} (h:cv_ W a xs) {k:Nat} (hk:k < xs.length):∃ g o,a = some ⟨g,o,none⟩∧g < W.heap.size∧W.cell? ⟨g,o+k * 2,none⟩ = some (.int .i64 xs[k].queue)∧W.cell? ⟨g,o+k * 2+1,none⟩ = some (.int .i64 xs[k].most):=by
 rcases h with h | ⟨g,o,ha,hg,h⟩
 ·rw [h] at hk;simp at hk
 ·exact ⟨g,o,ha,hg,h k hk⟩
theorem hf_ (p:ad_) (a1 a2 a3:Option Addr) (n1 c1 n2 c2 n3 c3:Nat) (s:ab_) (b1 b2 b3:Option Addr) (m1 d1 m2 d2 m3 d3:Nat) (w:World) (hs:an_ w b1 b2 b3 m1 m2 m3 s) :
 Calls Tryz.prog 50 #[.agg #[.slice a1 n1 c1,.slice a2 n2 c2,.slice a3 n3 c3],.agg #[.slice b1 m1 d1,.slice b2 m2 d2,.slice b3 m3 d3,.int .i64 s.nextSeq,.int .i64 s.nextTag,.int .i64 s.came,.int .i64 s.acked,.int .i64 s.dropped]] w fun e w'=>e = askE (if s.takers.all (aI_ n2) = true then 0 else 1)∧Below w.heap.size w w':=by
 obtain ⟨D,hD⟩:∃ D:Int,D = if s.takers.all (aI_ n2) = true then 0 else 1:=⟨_,rfl⟩
 rw [← hD];have HD:=hidI hD;clear hD;obtain ⟨W2,hW2,hBw,hs2,hbx⟩:=bZ_ w #[.slice a1 n1 c1,.slice a2 n2 c2,.slice a3 n3 c3] #[.slice b1 m1 d1,.slice b2 m2 d2,.slice b3 m3 d3,.int .i64 s.nextSeq,.int .i64 s.nextTag,.int .i64 s.came,.int .i64 s.acked,.int .i64 s.dropped];have HW2:=hidI hW2;have BX:=hidI hbx;have HS:=hidI (hs.keep hBw);have HM3:Hid (s.takers.length = m3):=hs.l3;have hx3:=hs.x3;have s0:=hBw.size;have hs2':w.heap.size+1 < W2.heap.size:=by omega
 unfold maxLen at hx3;clear hW2 hbx hs hs2;obtain ⟨p0,q0⟩:=BX.out W2 (Below.refl _ _);obtain ⟨x0,x1,x2⟩:=ag_ p0;obtain ⟨y0,y1,y2,y3,y4,y5,y6,y7⟩:=aa_ q0;clear p0 q0;go_enter Tryz.func50,Tryz.ntmps50;go_wp2_with fail
 rw [← HW2.out];go_loopw [5,9] (fun _ i wr=>∃ k:Nat,k≤m3∧i = .int .i64 k∧(∀ x ∈ s.takers.take k,aI_ n2 x = true)∧Below W2.heap.size W2 wr) (fun _ i _=>m3 - (intOf i).toNat)
 case atStart=>exact ⟨0,Nat.zero_le _,rfl,by simp,Below.refl _ _⟩
 case round=>
  obtain ⟨k,hk,rfl,ha,hB⟩:=hrel;have HA:=hidI ha;have hBs:=hB.size;clear ha x0 x1 x2 y0 y1 y2 y3 y4 y5 y6 y7;by_cases hlt:k < m3
  ·have hkl:k < s.takers.length:=by rw [HM3.out];exact hlt
   obtain ⟨g,o,ha,hg,e1,e2⟩:=(HS.out.q3.keep hB).get hkl;subst ha;have HTK:=hidI (fun h1 h2=>aA_ (p:=aI_ n2) (xs:=s.takers) (k:=k) hkl h1 h2);have HNOT:=hidI (fun h2=>afg_ (p:=aI_ n2) (xs:=s.takers) (k:=k) hkl h2);obtain ⟨x,hx⟩:∃ x,x = s.takers[k]:=⟨_,rfl⟩
   rw [← hx] at HTK HNOT e1 e2;obtain ⟨tq,tm⟩:=x;dsimp only at e1 e2;obtain ⟨p0,q0⟩:=BX.out wr hB;obtain ⟨x0,x1,x2⟩:=ag_ p0;have j1:(0:Int)≤(k:Int):=by omega
   have j2:(k:Int) < m3:=by omega
   have sk:w.heap.size < wr.heap.size:=by omega
   obtain ⟨W3,hW3⟩:∃ W3,W3 = wr.alloc (.cells #[.int .i64 tq,.int .i64 tm] 69):=⟨_,rfl⟩
   have HW3:=hidI hW3;have k3:Below W2.heap.size W2 W3:=by rw [hW3];exact hB.alloc hBs _
   have b3:W3.heap[wr.heap.size]? = some (.cells #[.int .i64 tq,.int .i64 tm] 69 (0,0)):=by rw [hW3];exact World.alloc_heap_new wr _
   have z3:wr.heap.size+1 = W3.heap.size:=by rw [hW3];simp
   have HZ3:=hidI z3;have HB3:=hidI b3;clear hx p0 q0 hW3 b3 z3;have hcase:(tq = -1)∨(tq≠-1∧tq < 0)∨(tq≠-1∧¬ tq < 0∧(n2:Int)≤tq)∨(tq≠-1∧¬ tq < 0∧¬ (n2:Int)≤tq):=by omega
   rcases hcase with q1 | ⟨q1,q2⟩ | ⟨q1,q2,q3⟩ | ⟨q1,q2,q3⟩
   ·have HBF:Hid ((decide (tq = -1) || ar_ tq n2) = true):=by show (decide (tq = -1) || ar_ tq n2) = true;rw [q1];rfl
    have q1':(tq != -1) = false:=by rw [q1];rfl
    clear q1;go_wp2_with fail
    rw [← HW3.out];refine (aF_ 1 [false] _ _ (by simp) (bng_ W3 [false] HZ3.out) (by simp)).mono ?_;rintro e w4 ⟨rfl,hw4⟩;have l4:Below W3.heap.size W3 w4:=by rw [hw4];exact (Below.refl _ _).alloc (Nat.le_refl _) _
    have k4:Below W2.heap.size W2 w4:=k3.trans (l4.mono k3.size);have s4:=k4.size;have b4:=(l4.block wr.heap.size (by have:=HZ3.out;omega)).trans HB3.out;have t0:=coc_ b4 0;have t1:=coc_ b4 1;simp at t0 t1;clear hw4 b4 l4;go_wp2_with fail
    by_cases hm1:tm < 1∨4 < tm
    ·have HNO:Hid (s.takers.all (aI_ n2) = false):=HNOT.out (by unfold aI_;dsimp only;rw [show decide (1≤tm∧tm≤4) = false from decide_eq_false (by omega)];simp);refine (ax_ 1 [decide (tm < 1),decide (4 < tm)] _ _ (by simp) (bng_ w4 _ rfl) (by simp;omega)).mono ?_;rintro e w5 ⟨rfl,hw5⟩;exact ⟨rfl,by rw [HD.out,HNO.out];rfl,by rw [hw5];exact hBw.trans ((k4.alloc s4 _).mono s0)⟩
    ·have HOK:Hid (aI_ n2 ⟨tq,tm⟩ = true):=by show aI_ n2 ⟨tq,tm⟩ = true;unfold aI_;dsimp only;rw [HBF.out,show decide (1≤tm∧tm≤4) = true from decide_eq_true (by omega)];rfl
     refine (aF_ 1 [decide (tm < 1),decide (4 < tm)] _ _ (by simp) (bng_ w4 _ rfl) (by simp;omega)).mono ?_;rintro e w5 ⟨rfl,hw5⟩;have k5:Below W2.heap.size W2 w5:=by rw [hw5];exact k4.alloc s4 _
     clear hw5;go_wp2_with fail
     go_roundw
     case rel=>exact ⟨k+1,by omega,by go_num,HTK.out HA.out HOK.out,k5⟩
     case measure=>simp [intOf];omega
   ·have HBF:Hid ((decide (tq = -1) || ar_ tq n2) = false):=by show (decide (tq = -1) || ar_ tq n2) = false;unfold ar_;simp;omega
    have q1':(tq != -1) = true:=bne_iff_ne.2 q1;go_wp2_with fail
    rw [← HW3.out];refine (ax_ 1 [true] _ _ (by simp) (bng_ W3 [true] HZ3.out) (by simp)).mono ?_;rintro e w4 ⟨rfl,hw4⟩;exact ⟨rfl,by rw [HD.out,HNOT.out (by unfold aI_;dsimp only;rw [HBF.out];rfl)];rfl,by rw [hw4];exact hBw.trans ((k3.alloc k3.size _).mono s0)⟩
   ·have HBF:Hid ((decide (tq = -1) || ar_ tq n2) = false):=by show (decide (tq = -1) || ar_ tq n2) = false;unfold ar_;simp;omega
    have q1':(tq != -1) = true:=bne_iff_ne.2 q1;go_wp2_with fail
    rw [← HW3.out];refine (ax_ 1 [true] _ _ (by simp) (bng_ W3 [true] HZ3.out) (by simp)).mono ?_;rintro e w4 ⟨rfl,hw4⟩;exact ⟨rfl,by rw [HD.out,HNOT.out (by unfold aI_;dsimp only;rw [HBF.out];rfl)];rfl,by rw [hw4];exact hBw.trans ((k3.alloc k3.size _).mono s0)⟩
   ·have HBF:Hid ((decide (tq = -1) || ar_ tq n2) = true):=by show (decide (tq = -1) || ar_ tq n2) = true;unfold ar_;simp;omega
    have q1':(tq != -1) = true:=bne_iff_ne.2 q1;go_wp2_with fail
    rw [← HW3.out];refine (aF_ 1 [false] _ _ (by simp) (bng_ W3 [false] HZ3.out) (by simp)).mono ?_;rintro e w4 ⟨rfl,hw4⟩;have l4:Below W3.heap.size W3 w4:=by rw [hw4];exact (Below.refl _ _).alloc (Nat.le_refl _) _
    have k4:Below W2.heap.size W2 w4:=k3.trans (l4.mono k3.size);have s4:=k4.size;have b4:=(l4.block wr.heap.size (by have:=HZ3.out;omega)).trans HB3.out;have t0:=coc_ b4 0;have t1:=coc_ b4 1;simp at t0 t1;clear hw4 b4 l4;go_wp2_with fail
    by_cases hm1:tm < 1∨4 < tm
    ·have HNO:Hid (s.takers.all (aI_ n2) = false):=HNOT.out (by unfold aI_;dsimp only;rw [show decide (1≤tm∧tm≤4) = false from decide_eq_false (by omega)];simp);refine (ax_ 1 [decide (tm < 1),decide (4 < tm)] _ _ (by simp) (bng_ w4 _ rfl) (by simp;omega)).mono ?_;rintro e w5 ⟨rfl,hw5⟩;exact ⟨rfl,by rw [HD.out,HNO.out];rfl,by rw [hw5];exact hBw.trans ((k4.alloc s4 _).mono s0)⟩
    ·have HOK:Hid (aI_ n2 ⟨tq,tm⟩ = true):=by show aI_ n2 ⟨tq,tm⟩ = true;unfold aI_;dsimp only;rw [HBF.out,show decide (1≤tm∧tm≤4) = true from decide_eq_true (by omega)];rfl
     refine (aF_ 1 [decide (tm < 1),decide (4 < tm)] _ _ (by simp) (bng_ w4 _ rfl) (by simp;omega)).mono ?_;rintro e w5 ⟨rfl,hw5⟩;have k5:Below W2.heap.size W2 w5:=by rw [hw5];exact k4.alloc s4 _
     clear hw5;go_wp2_with fail
     go_roundw
     case rel=>exact ⟨k+1,by omega,by go_num,HTK.out HA.out HOK.out,k5⟩
     case measure=>simp [intOf];omega
  ·have hke:k = m3:=by omega
   subst hke;have HYES:Hid (s.takers.all (aI_ n2) = true):=a0_ HM3.out (Nat.lt_irrefl _) HA.out;clear hlt hk;go_wp2_with fail
   go_end0
   exact ⟨by rw [HD.out,HYES.out];rfl,hBw.trans (hB.mono s0)⟩
def co_ (s:ab_):List Int:=[s.nextSeq,s.nextTag,s.came,s.acked,s.dropped]
theorem iU_ (s:ab_):bf_ s = (co_ s).all a2_:=by simp [bf_,co_,Bool.and_assoc]
theorem he_ (s:ab_) (b1 b2 b3:Option Addr) (m1 d1 m2 d2 m3 d3:Nat) (w:World) :
 Calls Tryz.prog 52 #[.agg #[.slice b1 m1 d1,.slice b2 m2 d2,.slice b3 m3 d3,.int .i64 s.nextSeq,.int .i64 s.nextTag,.int .i64 s.came,.int .i64 s.acked,.int .i64 s.dropped]] w fun e w'=>e = askE (if bf_ s = true then 0 else 1)∧Below w.heap.size w w':=by
 rw [iU_];obtain ⟨D,hD⟩:∃ D:Int,D = if (co_ s).all a2_ = true then 0 else 1:=⟨_,rfl⟩
 rw [← hD];have HD:=hidI hD;clear hD;obtain ⟨W1,hW1,hBw,hs1,hbx⟩:=du_ w #[.slice b1 m1 d1,.slice b2 m2 d2,.slice b3 m3 d3,.int .i64 s.nextSeq,.int .i64 s.nextTag,.int .i64 s.came,.int .i64 s.acked,.int .i64 s.dropped];have HW1:=hidI hW1;have HS1:Hid (w.heap.size+1 = W1.heap.size):=hs1.symm;have s0:=hBw.size;obtain ⟨y0,y1,y2,y3,y4,y5,y6,y7⟩:=aa_ (hbx W1 (Below.refl _ _));obtain ⟨W2,hW2⟩:∃ W2,W2 = W1.alloc (.cells #[.int .i64 s.nextSeq,.int .i64 s.nextTag,.int .i64 s.came,.int .i64 s.acked,.int .i64 s.dropped] 3):=⟨_,rfl⟩
 have hB2:Below W1.heap.size W1 W2:=by rw [hW2];exact (Below.refl _ _).alloc (Nat.le_refl _) _
 have hb2:W2.heap[W1.heap.size]? = some (.cells #[.int .i64 s.nextSeq,.int .i64 s.nextTag,.int .i64 s.came,.int .i64 s.acked,.int .i64 s.dropped] 3 (0,0)):=by rw [hW2];exact World.alloc_heap_new W1 _
 have HC:Hid (∀ W,Below W2.heap.size W2 W→∀ k (hk:k < 5),W.cell? ⟨w.heap.size+1,k,none⟩ = some (.int .i64 ((co_ s)[k]'(by simpa [co_] using hk)))):=fun W hW k hk=>by
  rw [HS1.out];have:=(hW.block _ (lth_ hb2)).trans hb2;match k,hk with
  | 0,_=>exact coc_ this 0
  | 1,_=>exact coc_ this 1
  | 2,_=>exact coc_ this 2
  | 3,_=>exact coc_ this 3
  | 4,_=>exact coc_ this 4
 have HW2:=hidI hW2;have k02:Below w.heap.size w W2:=hBw.trans (hB2.mono s0);have s02:=k02.size;have HLL:Hid ((co_ s).length = 5):=rfl;clear hW1 hbx hs1 hW2 hB2 hb2;go_enter Tryz.func52,Tryz.ntmps52;go_wp2_with fail
 rw [← HW1.out,← HW2.out];go_loopw [3,16] (fun _ i wr=>∃ k:Nat,k≤5∧i = .int .i64 k∧(∀ x ∈ (co_ s).take k,a2_ x = true)∧Below W2.heap.size W2 wr) (fun _ i _=>5 - (intOf i).toNat)
 case atStart=>exact ⟨0,Nat.zero_le _,rfl,by simp,Below.refl _ _⟩
 case round=>
  obtain ⟨k,hk,rfl,ha,hB⟩:=hrel;have HA:=hidI ha;have hBs:=hB.size;clear ha;by_cases hlt:k < 5
  ·have hkl:k < (co_ s).length:=hlt;have e1:=HC.out wr hB k hlt;have HTK:=hidI (fun h1 h2=>aA_ (p:=a2_) (xs:=co_ s) (k:=k) hkl h1 h2);have HNOT:=hidI (fun h2=>afg_ (p:=a2_) (xs:=co_ s) (k:=k) hkl h2);obtain ⟨x,hx⟩:∃ x,x = (co_ s)[k]:=⟨_,rfl⟩
   rw [← hx] at HTK HNOT e1;have j1:(0:Int)≤(k:Int):=by omega
   have j2:(k:Int) < 5:=by omega
   clear hx;go_wp2_with fail
   by_cases hm1:x < 0∨1048576 < x
   ·have HNO:Hid ((co_ s).all a2_ = false):=HNOT.out (by unfold a2_;simp;omega);refine (ax_ 1 [decide (x < 0),decide (1048576 < x)] _ _ (by simp) (bng_ wr _ rfl) (by simp;omega)).mono ?_;rintro e w5 ⟨rfl,hw5⟩;exact ⟨rfl,by rw [HD.out,HNO.out];rfl,by rw [hw5];exact k02.trans ((hB.alloc hBs _).mono s02)⟩
   ·have HOK:Hid (a2_ x = true):=by show a2_ x = true;unfold a2_;simp;omega
    refine (aF_ 1 [decide (x < 0),decide (1048576 < x)] _ _ (by simp) (bng_ wr _ rfl) (by simp;omega)).mono ?_;rintro e w5 ⟨rfl,hw5⟩;have k5:Below W2.heap.size W2 w5:=by rw [hw5];exact hB.alloc hBs _
    clear hw5;go_wp2_with fail
    go_roundw
    case rel=>exact ⟨k+1,by omega,by go_num,HTK.out HA.out HOK.out,k5⟩
    case measure=>simp [intOf];omega
  ·have hke:k = 5:=by omega
   subst hke;have HYES:Hid ((co_ s).all a2_ = true):=a0_ HLL.out (Nat.lt_irrefl _) HA.out;go_wp2_with fail
   go_end0
   exact ⟨by rw [HD.out,HYES.out];rfl,k02.trans (hB.mono s02)⟩
theorem pkp_ {W W':World} {b:Nat} {cs:Array Value} {t:TypeId} (h:W.heap[b]? = some (.cells cs t (0,0))) (hB:Below W.heap.size W W'):W'.heap[b]? = some (.cells cs t (0,0)):=(hB.block b (lth_ h)).trans h
theorem eg_.get {W:World} {a:Option Addr} {xs:List OutD} (h:eg_ W a xs) {k:Nat} (hk:k < xs.length):∃ g o,a = some ⟨g,o,none⟩∧g < W.heap.size∧W.cell? ⟨g,o+k * 8,none⟩ = some (.int .i64 xs[k].tag)∧W.cell? ⟨g,o+k * 8+1,none⟩ = some (.int .i64 xs[k].taker)∧W.cell? ⟨g,o+k * 8+2,none⟩ = some (.int .i64 xs[k].queue)∧aR_ W g (o+k * 8+3) xs[k].item:=by
 rcases h with h | ⟨g,o,ha,hg,h⟩
 ·rw [h] at hk;simp at hk
 ·exact ⟨g,o,ha,hg,h k hk⟩
theorem kB_ (x:ae_):at_ [x] = am_ x:=by
 unfold at_ aJ_ aJ_;have h:am_ x = true→-1 < x.seq:=fun h=>by unfold am_ bN_ at h;simp at h;omega
 cases hi:am_ x with
 | false=>simp
 | true=>simp [h hi]
theorem lB_ (w:World) (x:ae_):ai_ (w.alloc (.cells #[.int .i64 x.seq,.string x.key,.string x.body,.bool x.again,.int .i64 x.deaths] 48)) (some ⟨w.heap.size,0,none⟩) [x]:=by
 have h:=World.alloc_heap_new w (.cells #[.int .i64 x.seq,.string x.key,.string x.body,.bool x.again,.int .i64 x.deaths] 48);refine .inr ⟨w.heap.size,0,rfl,by simp,fun i hi=>?_⟩;have e:i = 0:=by simp at hi;omega
 subst e;exact ⟨coc_ h 0,coc_ h 1,coc_ h 2,coc_ h 3,coc_ h 4⟩
theorem iL_ (s:ab_) (b1 b2 b3:Option Addr) (m1 d1 m2 d2 m3 d3:Nat) (w:World) (hs:an_ w b1 b2 b3 m1 m2 m3 s) :
 Calls Tryz.prog 51 #[.agg #[.slice b1 m1 d1,.slice b2 m2 d2,.slice b3 m3 d3,.int .i64 s.nextSeq,.int .i64 s.nextTag,.int .i64 s.came,.int .i64 s.acked,.int .i64 s.dropped]] w fun e w'=>e = askE (if ao_ s.takers s.nextTag (-1) s.outs = true then 0 else 1)∧Below w.heap.size w w':=by
 obtain ⟨D,hD⟩:∃ D:Int,D = if ao_ s.takers s.nextTag (-1) s.outs = true then 0 else 1:=⟨_,rfl⟩
 rw [← hD];have HD:=hidI hD;clear hD;obtain ⟨W1,hW1,hBw,hs1,hbx⟩:=du_ w #[.slice b1 m1 d1,.slice b2 m2 d2,.slice b3 m3 d3,.int .i64 s.nextSeq,.int .i64 s.nextTag,.int .i64 s.came,.int .i64 s.acked,.int .i64 s.dropped];have HW1:=hidI hW1;have BX:=hidI hbx;have HS:=hidI (hs.keep hBw);have HM2:Hid (s.outs.length = m2):=hs.l2;have HM3:Hid (s.takers.length = m3):=hs.l3;have hx2:=hs.x2;have s0:=hBw.size;have hs1':w.heap.size < W1.heap.size:=by omega
 obtain ⟨y0,y1,y2,y3,y4,y5,y6,y7⟩:=aa_ (hbx W1 (Below.refl _ _));clear hW1 hbx hs1 hs;go_enter Tryz.func51,Tryz.ntmps51;go_wp2_with fail
 rw [← HW1.out];go_loopw [2,4,5,9] (fun la _ _ i wr=>∃ (k:Nat) (l:Int),k≤m2∧i = .int .i64 k∧la = .int .i64 l∧ao_ s.takers s.nextTag (-1) s.outs = ao_ s.takers s.nextTag l (s.outs.drop k)∧Below W1.heap.size W1 wr) (fun _ _ _ i _=>m2 - (intOf i).toNat)
 case atStart=>exact ⟨0,-1,Nat.zero_le _,rfl,rfl,by simp,Below.refl _ _⟩
 case round=>
  obtain ⟨k,l,hk,rfl,rfl,ha,hB⟩:=hrel;have HA:=hidI ha;have hBs:=hB.size;clear ha y0 y1 y2 y3 y4 y5 y6 y7;by_cases hlt:k < m2
  ·have hkl:k < s.outs.length:=by rw [HM2.out];exact hlt
   obtain ⟨g,o,ha,hg,e1,e2,e3,e4⟩:=(HS.out.q2.keep hB).get hkl;have hdr:s.outs.drop k = s.outs[k] :: s.outs.drop (k+1):=List.drop_eq_getElem_cons hkl;subst ha;obtain ⟨x,hx⟩:∃ x,x = s.outs[k]:=⟨_,rfl⟩
   rw [← hx] at e1 e2 e3 e4 hdr;have HDR:=hidI hdr;have HSTEP:Hid (ao_ s.takers s.nextTag (-1) s.outs = (cI_ s.takers s.nextTag l x && ao_ s.takers s.nextTag x.tag (s.outs.drop (k+1)))):=by
    show ao_ s.takers s.nextTag (-1) s.outs = _;rw [HA.out,HDR.out];rfl
   obtain ⟨tg,tk,qu,it⟩:=x;obtain ⟨sq,ky,bo,ag,de⟩:=it;dsimp only at e1 e2 e3 e4 HSTEP;obtain ⟨f0,f1,f2,f3,f4⟩:=e4;dsimp only at f0 f1 f2 f3 f4;have j1:(0:Int)≤(k:Int):=by omega
   have j2:(k:Int) < m2:=by omega
   have sk:w.heap.size < wr.heap.size:=by omega
   obtain ⟨y0,y1,y2,y3,y4,y5,y6,y7⟩:=aa_ (BX.out wr hB);obtain ⟨W3,hW3⟩:∃ W3,W3 = wr.alloc (.cells #[.int .i64 tg,.int .i64 tk,.int .i64 qu,.int .i64 sq,.string ky,.string bo,.bool ag,.int .i64 de] 67):=⟨_,rfl⟩
   have HW3:=hidI hW3;have k3:Below W1.heap.size W1 W3:=by rw [hW3];exact hB.alloc hBs _
   have b3':W3.heap[wr.heap.size]? = some (.cells #[.int .i64 tg,.int .i64 tk,.int .i64 qu,.int .i64 sq,.string ky,.string bo,.bool ag,.int .i64 de] 67 (0,0)):=by rw [hW3];exact World.alloc_heap_new wr _
   have HZ3:Hid (wr.heap.size+1 = W3.heap.size):=by show wr.heap.size+1 = W3.heap.size;rw [hW3];simp
   have HB3:=hidI b3';clear hx hdr hW3 b3';go_wp2_with fail
   rw [← HW3.out];by_cases hc1:tg≤l∨s.nextTag≤tg∨tk < 0∨(m3:Int)≤tk
   ·have HNO:Hid (ao_ s.takers s.nextTag (-1) s.outs = false):=by
     show ao_ s.takers s.nextTag (-1) s.outs = false;rw [HSTEP.out];unfold cI_ ar_;rw [HM3.out];dsimp only;have:(decide (l < tg) && decide (tg < s.nextTag) && decide (0≤tk∧tk < (m3:Int))) = false:=by simp;omega
     rw [this];rfl
    refine (ax_ 1 [decide (tg≤l),decide (s.nextTag≤tg),decide (tk < 0),decide ((m3:Int)≤tk)] _ _ (by simp) (bng_ W3 _ HZ3.out) (by simp;omega)).mono ?_;rintro e w4 ⟨rfl,hw4⟩;exact ⟨rfl,by rw [HD.out,HNO.out];rfl,by rw [hw4];exact hBw.trans ((k3.alloc k3.size _).mono s0)⟩
   ·refine (aF_ 1 [decide (tg≤l),decide (s.nextTag≤tg),decide (tk < 0),decide ((m3:Int)≤tk)] _ _ (by simp) (bng_ W3 _ HZ3.out) (by simp;omega)).mono ?_;rintro e w4 ⟨rfl,hw4⟩;have l4:Below W3.heap.size W3 w4:=by rw [hw4];exact (Below.refl _ _).alloc (Nat.le_refl _) _
    have k4:Below W1.heap.size W1 w4:=k3.trans (l4.mono k3.size);have s4:=k4.size;have b4:=(l4.block wr.heap.size (by have:=HZ3.out;omega)).trans HB3.out;have HB4:=hidI b4;have g0:=coc_ b4 0;have g1:=coc_ b4 1;have g2:=coc_ b4 2;simp at g0 g1 g2;have hw4s:wr.heap.size < w4.heap.size:=lth_ b4;obtain ⟨tn,htn⟩:=Int.eq_ofNat_of_zero_le (show 0≤tk by omega);subst htn;have htl:tn < s.takers.length:=by rw [HM3.out];omega
    obtain ⟨gt,ot,hat,hgt,u1,u2⟩:=(HS.out.q3.keep k4).get htl;have HOUT:Hid (cI_ s.takers s.nextTag l ⟨tg,(tn:Int),qu,⟨sq,ky,bo,ag,de⟩⟩ = (decide (s.takers[tn].queue≠-1) && decide (s.takers[tn].queue = qu) && am_ ⟨sq,ky,bo,ag,de⟩)):=by
     show cI_ s.takers s.nextTag l ⟨tg,(tn:Int),qu,⟨sq,ky,bo,ag,de⟩⟩ = _;unfold cI_ ar_;rw [HM3.out];dsimp only;rw [show decide (l < tg) = true from decide_eq_true (by omega),show decide (tg < s.nextTag) = true from decide_eq_true (by omega),show decide (0≤(tn:Int)∧(tn:Int) < (m3:Int)) = true from decide_eq_true (by omega),Int.toNat_natCast,List.getElem?_eq_getElem htl];simp
    obtain ⟨t,ht⟩:∃ t,t = s.takers[tn]:=⟨_,rfl⟩
    rw [← ht] at u1 u2 HOUT;obtain ⟨tq,tm⟩:=t;dsimp only at u1 u2 HOUT;subst hat;obtain ⟨z0,z1,z2,z3,z4,z5,z6,z7⟩:=aa_ (BX.out w4 k4);have i1:(0:Int)≤(tn:Int):=by omega
    have i2:(tn:Int) < m3:=by omega
    obtain ⟨W5,hW5⟩:∃ W5,W5 = w4.alloc (.cells #[.int .i64 tq,.int .i64 tm] 69):=⟨_,rfl⟩
    have HW5:=hidI hW5;have l5:Below w4.heap.size w4 W5:=by rw [hW5];exact (Below.refl _ _).alloc (Nat.le_refl _) _
    have k5:Below W1.heap.size W1 W5:=k4.trans (l5.mono s4);have HZ5:Hid (w4.heap.size+1 = W5.heap.size):=by show w4.heap.size+1 = W5.heap.size;rw [hW5];simp
    have HB5:=hidI ((l5.block wr.heap.size hw4s).trans HB4.out);clear hW5 ht b4 hw4 l4 y0 y1 y2 y3 y4 y5 y6 y7 e1 e2 e3 f0 f1 f2 f3 f4 htl hc1;go_wp2_with fail
    rw [← HW5.out];by_cases hc2:tq = -1∨tq≠qu
    ·have HNO:Hid (ao_ s.takers s.nextTag (-1) s.outs = false):=by
      show ao_ s.takers s.nextTag (-1) s.outs = false;rw [HSTEP.out,HOUT.out];have:(decide (tq≠-1) && decide (tq = qu)) = false:=by simp;omega
      rw [this];rfl
     refine (ax_ 1 [(tq == -1),(tq != qu)] _ _ (by simp) (bng_ W5 _ HZ5.out) (by simp;omega)).mono ?_;rintro e w6 ⟨rfl,hw6⟩;exact ⟨rfl,by rw [HD.out,HNO.out];rfl,by rw [hw6];exact hBw.trans ((k5.alloc k5.size _).mono s0)⟩
    ·refine (aF_ 1 [(tq == -1),(tq != qu)] _ _ (by simp) (bng_ W5 _ HZ5.out) (by simp;omega)).mono ?_;rintro e w6 ⟨rfl,hw6⟩;have l6:Below W5.heap.size W5 w6:=by rw [hw6];exact (Below.refl _ _).alloc (Nat.le_refl _) _
     have k6:Below W1.heap.size W1 w6:=k5.trans (l6.mono k5.size);have s6:=k6.size;have b6:=(l6.block wr.heap.size (lth_ HB5.out)).trans HB5.out;have HB6:=hidI b6;have HO2:Hid (ao_ s.takers s.nextTag (-1) s.outs = (am_ ⟨sq,ky,bo,ag,de⟩ && ao_ s.takers s.nextTag tg (s.outs.drop (k+1)))):=by
      show ao_ s.takers s.nextTag (-1) s.outs = _;rw [HSTEP.out,HOUT.out];have:(decide (tq≠-1) && decide (tq = qu)) = true:=by simp;omega
      rw [this];rfl
     have g3:=coc_ b6 3;have g4:=coc_ b6 4;have g5:=coc_ b6 5;have g6:=coc_ b6 6;have g7:=coc_ b6 7;simp at g3 g4 g5 g6 g7;obtain ⟨W7,hW7⟩:∃ W7,W7 = w6.alloc (.cells #[.int .i64 sq,.string ky,.string bo,.bool ag,.int .i64 de] 48):=⟨_,rfl⟩
     have HW7:=hidI hW7;have l7:Below w6.heap.size w6 W7:=by rw [hW7];exact (Below.refl _ _).alloc (Nat.le_refl _) _
     have k7:Below W1.heap.size W1 W7:=k6.trans (l7.mono s6);have HI7:Hid (ai_ W7 (some ⟨w6.heap.size,0,none⟩) [⟨sq,ky,bo,ag,de⟩]):=by show ai_ W7 _ _;rw [hW7];exact lB_ w6 ⟨sq,ky,bo,ag,de⟩
     have HB7:=hidI (pkp_ HB6.out l7);clear hW7 hw6 b6 g0 g1 g2 z0 z1 z2 z3 z4 z5 z6 z7 u1 u2 hc2;go_wp2_with fail
     rw [← HW7.out];refine (bu_ [⟨sq,ky,bo,ag,de⟩] _ _ _ _ rfl (by unfold maxLen;simp) HI7.out).mono ?_;rintro e w8 ⟨rfl,hB8⟩;have k8:Below W1.heap.size W1 w8:=k7.trans (hB8.mono k7.size);have s8:=k8.size;have HB8:=hidI (pkp_ HB7.out hB8);have k9:=k8.alloc s8 (.cells #[.int .i64 (bw_ [⟨sq,ky,bo,ag,de⟩])] 33);obtain ⟨ok,hok⟩:∃ ok,ok = am_ ⟨sq,ky,bo,ag,de⟩:=⟨_,rfl⟩
     rw [← hok] at HO2;unfold bw_ at k9 ⊢;rw [kB_,← hok] at k9 ⊢;clear hok hB8 g3 g4 g5 g6 g7;cases ok with
     | true =>
       simp only [if_true] at k9 ⊢;go_wp2_with (go_at_call 47;refine (dY_ _ _ (aP_ _ _ _) (by simp)).mono ?_;rintro e w9 ⟨rfl,hB9⟩;have b9:=pkp_ (pkp_ HB8.out ((Below.refl _ _).alloc (Nat.le_refl _) _)) hB9;have g0:=coc_ b9 0;simp at g0)
       go_roundw
       case rel=>exact ⟨k+1,tg,by omega,by go_num,rfl,by rw [HO2.out];rfl,k9.trans (hB9.mono k9.size)⟩
       case measure=>simp [intOf];omega
     | false =>
       simp only [Bool.false_eq_true,if_false] at k9 ⊢;go_wp2_with (go_at_call 47;refine (dw_ 1 _ _ (aP_ _ _ _) (by simp) (by decide)).mono ?_;rintro e w9 ⟨rfl,hB9⟩)
       exact ⟨rfl,by rw [HD.out,HO2.out];rfl,hBw.trans ((k9.trans (hB9.mono k9.size)).mono s0)⟩
  ·have hke:k = m2:=by omega
   subst hke;have HYES:Hid (ao_ s.takers s.nextTag (-1) s.outs = true):=by
    show ao_ s.takers s.nextTag (-1) s.outs = true;rw [HA.out,List.drop_eq_nil_of_le (by rw [HM2.out];exact Nat.le_refl _)];rfl
   clear hlt hk;go_wp2_with fail
   go_end0
   exact ⟨by rw [HD.out,HYES.out];rfl,hBw.trans (hB.mono s0)⟩
end Go.Proofs.YtlbnkpicnokgoaaGreat
namespace Go.Proofs.YtlbnkpicnokgoaaGreat
open Go.RowKit Go.Maps
set_option linter.unusedVariables false
set_option maxRecDepth 100000
set_option maxHeartbeats 1000000
theorem Tryz.infoNum:(Tryz.prog.info? 3).map (fun i=>(i.zero,i.size,i.bytes)) = some (some (.int .i64 0),1,8):=by kernel_rfl
def fi_ (W:World) (a:Option Addr) (zs:List Int):Prop:=zs = []∨∃ g,a = some ⟨g,0,none⟩∧g < W.heap.size∧∀ i (h:i < zs.length),W.cell? ⟨g,i,none⟩ = some (.int .i64 zs[i])
theorem fi_.keep {W W':World} {a:Option Addr} {zs:List Int} (h:fi_ W a zs) (hB:Below W.heap.size W W'):fi_ W' a zs:=by
 rcases h with h | ⟨g,ha,hg,h⟩
 ·exact .inl h
 ·exact .inr ⟨g,ha,Nat.lt_of_lt_of_le hg hB.size,fun i hi=>(hB.cell (p:=⟨g,i,none⟩) hg).trans (h i hi)⟩
theorem jV_ {W:World} {base:Nat} {u:Value} {zs:List Int} {n:Nat} (h:W.ownsRow base 3 1 u n (zs.map (Value.int .i64))):∃ a c,u = .slice a zs.length c∧fi_ W a zs:=by
 have hn:n = zs.length:=by have:=h.1;simp at this;omega
 subst hn;rcases h.2 with ⟨rfl,h0⟩ | ⟨g,cap,cur,rfl,hb,hg,h1,h2,_⟩
 ·have e:=List.length_eq_zero_iff.1 h0;exact ⟨none,0,by rw [h0],.inl e⟩
 ·refine ⟨_,cap,rfl,.inr ⟨g,rfl,lth_ hg,fun i hi=>?_⟩⟩;have:=h.cellAt i (by omega);rw [this,List.getElem?_map,List.getElem?_eq_getElem hi];rfl
theorem kO_ {W W':World} {a:Option Addr} {zs:List Int} {row:Option Nat} (h:fi_ W a zs) (hg:W.grownBy W' row) (hr:∀ g,a = some ⟨g,0,none⟩→¬ some g = row):fi_ W' a zs:=by
 rcases h with h | ⟨g,ha,hlt,h⟩
 ·exact .inl h
 ·have hb:=hg.block g hlt (hr g ha);refine .inr ⟨g,ha,Nat.lt_of_lt_of_le hlt hg.size,fun i hi=>?_⟩;rw [← h i hi];unfold World.cell?;simp only [hb]
theorem fB_ (w:World) (v:Value) (t:TypeId):∀ j u,([v]:List Value)[j]? = some u→(w.alloc (.cells #[v] t)).cell? ((⟨w.heap.size,0,none⟩:Addr).add j) = some u:=by
 intro j u hj;match j,hj with
 | 0, hj =>
   simp at hj;subst hj;have:(⟨w.heap.size,0,none⟩:Addr).add 0 = ⟨w.heap.size,0,none⟩:=by unfold Addr.add;split <;> simp_all
   rw [this];exact aP_ w _ t
 | j+1,hj=>simp at hj
theorem hV_ (w:World) (A:Obj) (v:Value) (t:TypeId):∀ j u,([v]:List Value)[j]? = some u→((w.alloc A).alloc (.cells #[v] t)).cell? ((⟨w.heap.size+1,0,none⟩:Addr).add j) = some u:=by
 have:=fB_ (w.alloc A) v t;rw [World.size_alloc] at this;exact this
theorem j4_ (s:ab_) (b1 b2 b3:Option Addr) (m1 d1 m2 d2 m3 d3:Nat) (w:World) (hs:an_ w b1 b2 b3 m1 m2 m3 s) (hb:(as_ s).length≤100000000) :
 Calls Tryz.prog 95 #[.agg #[.slice b1 m1 d1,.slice b2 m2 d2,.slice b3 m3 d3,.int .i64 s.nextSeq,.int .i64 s.nextTag,.int .i64 s.came,.int .i64 s.acked,.int .i64 s.dropped]] w fun e w'=>∃ a c,e = .returned (.slice a (as_ s).length c)∧fi_ w' a (as_ s)∧(∀ g,a = some ⟨g,0,none⟩→w.heap.size≤g)∧Below w.heap.size w w':=by
 obtain ⟨i3,hi3,hy0,hy1,hy2⟩:=info_parts Tryz.infoNum;obtain ⟨W1,hW1,hBw,hs1,hbx⟩:=du_ w #[.slice b1 m1 d1,.slice b2 m2 d2,.slice b3 m3 d3,.int .i64 s.nextSeq,.int .i64 s.nextTag,.int .i64 s.came,.int .i64 s.acked,.int .i64 s.dropped];have HW1:=hidI hW1;have BX:=hidI hbx;have HS:=hidI (hs.keep hBw);have HM1:Hid (s.ready.length = m1):=hs.l1;have HM2:Hid (s.outs.length = m2):=hs.l2;have hx1:=hs.x1;have hx2:=hs.x2;have HBD:=hidI hb;unfold maxLen at hx1;have s0:=hBw.size;have hs1':w.heap.size < W1.heap.size:=by omega
 obtain ⟨y0,y1,y2,y3,y4,y5,y6,y7⟩:=aa_ (hbx W1 (Below.refl _ _));obtain ⟨Q,hQ⟩:∃ Q,Q = as_ s:=⟨_,rfl⟩
 obtain ⟨O,hO⟩:∃ O,O = s.outs.map (fun o=>o.item.seq):=⟨_,rfl⟩
 have HQO:Hid (Q = s.ready.flatMap (fun l=>l.map ae_.seq) ++ O):=by show Q = _;rw [hQ,hO];rfl
 rw [← hQ] at HBD ⊢;have HO:=hidI hO;clear hW1 hbx hs1 hs hb hQ hO;go_enter Tryz.func95,Tryz.ntmps95;go_wp2_with fail
 rw [← HW1.out];go_loopw [3,5,7,13,19] (fun u _ _ i _ wr=>∃ (k:Nat) (L:List Int),k≤m1∧i = .int .i64 k∧wr.ownsRow W1.heap.size 3 1 u L.length (L.map (Value.int .i64))∧L ++ ((s.ready.drop k).flatMap (fun l=>l.map ae_.seq) ++ O) = Q∧Below W1.heap.size W1 wr) (fun _ _ _ i _ _=>m1 - (intOf i).toNat)
 case atStart=>exact ⟨0,[],Nat.zero_le _,rfl,World.ownsRow_nil _ _ _ _,by rw [HQO.out];rfl,Below.refl _ _⟩
 case round=>
  obtain ⟨k,L,hk,rfl,hrow,hL,hB⟩:=hrel;have HL:=hidI hL;have hBs:=hB.size;clear hL y0 y1 y2 y3 y4 y5 y6 y7;obtain ⟨y0,y1,y2,y3,y4,y5,y6,y7⟩:=aa_ (BX.out wr hB);by_cases hlt:k < m1
  ·have HLT:=hidI hlt;have hkl:k < s.ready.length:=by rw [HM1.out];exact hlt
   obtain ⟨g,o,b,c,ha,hg,hl⟩:=HS.out.q1.get hkl;have hdr:s.ready.drop k = s.ready[k] :: s.ready.drop (k+1):=List.drop_eq_getElem_cons hkl;subst ha;have e1:=(hl.keep hg hB).cell;have HLI:=hidI hl;obtain ⟨xs,hxs⟩:∃ xs,xs = s.ready[k]:=⟨_,rfl⟩
   rw [← hxs] at HLI e1 hdr;obtain ⟨R,hR⟩:∃ R,R = (s.ready.drop (k+1)).flatMap (fun l=>l.map ae_.seq) ++ O:=⟨_,rfl⟩
   have HL2:Hid (L ++ (xs.map ae_.seq ++ R) = Q):=by
    show L ++ (xs.map ae_.seq ++ R) = Q;rw [← HL.out,hdr,hR,List.flatMap_cons,List.append_assoc]
   have HR:=hidI hR;obtain ⟨n,hn⟩:∃ n,n = xs.length:=⟨_,rfl⟩
   rw [← hn] at e1;have HN:=hidI hn;have hnm:n≤9223372036854775807:=by have h1:=HLI.out.le;have h2:=HLI.out.cm;unfold maxLen at h2;omega
   have j1:(0:Int)≤(k:Int):=by omega
   have j2:(k:Int) < m1:=by omega
   clear hl hxs hn hdr hR;go_wp2_with fail
   go_loopw [3,7,19] (fun u _ i wr=>∃ (j:Nat) (L:List Int),j≤n∧i = .int .i64 j∧wr.ownsRow W1.heap.size 3 1 u L.length (L.map (Value.int .i64))∧L ++ ((xs.drop j).map ae_.seq ++ R) = Q∧Below W1.heap.size W1 wr) (fun _ _ i _=>n - (intOf i).toNat)
   case atStart=>exact ⟨0,L,Nat.zero_le _,rfl,hrow,HL2.out,hB⟩
   case round=>
    clear HL2 HL hrow;obtain ⟨j,L,hj,rfl,hrow,hL,hBj⟩:=hrel;have HL:=hidI hL;have s7:=hBj.size;clear hL;by_cases hjl:j < n
    ·have HJL:=hidI hjl;have hjx:j < xs.length:=by rw [← HN.out];exact hjl
     have hdr:xs.drop j = xs[j] :: xs.drop (j+1):=List.drop_eq_getElem_cons hjx;rcases HLI.out.it.keep hBj with h | ⟨gx,ox,hax,hgx,hxx⟩
     ·rw [h] at hjx;simp at hjx
     obtain ⟨f0,f1,f2,f3,f4⟩:=hxx j hjx;subst hax;obtain ⟨x,hx⟩:∃ x,x = xs[j]:=⟨_,rfl⟩
     rw [← hx] at f0 f1 f2 f3 f4 hdr;obtain ⟨sq,ky,bo,ag,de⟩:=x;dsimp only at f0 f1 f2 f3 f4;have HL3:Hid ((L ++ [sq]) ++ ((xs.drop (j+1)).map ae_.seq ++ R) = Q):=by
      show (L ++ [sq]) ++ ((xs.drop (j+1)).map ae_.seq ++ R) = Q;rw [← HL.out,hdr];simp
     have hLn:L.length+1≤100000000:=by
      have:=HBD.out;rw [← HL3.out] at this;simp at this;omega
     obtain ⟨m,hm⟩:∃ m,m = L.length:=⟨_,rfl⟩
     rw [← hm] at hrow hLn;have HM:=hidI hm;have i1:(0:Int)≤(j:Int):=by omega
     have i2:(j:Int) < n:=by omega
     clear hx hdr hxx hm;go_wp2_with (at_builtin;refine wpList_append_own _ rfl _ _ 32 rfl W1.heap.size 3 i3 (.int .i64 0) 1 8 Tryz.underlying32 hi3 hy0 hy1 hy2 rfl (by decide) _ _ _ rfl ((hrow.alloc _).alloc _) ⟨wr.heap.size+1,0,none⟩ 1 1 [.int .i64 sq] rfl rfl (hV_ _ _ _ _) (by simp [Value.oneCell']) (by unfold maxLen;omega) (by omega) (by simp;omega) ?_;intro v' w9 hown' hgrow _;have hB9:Below W1.heap.size W1 w9:=((hBj.alloc s7 _).alloc (by simp;omega) _).grown hgrow (by simp;omega) (cg_ hrow))
     go_roundw
     case rel=>exact ⟨j+1,L ++ [sq],HJL.out,by have:=HJL.out;go_num,by rw [List.length_append,List.map_append,← HM.out];exact hown',HL3.out,hB9⟩
     case measure=>have:=HJL.out;simp [intOf];omega
    ·have hje:j = n:=by omega
     subst hje;have HL3:Hid (L ++ ((s.ready.drop (k+1)).flatMap (fun l=>l.map ae_.seq) ++ O) = Q):=by
      show L ++ _ = Q;have:=HL.out;rw [List.drop_eq_nil_of_le (by rw [← HN.out];exact Nat.le_refl _),HR.out] at this;exact this
     clear hjl hj;go_wp2_with fail
     go_roundw
     case rel=>exact ⟨k+1,L,HLT.out,by have:=HLT.out;go_num,hrow,HL3.out,hBj⟩
     case measure=>have:=HLT.out;simp [intOf];omega
  ·have hke:k = m1:=by omega
   subst hke;have HL3:Hid (L ++ O = Q):=by
    show L ++ O = Q;have:=HL.out;rw [List.drop_eq_nil_of_le (by rw [HM1.out];exact Nat.le_refl _)] at this;exact this
   clear hlt hk HL;go_wp2_with fail
   go_loopw [3,9,33] (fun u _ i wr=>∃ (j:Nat) (L:List Int),j≤m2∧i = .int .i64 j∧wr.ownsRow W1.heap.size 3 1 u L.length (L.map (Value.int .i64))∧L ++ (s.outs.drop j).map (fun o=>o.item.seq) = Q∧Below W1.heap.size W1 wr) (fun _ _ i _=>m2 - (intOf i).toNat)
   case atStart=>exact ⟨0,L,Nat.zero_le _,rfl,hrow,by rw [← HL3.out,HO.out];rfl,hB⟩
   case round=>
    clear HL3 hrow y0 y1 y2 y3 y4 y5 y6 y7;obtain ⟨j,L,hj,rfl,hrow,hL,hBj⟩:=hrel;have HL:=hidI hL;have s7:=hBj.size;clear hL;by_cases hjl:j < m2
    ·have HJL:=hidI hjl;have hjx:j < s.outs.length:=by rw [HM2.out];exact hjl
     have hdr:s.outs.drop j = s.outs[j] :: s.outs.drop (j+1):=List.drop_eq_getElem_cons hjx;obtain ⟨gx,ox,hax,hgx,e1,e2,e3,e4⟩:=(HS.out.q2.keep hBj).get hjx;subst hax;obtain ⟨x,hx⟩:∃ x,x = s.outs[j]:=⟨_,rfl⟩
     rw [← hx] at e1 e2 e3 e4 hdr;obtain ⟨tg,tk,qu,it⟩:=x;obtain ⟨sq,ky,bo,ag,de⟩:=it;obtain ⟨f0,f1,f2,f3,f4⟩:=e4;dsimp only at e1 e2 e3 f0 f1 f2 f3 f4;have HL3:Hid ((L ++ [sq]) ++ (s.outs.drop (j+1)).map (fun o=>o.item.seq) = Q):=by
      show (L ++ [sq]) ++ _ = Q;rw [← HL.out,hdr];simp
     have hLn:L.length+1≤100000000:=by
      have:=HBD.out;rw [← HL3.out] at this;simp at this;omega
     obtain ⟨m,hm⟩:∃ m,m = L.length:=⟨_,rfl⟩
     rw [← hm] at hrow hLn;have HM:=hidI hm;have i1:(0:Int)≤(j:Int):=by omega
     have i2:(j:Int) < m2:=by omega
     clear hx hdr hm;go_wp2_with (at_builtin;refine wpList_append_own _ rfl _ _ 32 rfl W1.heap.size 3 i3 (.int .i64 0) 1 8 Tryz.underlying32 hi3 hy0 hy1 hy2 rfl (by decide) _ _ _ rfl ((hrow.alloc _).alloc _) ⟨wr.heap.size+1,0,none⟩ 1 1 [.int .i64 sq] rfl rfl (hV_ _ _ _ _) (by simp [Value.oneCell']) (by unfold maxLen;omega) (by omega) (by simp;omega) ?_;intro v' w9 hown' hgrow _;have hB9:Below W1.heap.size W1 w9:=((hBj.alloc s7 _).alloc (by simp;omega) _).grown hgrow (by simp;omega) (cg_ hrow))
     go_roundw
     case rel=>exact ⟨j+1,L ++ [sq],HJL.out,by have:=HJL.out;go_num,by rw [List.length_append,List.map_append,← HM.out];exact hown',HL3.out,hB9⟩
     case measure=>have:=HJL.out;simp [intOf];omega
    ·have hje:j = m2:=by omega
     subst hje;have HL3:L = Q:=by
      have:=HL.out;rw [List.drop_eq_nil_of_le (by rw [HM2.out];exact Nat.le_refl _)] at this;simpa using this
     subst HL3;obtain ⟨a,c,rfl,hI⟩:=jV_ hrow;have HI:=hidI hI;have HGE:Hid (∀ g,a = some ⟨g,0,none⟩→w.heap.size≤g):=fun g e=>by subst e;exact Nat.le_trans s0 (cg_ hrow g rfl)
     clear hrow hI hjl hj HL;go_wp2_with fail
     go_ret
     exact ⟨a,c,rfl,HI.out,HGE.out,hBw.trans (hBj.mono s0)⟩
theorem h9_ (xs:List OutD) (t:Int) {k:Nat} (h:k < xs.length):((xs.take (k+1)).filter (fun o=>decide (o.taker = t))).length = ((xs.take k).filter (fun o=>decide (o.taker = t))).length+(if xs[k].taker = t then 1 else 0):=by
 rw [List.take_succ_eq_append_getElem h,List.filter_append,List.length_append];by_cases e:xs[k].taker = t <;> simp [e]
theorem jQ_ (s:ab_) (b1 b2 b3:Option Addr) (m1 d1 m2 d2 m3 d3:Nat) (t:Int) (w:World) (hs:an_ w b1 b2 b3 m1 m2 m3 s) :
 Calls Tryz.prog 96 #[.agg #[.slice b1 m1 d1,.slice b2 m2 d2,.slice b3 m3 d3,.int .i64 s.nextSeq,.int .i64 s.nextTag,.int .i64 s.came,.int .i64 s.acked,.int .i64 s.dropped],.int .i64 t] w fun e w'=>e = .returned (.int .i64 (heldN s t))∧Below w.heap.size w w':=by
 obtain ⟨W1,hW1,hBw,hs1,hbx⟩:=du_ w #[.slice b1 m1 d1,.slice b2 m2 d2,.slice b3 m3 d3,.int .i64 s.nextSeq,.int .i64 s.nextTag,.int .i64 s.came,.int .i64 s.acked,.int .i64 s.dropped];have HW1:=hidI hW1;have BX:=hidI hbx;have HS:=hidI (hs.keep hBw);have HM2:Hid (s.outs.length = m2):=hs.l2;have hx2:=hs.x2;have s0:=hBw.size;obtain ⟨y0,y1,y2,y3,y4,y5,y6,y7⟩:=aa_ (hbx W1 (Below.refl _ _));clear hW1 hbx hs1 hs;go_enter Tryz.func96,Tryz.ntmps96;go_wp2_with fail
 rw [← HW1.out];go_loopw [5,7,11] (fun u _ i wr=>∃ (k n:Nat),k≤m2∧i = .int .i64 k∧u = .int .i64 n∧n≤k∧n = ((s.outs.take k).filter (fun o=>decide (o.taker = t))).length∧Below W1.heap.size W1 wr) (fun _ _ i _=>m2 - (intOf i).toNat)
 case atStart=>exact ⟨0,0,Nat.zero_le _,rfl,rfl,Nat.le_refl _,rfl,Below.refl _ _⟩
 case round=>
  obtain ⟨k,n,hk,rfl,rfl,hnk,hn,hB⟩:=hrel;have HN:=hidI hn;have hBs:=hB.size;clear hn y0 y1 y2 y3 y4 y5 y6 y7;by_cases hlt:k < m2
  ·have HLT:=hidI hlt;have hkl:k < s.outs.length:=by rw [HM2.out];exact hlt
   obtain ⟨g,o,ha,hg,e1,e2,e3,e4⟩:=(HS.out.q2.keep hB).get hkl;subst ha;have HST:=hidI (h9_ s.outs t hkl);obtain ⟨x,hx⟩:∃ x,x = s.outs[k]:=⟨_,rfl⟩
   rw [← hx] at e1 e2 e3 e4 HST;obtain ⟨tg,tk,qu,it⟩:=x;obtain ⟨sq,ky,bo,ag,de⟩:=it;obtain ⟨f0,f1,f2,f3,f4⟩:=e4;dsimp only at e1 e2 e3 f0 f1 f2 f3 f4 HST;rw [← HN.out] at HST;have j1:(0:Int)≤(k:Int):=by omega
   have j2:(k:Int) < m2:=by omega
   clear hx;by_cases htk:tk = t
   ·have hb:(tk == t) = true:=by simpa using htk
    rw [if_pos htk] at HST;clear htk;go_wp2_with fail
    go_roundw
    case rel=>exact ⟨k+1,n+1,HLT.out,by have:=HLT.out;go_num,by have:=HLT.out;go_num,by omega,HST.out.symm,hB.alloc hBs _⟩
    case measure=>have:=HLT.out;simp [intOf];omega
   ·have hb:(tk == t) = false:=by simpa using htk
    rw [if_neg htk] at HST;clear htk;go_wp2_with fail
    go_roundw
    case rel=>exact ⟨k+1,n,HLT.out,by have:=HLT.out;go_num,rfl,by omega,HST.out.symm,hB.alloc hBs _⟩
    case measure=>have:=HLT.out;simp [intOf];omega
  ·have hke:k = m2:=by omega
   subst hke;clear hlt hk;go_wp2_with fail
   go_ret
   refine ⟨?_,hBw.trans (hB.mono s0)⟩;have:n = heldN s t:=by
    have:=HN.out;rw [List.take_of_length_le (by rw [HM2.out];exact Nat.le_refl _)] at this;exact this
   show Ending.returned (Value.int .i64 (n:Nat)) = _;rw [this]
theorem keyed3:Keyed Tryz.prog 3:=int_keyed Tryz.underlying3
theorem oR_ (w:World):(zeroValue 128).run Tryz.prog w = .ok (.agg #[]) w:=by kernel_rfl
def setI (zs:List Int) (k:Nat):DataW Unit:=setOf (.agg []) ((zs.take k).map (fun z=>Lit.int .i64 z))
theorem mw_ (zs:List Int):setI zs 0 = .map []:=by simp [setI,setOf]
theorem mv_ (zs:List Int) {k:Nat} (h:k < zs.length):setI zs (k+1) = (setI zs k).put (.int .i64 zs[k]) (.agg []):=by
 unfold setI;rw [List.take_succ_eq_append_getElem h,List.map_append,List.map_cons,List.map_nil,setOf_snoc]
theorem nb_ (zs:List Int) (k:Nat) (z:Int):Maps.has (setI zs k) (.int .i64 z) = decide (z ∈ zs.take k):=by
 unfold setI;rw [has_setOf _ _ _ (by intro y hy;obtain ⟨_,_,rfl⟩:=List.mem_map.1 hy;trivial),Bool.eq_iff_iff,List.any_eq_true,decide_eq_true_eq];constructor
 ·rintro ⟨y,hy,h⟩;obtain ⟨x,hx,rfl⟩:=List.mem_map.1 hy;simp [Lit.sameKey] at h;rw [← h];exact hx
 ·intro h;exact ⟨_,List.mem_map.2 ⟨z,h,rfl⟩,by simp [Lit.sameKey]⟩
theorem oK_ {z:Int} (h:0≤z∧z < 1048576):(Lit.int .i64 z).wf = true:=by simp [Lit.wf,IntKind.min,IntKind.max,IntKind.bits,IntKind.signed];omega
def eh_ (zs:List Int) (n:Int) (k:Nat):Prop:=(zs.take k).Nodup∧∀ z ∈ zs.take k,z < n
theorem eh_.succ {zs:List Int} {n:Int} {k:Nat} (h:eh_ zs n k) (hk:k < zs.length) (h1:zs[k] ∉ zs.take k) (h2:zs[k] < n):eh_ zs n (k+1):=by
 unfold eh_;rw [List.take_succ_eq_append_getElem hk];refine ⟨List.nodup_append.2 ⟨h.1,by simp,fun a ha b hb e=>?_⟩,fun z hz=>?_⟩
 ·simp at hb;subst hb;subst e;exact h1 ha
 ·rcases List.mem_append.1 hz with hz | hz
  ·exact h.2 z hz
  ·simp at hz;subst hz;exact h2
theorem g3_ {s:ab_} (h:eh_ (as_ s) s.nextSeq (as_ s).length):ci_ s = true:=by
 unfold eh_ at h;rw [List.take_length] at h;unfold ci_;rw [decide_eq_true h.1,Bool.true_and,List.all_eq_true];exact fun z hz=>decide_eq_true (h.2 z hz)
theorem iD_ {s:ab_} {k:Nat} (hk:k < (as_ s).length) (h:(as_ s)[k] ∈ (as_ s).take k∨s.nextSeq≤(as_ s)[k]):ci_ s = false:=by
 unfold ci_;rcases h with h | h
 ·have:¬ (as_ s).Nodup:=fun hn=>by
   rw [← List.take_append_drop k (as_ s),List.nodup_append] at hn;refine hn.2.2 _ h _ ?_ rfl;rw [List.drop_eq_getElem_cons hk];exact List.mem_cons_self
  rw [decide_eq_false this];rfl
 ·rw [Bool.and_eq_false_iff];refine .inr (List.all_eq_false.2 ⟨_,List.getElem_mem hk,?_⟩);simp;exact h
theorem iN_ (s:ab_) (b1 b2 b3:Option Addr) (m1 d1 m2 d2 m3 d3:Nat) (w:World) (hs:an_ w b1 b2 b3 m1 m2 m3 s) (hb:(as_ s).length≤100000000) (hq:∀ z ∈ as_ s,0≤z∧z < 1048576) :
 Calls Tryz.prog 53 #[.agg #[.slice b1 m1 d1,.slice b2 m2 d2,.slice b3 m3 d3,.int .i64 s.nextSeq,.int .i64 s.nextTag,.int .i64 s.came,.int .i64 s.acked,.int .i64 s.dropped]] w fun e w'=>e = askE (if ci_ s = true then 0 else 1)∧Below w.heap.size w w':=by
 obtain ⟨D,hD⟩:∃ D:Int,D = if ci_ s = true then 0 else 1:=⟨_,rfl⟩
 rw [← hD];have HD:=hidI hD;clear hD;have hmm:=@run_makeMap Tryz.prog;obtain ⟨W1,hW1,hBw,hs1,hbx⟩:=du_ w #[.slice b1 m1 d1,.slice b2 m2 d2,.slice b3 m3 d3,.int .i64 s.nextSeq,.int .i64 s.nextTag,.int .i64 s.came,.int .i64 s.acked,.int .i64 s.dropped];have HW1:=hidI hW1;have s0:=hBw.size;obtain ⟨W2,hW2⟩:∃ W2,W2 = W1.alloc (.map #[] 0):=⟨_,rfl⟩
 have hB2:Below W1.heap.size W1 W2:=by rw [hW2];exact (Below.refl _ _).alloc (Nat.le_refl _) _
 have HW2:=hidI hW2;have HS:=hidI ((hs.keep hBw).keep hB2);have HQ:=hidI hq;have HBD:=hidI hb;have BX:=hidI hbx;have HS1:Hid (w.heap.size+1 = W1.heap.size):=hs1.symm;obtain ⟨y0,y1,y2,y3,y4,y5,y6,y7⟩:=aa_ (hbx W2 hB2);have k02:=hBw.trans (hB2.mono s0);have s02:=k02.size;have hown0:W2.ownsMap Tryz.prog 3 unitElem W1.heap.size 0 (.map []:DataW Unit):=by rw [hW2];exact World.ownsMap_made _ _ _ _
 have HO0:=hidI hown0;clear hW1 hbx hs1 hs hb hq hW2 hown0;go_enter Tryz.func53,Tryz.ntmps53;go_wp2_with fail
 rw [← HW1.out,← HW2.out,HS1.out];refine (j4_ s _ _ _ _ _ _ _ _ _ _ HS.out HBD.out).mono ?_;rintro e w3 ⟨a,c,rfl,hI,hge,hB3⟩;obtain ⟨Z,hZ⟩:∃ Z,Z = as_ s:=⟨_,rfl⟩
 have HZ:=hidI hZ;rw [← hZ] at hI HBD HQ ⊢;obtain ⟨n,hn⟩:∃ n,n = Z.length:=⟨_,rfl⟩
 rw [← hn] at HBD ⊢;have HN:=hidI hn;have hn8:=HBD.out;have HI:=hidI hI;have hwm:W1.heap.size < W2.heap.size:=by rw [HW2.out];simp
 have hmap:w3.ownsMap Tryz.prog 3 unitElem W1.heap.size 0 (.map []:DataW Unit):=by
  obtain ⟨es,cl,h1,h2⟩:=HO0.out;exact ⟨es,cl,(hB3.block _ hwm).trans h1,h2⟩
 have k3:Below W1.heap.size W1 w3:=hB2.trans (hB3.mono hB2.size);have HM3:=hidI hmap;have HGN:Hid (∀ g,a = some ⟨g,0,none⟩→¬ some g = some W1.heap.size):=fun g e h=>by have:=hge g e;cases h;omega
 have hs3:=hB3.size;clear hI hZ hn hmap hB3 hge y0 y1 y2 y3 y4 y5 y6 y7;go_wp2_with fail
 go_loopw [4,5,6,11] (fun _ _ _ i wr=>∃ k:Nat,k≤n∧i = .int .i64 k∧wr.ownsMap Tryz.prog 3 unitElem W1.heap.size k (setI Z k)∧eh_ Z s.nextSeq k∧Below W1.heap.size W1 wr∧fi_ wr a Z∧w3.heap.size≤wr.heap.size) (fun _ _ _ i _=>n - (intOf i).toNat)
 case atStart=>exact ⟨0,Nat.zero_le _,rfl,by rw [mw_];exact HM3.out,⟨by simp,by simp⟩,k3,HI.out,Nat.le_refl _⟩
 case round=>
  obtain ⟨k,hk,rfl,hown,hst,hB,hnums,hws⟩:=hrel;have HST:=hidI hst;have hBs:=hB.size;have HNU:=hidI hnums;clear hst hnums;by_cases hlt:k < n
  ·have HLT:=hidI hlt;have hkl:k < Z.length:=by rw [← HN.out];exact hlt
   rcases HNU.out with h | ⟨g,hag,hg,hx⟩
   ·rw [h] at hkl;simp at hkl
   subst hag;have c1:=hx k hkl;have HSU:=hidI (mv_ Z hkl);have HSN:=hidI (fun h1 h2=>HST.out.succ hkl h1 h2);have HNO:=hidI (fun (h:Z[k] ∈ Z.take k∨s.nextSeq≤Z[k])=>iD_ (s:=s) (k:=k) (by rw [← HZ.out];exact hkl) (by simp only [← HZ.out];exact h));have hzr:=HQ.out _ (List.getElem_mem hkl);obtain ⟨z,hz⟩:∃ z,z = Z[k]:=⟨_,rfl⟩
   rw [← hz] at c1 HSU HSN HNO hzr;have hkey:keyOf Tryz.prog 3 (.int .i64 z) = some (.int .i64 z):=keyOf_int_mk Tryz.underlying3 (oK_ hzr);have HHAS:=hidI (nb_ Z k z);obtain ⟨Dk,hDk⟩:∃ Dk,Dk = setI Z k:=⟨_,rfl⟩
   rw [← hDk] at hown HSU HHAS;obtain ⟨y0,y1,y2,y3,y4,y5,y6,y7⟩:=aa_ (BX.out wr hB);have j1:(0:Int)≤(k:Int):=by omega
   have j2:(k:Int) < n:=by omega
   have sk:w.heap.size < wr.heap.size:=by have:=HS1.out;omega
   have hmb:W1.heap.size < wr.heap.size:=by omega
   obtain ⟨there,hth⟩:∃ there,there = decide (z ∈ Z.take k):=⟨_,rfl⟩
   have hh:Maps.has Dk (.int .i64 z) = there:=by rw [HHAS.out,hth]
   have HTH:=hidI hth;clear hx hz hDk hth;go_wp2_with (at_lookup;refine wpList_lookup_own_unit _ rfl _ _ 127 rfl 3 128 keyed3 Tryz.underlying127 (oR_ _) W1.heap.size k Dk rfl hown _ _ rfl hkey ?_)
   by_cases hbad:there = true∨s.nextSeq≤z
   ·have HN1:Hid (ci_ s = false):=HNO.out (hbad.imp (fun h=>of_decide_eq_true (by rw [← HTH.out];exact h)) id);refine (ax_ 1 [there,decide (s.nextSeq≤z)] _ _ (by simp) (bng_ _ _ (World.size_alloc _ _).symm) (by rcases hbad with h | h;exact h ▸ List.mem_cons_self;rw [decide_eq_true h];simp)).mono ?_;rintro e w4 ⟨rfl,hw4⟩;exact ⟨rfl,by rw [HD.out,HN1.out];rfl,by rw [hw4];exact hBw.trans (((hB.alloc hBs _).alloc (by simp;omega) _).mono s0)⟩
   ·have hth:there = false:=by cases there with | false=>rfl | true=>exact absurd (.inl rfl) hbad
    have HS2:Hid (eh_ Z s.nextSeq (k+1)):=HSN.out (of_decide_eq_false (by rw [← HTH.out];exact hth)) (by omega);subst hth;refine (aF_ 1 [false,decide (s.nextSeq≤z)] _ _ (by simp) (bng_ _ _ (World.size_alloc _ _).symm) (by simp;omega)).mono ?_;rintro e w4 ⟨rfl,hw4⟩;have hown4:w4.ownsMap Tryz.prog 3 unitElem W1.heap.size k Dk:=by rw [hw4];exact (hown.alloc _).alloc _
    have l4:Below wr.heap.size wr w4:=by rw [hw4];exact ((Below.refl _ _).alloc (Nat.le_refl _) _).alloc (by simp) _
    have k4:Below W1.heap.size W1 w4:=hB.trans (l4.mono hBs);have s4:=l4.size;have HN4:=hidI (HNU.out.keep l4);clear hw4 hbad y0 y1 y2 y3 y4 y5 y6 y7 c1 hown;go_wp2_with (at_mapUpdate;refine wpList_mapUpdate_own _ rfl _ _ _ 127 rfl 3 128 keyed3 Tryz.underlying127 (unitElem (H:=Unit)) W1.heap.size k _ rfl hown4 (by unfold maxLen;omega) _ _ _ rfl rfl hkey _ [] unitElem_mk ?_;intro w5 hown5 hgrow5)
    have s5:=hgrow5.size;go_roundw
    case rel=>exact ⟨k+1,HLT.out,by have:=HLT.out;go_num,by rw [HSU.out];exact hown5,HS2.out,k4.grown hgrow5 (by omega) (fun j hj=>by cases hj;exact Nat.le_refl _),kO_ HN4.out hgrow5 HGN.out,by omega⟩
    case measure=>have:=HLT.out;simp [intOf];omega
  ·have hke:k = n:=by omega
   subst hke;have HYES:Hid (ci_ s = true):=by
    have:=HST.out;rw [HN.out,HZ.out] at this;exact g3_ this
   clear hlt hk;go_wp2_with fail
   go_end0
   exact ⟨by rw [HD.out,HYES.out];rfl,hBw.trans (hB.mono s0)⟩
theorem iO_ (s:ab_) (b1 b2 b3:Option Addr) (m1 d1 m2 d2 m3 d3:Nat) (w:World) (hs:an_ w b1 b2 b3 m1 m2 m3 s) (hb:(as_ s).length≤100000000) (hc:bf_ s = true) :
 Calls Tryz.prog 55 #[.agg #[.slice b1 m1 d1,.slice b2 m2 d2,.slice b3 m3 d3,.int .i64 s.nextSeq,.int .i64 s.nextTag,.int .i64 s.came,.int .i64 s.acked,.int .i64 s.dropped]] w fun e w'=>e = askE (if cj_ s = true then 0 else 10)∧Below w.heap.size w w':=by
 obtain ⟨D,hD⟩:∃ D:Int,D = if cj_ s = true then 0 else 10:=⟨_,rfl⟩
 rw [← hD];have HD:=hidI hD;obtain ⟨W1,hW1,hBw,hs1,hbx⟩:=du_ w #[.slice b1 m1 d1,.slice b2 m2 d2,.slice b3 m3 d3,.int .i64 s.nextSeq,.int .i64 s.nextTag,.int .i64 s.came,.int .i64 s.acked,.int .i64 s.dropped];have HW1:=hidI hW1;have BX:=hidI hbx;have HS:=hidI (hs.keep hBw);have HBD:=hidI hb;have s0:=hBw.size;obtain ⟨y0,y1,y2,y3,y4,y5,y6,y7⟩:=aa_ (hbx W1 (Below.refl _ _));unfold bf_ a2_ at hc;simp only [Bool.and_eq_true,decide_eq_true_eq] at hc;have HC:=hidI hc;clear hW1 hbx hs1 hs hb hD hc;go_enter Tryz.func55,Tryz.ntmps55;go_wp2_with fail
 rw [← HW1.out];refine (j4_ s _ _ _ _ _ _ _ _ _ _ HS.out HBD.out).mono ?_;rintro e w3 ⟨a,c,rfl,-,-,hB3⟩;obtain ⟨n,hn⟩:∃ n,n = (as_ s).length:=⟨_,rfl⟩
 rw [← hn] at HBD ⊢;have hw1:IntKind.i64.wrap ((n:Int)+s.acked) = (n:Int)+s.acked:=by have h1:=HBD.out;have h2:=HC.out;rw [IntKind.wrap_i64];omega
 have hw2:IntKind.i64.wrap ((n:Int)+s.acked+s.dropped) = (n:Int)+s.acked+s.dropped:=by have h1:=HBD.out;have h2:=HC.out;rw [IntKind.wrap_i64];omega
 have HSM:Hid (cj_ s = (decide (s.came = (n:Int)+s.acked+s.dropped) && decide (s.came = s.nextSeq))):=by show cj_ s = _;unfold cj_;rw [hn]
 have s3:=hB3.size;clear y0 y1 y2 y3 y4 y5 y6 y7 hn;obtain ⟨y0,y1,y2,y3,y4,y5,y6,y7⟩:=aa_ (BX.out w3 hB3);go_wp2_with fail
 by_cases hbad:s.came≠(n:Int)+s.acked+s.dropped∨s.came≠s.nextSeq
 ·refine (ax_ 10 [(s.came != (n:Int)+s.acked+s.dropped),(s.came != s.nextSeq)] _ _ (by simp) (bng_ w3 _ rfl) (by simp;omega)).mono ?_;rintro e w4 ⟨rfl,hw4⟩;refine ⟨rfl,?_,by rw [hw4];exact hBw.trans ((hB3.alloc s3 _).mono s0)⟩;rw [HD.out,HSM.out,show (decide (s.came = (n:Int)+s.acked+s.dropped) && decide (s.came = s.nextSeq)) = false by simp;omega];rfl
 ·refine (aF_ 10 [(s.came != (n:Int)+s.acked+s.dropped),(s.came != s.nextSeq)] _ _ (by simp) (bng_ w3 _ rfl) (by simp;omega)).mono ?_;rintro e w4 ⟨rfl,hw4⟩;have k4:Below W1.heap.size W1 w4:=by rw [hw4];exact hB3.alloc s3 _
  clear hw4;go_wp2_with fail
  go_end0
  refine ⟨?_,hBw.trans (k4.mono s0)⟩;rw [HD.out,HSM.out,show (decide (s.came = (n:Int)+s.acked+s.dropped) && decide (s.came = s.nextSeq)) = true by simp;omega];rfl
theorem a6_.get {W:World} {a:Option Addr} {xs:List ba_} (h:a6_ W a xs) {k:Nat} (hk:k < xs.length):∃ g o,a = some ⟨g,o,none⟩∧g < W.heap.size∧W.cell? ⟨g,o+k * 3,none⟩ = some (.string xs[k].name)∧W.cell? ⟨g,o+k * 3+1,none⟩ = some (.int .i64 xs[k].limit)∧W.cell? ⟨g,o+k * 3+2,none⟩ = some (.int .i64 xs[k].dead):=by
 rcases h with h | ⟨g,o,ha,hg,h⟩
 ·rw [h] at hk;simp at hk
 ·exact ⟨g,o,ha,hg,h k hk⟩
def cJ_ (p:ad_) (s:ab_) (q:Nat):Bool:=decide (((s.ready.getD q []).length:Int)≤(p.queues.getD q ⟨⟨#[]⟩,0,0⟩).limit)
def cK_ (s:ab_) (k:Nat):Bool:=decide ((heldN s k:Int)≤(s.takers.getD k ⟨0,0⟩).most)
theorem cP_ {f:Nat→Bool} {n:Nat} (h:∀ i,i < n→f i = true):(List.range n).all f = true:=by
 rw [List.all_eq_true];intro i hi;exact h i (List.mem_range.1 hi)
theorem c8_ {f:Nat→Bool} {n k:Nat} (hk:k < n) (h:f k = false):(List.range n).all f = false:=
 List.all_eq_false.2 ⟨k,List.mem_range.2 hk,by simp [h]⟩
theorem iM_ (p:ad_) (a1 a2 a3:Option Addr) (n1 c1 n2 c2 n3 c3:Nat) (s:ab_) (b1 b2 b3:Option Addr) (m1 d1 m2 d2 m3 d3:Nat) (w:World) (hp:ap_ w a1 a2 a3 n1 n2 n3 p) (hs:an_ w b1 b2 b3 m1 m2 m3 s) (hm:m1 = n2) :
 Calls Tryz.prog 54 #[.agg #[.slice a1 n1 c1,.slice a2 n2 c2,.slice a3 n3 c3],.agg #[.slice b1 m1 d1,.slice b2 m2 d2,.slice b3 m3 d3,.int .i64 s.nextSeq,.int .i64 s.nextTag,.int .i64 s.came,.int .i64 s.acked,.int .i64 s.dropped]] w fun e w'=>e = askE (if (dD_ p s && dE_ s) = true then 0 else 3)∧Below w.heap.size w w':=by
 obtain ⟨D,hD⟩:∃ D:Int,D = if (dD_ p s && dE_ s) = true then 0 else 3:=⟨_,rfl⟩
 rw [← hD];have HD:=hidI hD;obtain ⟨W2,hW2,hBw,hs2,hbx⟩:=bZ_ w #[.slice a1 n1 c1,.slice a2 n2 c2,.slice a3 n3 c3] #[.slice b1 m1 d1,.slice b2 m2 d2,.slice b3 m3 d3,.int .i64 s.nextSeq,.int .i64 s.nextTag,.int .i64 s.came,.int .i64 s.acked,.int .i64 s.dropped];have HW2:=hidI hW2;have BX:=hidI hbx;have HS:=hidI (hs.keep hBw);have HP:=hidI (hp.keep hBw);have HM1:Hid (s.ready.length = m1):=hs.l1;have HM3:Hid (s.takers.length = m3):=hs.l3;have HN2:Hid (p.queues.length = n2):=hp.l2;have hx1:=hs.x1;have hx3:=hs.x3;have HMN:=hidI hm;have s0:=hBw.size;have hs2':w.heap.size+1 < W2.heap.size:=by omega
 unfold maxLen at hx1 hx3;clear hW2 hbx hs hp hs2 hD hm;obtain ⟨p0,q0⟩:=BX.out W2 (Below.refl _ _);obtain ⟨x0,x1,x2⟩:=ag_ p0;obtain ⟨y0,y1,y2,y3,y4,y5,y6,y7⟩:=aa_ q0;clear p0 q0;go_enter Tryz.func54,Tryz.ntmps54;go_wp2_with fail
 rw [← HW2.out];go_loopw [4,5,11] (fun _ _ i wr=>∃ k:Nat,k≤m1∧i = .int .i64 k∧(∀ q,q < k→cJ_ p s q = true)∧Below W2.heap.size W2 wr) (fun _ _ i _=>m1 - (intOf i).toNat)
 case atStart=>exact ⟨0,Nat.zero_le _,rfl,fun q hq=>absurd hq (Nat.not_lt_zero _),Below.refl _ _⟩
 case round=>
  obtain ⟨k,hk,rfl,ha,hB⟩:=hrel;have HA:=hidI ha;have hBs:=hB.size;clear ha x0 x1 x2 y0 y1 y2 y3 y4 y5 y6 y7;obtain ⟨p0,q0⟩:=BX.out wr hB;obtain ⟨x0,x1,x2⟩:=ag_ p0;obtain ⟨y0,y1,y2,y3,y4,y5,y6,y7⟩:=aa_ q0;clear p0 q0;by_cases hlt:k < m1
  ·have HLT:=hidI hlt;have hkl:k < s.ready.length:=by rw [HM1.out];exact hlt
   have hkq:k < p.queues.length:=by rw [HN2.out,← HMN.out];exact hlt
   obtain ⟨g,o,b,c,ha,hg,hl⟩:=(HS.out.q1.keep hB).get hkl;obtain ⟨g',o',ha',hg',e1,e2,e3⟩:=(HP.out.p2.keep hB).get hkq;subst ha ha';have c1:=hl.cell;have HRK:Hid (cJ_ p s k = decide ((s.ready[k].length:Int)≤p.queues[k].limit)):=by
    show cJ_ p s k = _;unfold cJ_;rw [List.getD_eq_getElem?_getD,List.getD_eq_getElem?_getD,List.getElem?_eq_getElem hkl,List.getElem?_eq_getElem hkq];rfl
   obtain ⟨n,hn⟩:∃ n,n = s.ready[k].length:=⟨_,rfl⟩
   obtain ⟨lim,hlim⟩:∃ lim,lim = p.queues[k].limit:=⟨_,rfl⟩
   rw [← hn] at c1 HRK;rw [← hlim] at e2 HRK;have j1:(0:Int)≤(k:Int):=by omega
   have j2:(k:Int) < m1:=by omega
   have j3:(k:Int) < n2:=by have:=HMN.out;omega
   clear hl hn hlim e1 e3 hkl hkq;go_wp2_with fail
   by_cases hbad:lim < (n:Int)
   ·have HNO:Hid ((dD_ p s && dE_ s) = false):=by
     show (dD_ p s && dE_ s) = false;rw [show dD_ p s = false from c8_ (f:=cJ_ p s) (by rw [HM1.out];exact hlt) (by rw [HRK.out];exact decide_eq_false (by omega))];rfl
    refine (ax_ 3 [decide (lim < (n:Int))] _ _ (by simp) (bng_ wr _ rfl) (by simp;omega)).mono ?_;rintro e w5 ⟨rfl,hw5⟩;exact ⟨rfl,by rw [HD.out,HNO.out];rfl,by rw [hw5];exact hBw.trans ((hB.alloc hBs _).mono s0)⟩
   ·refine (aF_ 3 [decide (lim < (n:Int))] _ _ (by simp) (bng_ wr _ rfl) (by simp;omega)).mono ?_;rintro e w5 ⟨rfl,hw5⟩;have k5:Below W2.heap.size W2 w5:=by rw [hw5];exact hB.alloc hBs _
    have HYK:Hid (cJ_ p s k = true):=by show cJ_ p s k = true;rw [HRK.out];exact decide_eq_true (by omega)
    clear hw5;go_wp2_with fail
    go_roundw
    case rel=>exact ⟨k+1,HLT.out,by have:=HLT.out;go_num,fun q hq=>by
     by_cases e:q = k
     ·rw [e];exact HYK.out
     ·exact HA.out q (by omega),k5⟩
    case measure=>have:=HLT.out;simp [intOf];omega
  ·have hke:k = m1:=by omega
   subst hke;have HRL:Hid (dD_ p s = true):=by
    show (List.range s.ready.length).all (cJ_ p s) = true;exact cP_ (fun i hi=>HA.out i (by rw [HM1.out] at hi;exact hi))
   clear hlt hk HA;go_wp2_with fail
   go_loopw [6,7,31] (fun _ _ i wr=>∃ k:Nat,k≤m3∧i = .int .i64 k∧(∀ q,q < k→cK_ s q = true)∧Below W2.heap.size W2 wr) (fun _ _ i _=>m3 - (intOf i).toNat)
   case atStart=>exact ⟨0,Nat.zero_le _,rfl,fun q hq=>absurd hq (Nat.not_lt_zero _),hB⟩
   case round=>
    clear x0 x1 x2 y0 y1 y2 y3 y4 y5 y6 y7 hB hBs;obtain ⟨j,hj,rfl,ha,hB⟩:=hrel;have HA:=hidI ha;have hBs:=hB.size;clear ha;by_cases hlt:j < m3
    ·have HLT:=hidI hlt;have hkl:j < s.takers.length:=by rw [HM3.out];exact hlt
     obtain ⟨g,o,ha,hg,e1,e2⟩:=(HS.out.q3.keep hB).get hkl;subst ha;have HRK:Hid (cK_ s j = decide ((heldN s j:Int)≤s.takers[j].most)):=by
      show cK_ s j = _;unfold cK_;rw [List.getD_eq_getElem?_getD,List.getElem?_eq_getElem hkl];rfl
     obtain ⟨t,ht⟩:∃ t,t = s.takers[j]:=⟨_,rfl⟩
     rw [← ht] at e1 e2 HRK;obtain ⟨tq,tm⟩:=t;dsimp only at e1 e2 HRK;obtain ⟨p0,q0⟩:=BX.out wr hB;obtain ⟨y0,y1,y2,y3,y4,y5,y6,y7⟩:=aa_ q0;have j1:(0:Int)≤(j:Int):=by omega
     have j2:(j:Int) < m3:=by omega
     have sk:w.heap.size+1 < wr.heap.size:=by omega
     obtain ⟨W3,hW3⟩:∃ W3,W3 = wr.alloc (.cells #[.int .i64 tq,.int .i64 tm] 69):=⟨_,rfl⟩
     have HW3:=hidI hW3;have k3:Below W2.heap.size W2 W3:=by rw [hW3];exact hB.alloc hBs _
     have b3':W3.heap[wr.heap.size]? = some (.cells #[.int .i64 tq,.int .i64 tm] 69 (0,0)):=by rw [hW3];exact World.alloc_heap_new wr _
     have HB3:=hidI b3';have s3:=k3.size;clear ht p0 q0 hW3 b3';go_wp2_with fail
     rw [← HW3.out];have SS:Hid (∀ W,Below W3.heap.size W3 W→W.cell? ⟨w.heap.size+1,0,none⟩ = some (.slice b1 k d1)∧W.cell? ⟨w.heap.size+1,1,none⟩ = some (.slice b2 m2 d2)∧W.cell? ⟨w.heap.size+1,2,none⟩ = some (.slice (some ⟨g,o,none⟩) m3 d3)∧W.cell? ⟨w.heap.size+1,3,none⟩ = some (.int .i64 s.nextSeq)∧W.cell? ⟨w.heap.size+1,4,none⟩ = some (.int .i64 s.nextTag)∧W.cell? ⟨w.heap.size+1,5,none⟩ = some (.int .i64 s.came)∧W.cell? ⟨w.heap.size+1,6,none⟩ = some (.int .i64 s.acked)∧W.cell? ⟨w.heap.size+1,7,none⟩ = some (.int .i64 s.dropped)∧W.cell? ⟨wr.heap.size,1,none⟩ = some (.int .i64 tm)):=fun W hW=>by
      have x:=aa_ (BX.out W (k3.trans (hW.mono s3))).2;exact ⟨x.1,x.2.1,x.2.2.1,x.2.2.2.1,x.2.2.2.2.1,x.2.2.2.2.2.1,x.2.2.2.2.2.2.1,x.2.2.2.2.2.2.2,coc_ (pkp_ HB3.out hW) 1⟩
     refine wp_region_held_drew (S:=fun W=>W.cell? ⟨w.heap.size+1,0,none⟩ = some (.slice b1 k d1)∧W.cell? ⟨w.heap.size+1,1,none⟩ = some (.slice b2 m2 d2)∧W.cell? ⟨w.heap.size+1,2,none⟩ = some (.slice (some ⟨g,o,none⟩) m3 d3)∧W.cell? ⟨w.heap.size+1,3,none⟩ = some (.int .i64 s.nextSeq)∧W.cell? ⟨w.heap.size+1,4,none⟩ = some (.int .i64 s.nextTag)∧W.cell? ⟨w.heap.size+1,5,none⟩ = some (.int .i64 s.came)∧W.cell? ⟨w.heap.size+1,6,none⟩ = some (.int .i64 s.acked)∧W.cell? ⟨w.heap.size+1,7,none⟩ = some (.int .i64 s.dropped)∧W.cell? ⟨wr.heap.size,1,none⟩ = some (.int .i64 tm)) (by kernel_rfl) (SS.out _ (Below.refl _ _).drew) (fun hHeld=>?_);obtain ⟨W4,hW4⟩:∃ W4,W4 = W3.drew:=⟨_,rfl⟩
     have KK:Hid (∀ W,Below W4.heap.size W4 W→Below W3.heap.size W3 W):=fun W hW=>by rw [hW4] at hW;exact ⟨hW.os,hW.tape,hW.output,hW.size,hW.block⟩
     rw [← hW4] at hHeld ⊢;clear hW4 y0 y1 y2 y3 y4 y5 y6 y7 e1 e2;refine tk 0 ?_;refine tk 1 ?_;refine tk 3 ?_;refine tk 4 ?_;refine rdy 2 (fun K hK=>?_);go_simp;refine (jQ_ s _ _ _ _ _ _ _ _ _ (j:Int) _ (HS.out.keep (k3.trans ((KK.out _ (Below.refl _ _)).mono s3)))).mono ?_;rintro e w5 ⟨rfl,hB5⟩;obtain ⟨hn,hhn⟩:∃ hn,hn = heldN s j:=⟨_,rfl⟩
     rw [← hhn] at HRK ⊢;refine hK.out _ _ (SS.out _ (KK.out _ hB5)) (fun hH5=>?_);clear hK K hhn;try refine nrm ?_
     refine tk 5 ?_;refine rdy 6 (fun K hK=>?_);go_simp;have HIS:=hidI (bk_ w5 [decide (tm < (hn:Int))]);obtain ⟨w6,hw6⟩:∃ w6,w6 = w5.alloc (.cells #[.bool (decide (tm < (hn:Int)))] 4):=⟨_,rfl⟩
     have l6:Below W3.heap.size W3 w6:=by rw [hw6];exact (KK.out _ hB5).alloc (KK.out _ hB5).size _
     have HI6:Hid (be_ w6 w5.heap.size 0 [decide (tm < (hn:Int))]):=by show be_ w6 _ _ _;rw [hw6];exact HIS.out
     rw [← hw6];refine hK.out _ _ (SS.out _ l6) (fun hH6=>?_);clear hK K hw6;try refine nrm ?_
     have k6:Below W2.heap.size W2 w6:=k3.trans (l6.mono s3);refine rdy 7 (fun K hK=>?_);go_simp;by_cases hbad:tm < (hn:Int)
     ·have HNO:Hid ((dD_ p s && dE_ s) = false):=by
       show (dD_ p s && dE_ s) = false;rw [show dE_ s = false from c8_ (f:=cK_ s) (by rw [HM3.out];exact hlt) (by rw [HRK.out];exact decide_eq_false (by omega))];simp
      refine (ax_ 3 [decide (tm < (hn:Int))] _ _ (by simp) HI6.out (by simp;omega)).mono ?_;rintro e w7 ⟨rfl,hw7⟩;have k7:Below W2.heap.size W2 w7:=by rw [hw7];exact k6
      exact ⟨rfl,by rw [HD.out,HNO.out];rfl,hBw.trans (k7.mono s0)⟩
     ·have HYK:Hid (cK_ s j = true):=by show cK_ s j = true;rw [HRK.out];exact decide_eq_true (by omega)
      refine (aF_ 3 [decide (tm < (hn:Int))] _ _ (by simp) HI6.out (by simp;omega)).mono ?_;rintro e w7 ⟨rfl,hw7⟩;have k7:Below W2.heap.size W2 w7:=by rw [hw7];exact k6
      refine hK.out _ _ (SS.out _ (by rw [hw7];exact l6)) (fun hH7=>?_);clear hK K hw7;refine wpAnyH_done (by kernel_rfl) ?_ _;go_wp2_with fail
      go_roundw
      case rel=>exact ⟨j+1,HLT.out,by have:=HLT.out;go_num,fun q hq=>by
       by_cases e:q = j
       ·rw [e];exact HYK.out
       ·exact HA.out q (by omega),k7⟩
      case measure=>have:=HLT.out;simp [intOf];omega
    ·have hke:j = m3:=by omega
     subst hke;have HRT:Hid (dE_ s = true):=by
      show (List.range s.takers.length).all (cK_ s) = true;exact cP_ (fun i hi=>HA.out i (by rw [HM3.out] at hi;exact hi))
     clear hlt hj;go_wp2_with fail
     go_end0
     exact ⟨by rw [HD.out,HRL.out,HRT.out];rfl,hBw.trans (hB.mono s0)⟩
end Go.Proofs.YtlbnkpicnokgoaaGreat
