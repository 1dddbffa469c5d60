import Derived.Test.YtcahejkcdcjjgaaGreatDoorT44
open Go.Value renaming slice->B
set_option maxRecDepth 100000
set_option maxHeartbeats 16000000
namespace Go.Proofs.YtcahejkcdcjjgaaGreatDoor
open Go.RowKit Go.Shelf
namespace M3
attribute [local go_sem] Oper.semAt_some
def IA(w V:World)(c b d:Nat)(rs a:Value)(R:List Rat):Prop:=
 Boxed V (w.heap.size+1+1) 25 (B none 0 0)/\Boxed V (w.heap.size+1+1+1) 25 (B none 0 0)/\Boxed V c 23 rs/\Boxed V b 23 a/\Boxed V d 23 a/\RowK true V rs R/\Bl w V
theorem IA.below{w V V':World}{d b c:Nat}{rs e:Value}{R:List Rat}(h:IA w V d b c rs e R)(a:Bl V V'):IA w V' d b c rs e R:=
 ⟨boxed_below h.1 a,boxed_below h.2.1 a,boxed_below h.2.2.1 a,boxed_below h.2.2.2.1 a,boxed_below h.2.2.2.2.1 a,h.2.2.2.2.2.1.below a,Bt h.2.2.2.2.2.2 a⟩
variable{row:Option Nat}{V V':World}
theorem boxed_own(b:V.grownBy V' row)(a:∀r,row=some r->∃o:Obj,V.heap[r]?=some o/\o.isCells=false){B:Nat}{t:TypeId}{v:Value}(h:Boxed V B t v):Boxed V' B t v:=Ih b a (show Bx V B t #[v]from h)
theorem IA.own{w:World}{g c f:Nat}{rs i:Value}{R:List Rat}(h:IA w V g c f rs i R)(a:V.grownBy V' row)(d:∀x,row=some x->w.heap.size<=x/\∃o:Obj,V.heap[x]?=some o/\o.isCells=false):IA w V' g c f rs i R:=by
 have b:∀r,row=some r->∃o:Obj,V.heap[r]?=some o/\o.isCells=false:=λr e=>(d r e).2;exact⟨boxed_own a b h.1,boxed_own a b h.2.1,boxed_own a b h.2.2.1,boxed_own a b h.2.2.2.1,boxed_own a b h.2.2.2.2.1,Kn a b h.2.2.2.2.2.1,h.2.2.2.2.2.2.grown a h.2.2.2.2.2.2.size (λk e=>(d k e).1)⟩
end M3
attribute [local go_sem] Oper.semAt_some
def K4(w V:World)(b a:Value)(Q R:List Rat):Prop:=RowK false V b Q/\RowK false V a R/\Bl w V
theorem K4.below{w V V':World}{c b:Value}{Q R:List Rat}(h:K4 w V c b Q R)(a:Bl V V'):K4 w V' c b Q R:=⟨h.1.below a,h.2.1.below a,Bt h.2.2 a⟩
def Mp(w wr V:World)(b a:Value)(Q R:List Rat):Prop:=K4 w V b a Q R/\Bl wr V
theorem Mp.below{w wr V V':World}{b a:Value}{Q R:List Rat}(h:Mp w wr V b a Q R)(c:Bl V V'):Mp w wr V' b a Q R:=⟨h.1.below c,Bt h.2 c⟩
theorem ZS(s:ByteArray)(hs:s.size<=140737488351232)(w:World):
 Calls Tryz.prog 24 #[.string s] w λe c=>∃u,e=.returned u/\RowK false c u (JV (Jd s)).1/\Bl w c:=by
 have b:=Ja (λ(V:World)=>Vj s hs V);clear hs;go_enter Tryz.func24,Tryz.ntmps24
 go_wp2_with(go_at_call 10;refine(b.o _).mono ?_;clear b;rintro e f ⟨u,j,g,rfl,⟨rfl,rfl,a,_,_⟩,d⟩;obtain⟨i,k,c2,rfl⟩:=a.form)
 go_ret;exact⟨_,rfl,a,d⟩
theorem ZT(s:ByteArray)(w:World):
 Calls Tryz.prog 25 #[.string s] w λe z=>∃u,e=.returned u/\JC z u (JV (Jd s)).1/\Bl w z:=by
 have y:=Ja (λ(V:World)=>Pk s V);have b0:=BK w 25 (B none 0 0);have j:Bl w (w.alloc (.cells #[B none 0 0] 25)):=Ba w _;obtain⟨I,m⟩:=ex (w.alloc (.cells #[B none 0 0] 25));obtain⟨A,q⟩:=ex (w.heap.size);rw[m]at b0 j;rw[q]at b0;obtain⟨E,x,C,t⟩:=D3 b0 j m q;clear b0 j m q;go_enter Tryz.func25,Tryz.ntmps25
 go_upto_region 1 with fail
 rw[C.o,t.o];go_upto_region 2 with(go_at_call 9;refine(y.o _).mono ?_;clear y;rintro e b ⟨u,G,J,rfl,⟨rfl,rfl,l⟩,f⟩;obtain⟨c,a,c1,rfl⟩:=l.form)
 have i:Bl b (b.alloc (.cells #[B c a c1] 25)):=Ba b _;have k:=BK b 25 (B c a c1);have d:=(E.o.bel f).bel i;have o:=l.row.below i;have r:=(Bt x.o f).trans (i.mono (Bt x.o f).size);obtain⟨K,g⟩:=ex (b.alloc (.cells #[B c a c1] 25));obtain⟨H,n⟩:=ex (b.heap.size);rw[g,n]at k;rw[g]at d o r;rw[g,n];have x1:=k.cell;have x0:=d.cell;have f0:=d.frozen;have F:=Ja (Ei d (B c a c1) o);have D:=Ja (r.setCell (p:=⟨A,0,none⟩) (by rw[t.o];exact Aa _) (B c a c1));clear i k d o r g n l f;go_wp2_with fail
 exact BA (v:=.agg #[B c a c1]) (by simp[results,Tryz.results25,go_sem,x0]) rfl ⟨_,rfl,⟨_,rfl,F.o⟩,D.o⟩

