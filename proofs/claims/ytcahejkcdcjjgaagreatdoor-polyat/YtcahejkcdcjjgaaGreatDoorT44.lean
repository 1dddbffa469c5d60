import Derived.Test.YtcahejkcdcjjgaaGreatDoorT43
open Go renaming World->C,Value->E,Boxed->F
set_option maxRecDepth 100000
set_option maxHeartbeats 16000000
namespace Go.Proofs.YtcahejkcdcjjgaaGreatDoor.M3
open Go.RowKit Go.Shelf
attribute [local go_sem] Oper.semAt_some
def ZQ(V:C)(g r:Nat):Prop:=∀j,j<r->V.cell? ⟨g,j*4,none⟩=some (.bool false)/\V.cell? ⟨g,j*4+1,none⟩=some (.slice none 0 0)/\V.cell? ⟨g,j*4+2,none⟩=some (.bool false)/\V.cell? ⟨g,j*4+3,none⟩=some (.slice none 0 0)
variable{d:Bool}{B f g r:Nat}{t v:E}{V V' w:C}
theorem ZQ.of(h:ZQ V g r)(e:V'.heap[g]?=V.heap[g]?):ZQ V' g r:=λj d=>by
 obtain⟨b,c,i,f⟩:=h j d;exact⟨(BR (w:=V) (a:=⟨g,_,none⟩) e).trans b,(BR (w:=V) (a:=⟨g,_,none⟩) e).trans c,(BR (w:=V) (a:=⟨g,_,none⟩) e).trans i,(BR (w:=V) (a:=⟨g,_,none⟩) e).trans f⟩
def Gv(w V:C)(bs:List (Option (Nat × Dat)))(a:Nat)(n:Int)(gQ r:Nat):Prop:=Mem w V bs/\F V a 3 (.int .i64 n)/\ZQ V gQ r/\gQ<V.heap.size
theorem Gv.below{w V V':C}{bs:List (Option (Nat × Dat))}{b:Nat}{n:Int}{gQ r:Nat}(h:Gv w V bs b n gQ r)(a:Bl V V'):Gv w V' bs b n gQ r:=
 ⟨h.1.below a,(a.block b h.2.1.lt).trans h.2.1,h.2.2.1.of (a.block gQ h.2.2.2),AC h.2.2.2 a.size⟩
theorem Gv.own{w V V':C}{bs:List (Option (Nat × Dat))}{b:Nat}{n:Int}{gQ r:Nat}{row:Option Nat}(h:Gv w V bs b n gQ r)(i:∃cs t m,V.heap[gQ]?=some (.cells cs t m))(a:V.grownBy V' row)(f:∀x,row=some x->w.heap.size<=x/\∃o:Obj,V.heap[x]?=some o/\o.isCells=false):Gv w V' bs b n gQ r:=by
 have c:∀r,row=some r->∃o:Obj,V.heap[r]?=some o/\o.isCells=false:=λr e=>(f r e).2;refine⟨h.1.own a f,Ih a c (show Bx V b 3 #[.int .i64 n]from h.2.1),h.2.2.1.of ?_,AC h.2.2.2 a.size⟩;obtain⟨cs,t,m,e⟩:=i;refine a.block gQ h.2.2.2 (λj=>?_);obtain⟨o,d,g⟩:=c gQ j.symm;rw[e]at d;cases d;cases g
theorem ZR(V:C)(m:Nat):Has V (.agg (Xa m)) (.rats (List.replicate m 0)):=by
 refine⟨Xa m,rfl,λj a=>?_⟩;rw[Ar]at a;obtain⟨b,c,e,d⟩:=ML a;exact⟨_,_,_,_,b,c,e,d,by rw[J3];exact EO _⟩
def Gw(w W V:C)(bs:List (Option (Nat × Dat)))(a:Nat)(n:Int)(gQ r:Nat):Prop:=Gv w V bs a n gQ r/\KeepsOthers W V
theorem Gw.below{w W V V':C}{bs:List (Option (Nat × Dat))}{a:Nat}{n:Int}{gQ r:Nat}(h:Gw w W V bs a n gQ r)(b:Bl V V'):Gw w W V' bs a n gQ r:=⟨h.1.below b,h.2.trans (Yc b)⟩
def GM(d:Bool)(w W V:C)(bs:List (Option (Nat × Dat)))(a:Nat)(n:Int)(gQ r:Nat)(t:E):Prop:=
 (d=false->Gw w W V bs a n gQ r)/\(d=true->∃b,t=.pointer (some ⟨b,0,none⟩)/\Gw w W V (bs++[some (b,.rat 0)]) a n gQ r)
def Mk(w W V:C)(bs:List (Option (Nat × Dat)))(b:Nat)(n:Int)(gQ r:Nat)(t:E)(c:Rat):Prop:=∃a,t=.pointer (some ⟨a,0,none⟩)/\Gw w W V (bs++[some (a,.rat c)]) b n gQ r
theorem Mk.below{w W V V':C}{bs:List (Option (Nat × Dat))}{a:Nat}{n:Int}{gQ r:Nat}{t:E}{c:Rat}(h:Mk w W V bs a n gQ r t c)(b:Bl V V'):Mk w W V' bs a n gQ r t c:=by
 obtain⟨d,e,h⟩:=h;exact⟨d,e,h.below b⟩
theorem GM.below{d:Bool}{w W V V':C}{bs:List (Option (Nat × Dat))}{a:Nat}{n:Int}{gQ r:Nat}{t:E}(h:GM d w W V bs a n gQ r t)(b:Bl V V'):GM d w W V' bs a n gQ r t:=
 ⟨λe=>(h.1 e).below b,λe=>by obtain⟨f,c,g⟩:=h.2 e;exact⟨f,c,g.below b⟩⟩
theorem GM.base{W:C}{bs:List (Option (Nat × Dat))}{n:Int}{gQ:Nat}(h:GM d w W V bs f n gQ r t):Gw w W V bs f n gQ r:=by
 cases d with
 |false=>exact h.1 rfl
 |true=>
  obtain⟨e,_,⟨c,b⟩,a⟩:=h.2 rfl;have:=c.take bs.length;rw[List.take_left' rfl]at this;exact⟨⟨this,b⟩,a⟩
theorem GM.alloc{w W V:C}{bs:List (Option (Nat × Dat))}{a:Nat}{n:Int}{gQ r:Nat}{t:E}(h:GM false w W V bs a n gQ r t):GM true w W (V.alloc (.cells #[.bool false,.slice none 0 0,.bool false,.slice none 0 0] 38)) bs a n gQ r (.pointer (some ⟨V.heap.size,0,none⟩)):=by
 have b:=h.1 rfl;have c:=b.below (Ba V (.cells #[.bool false,.slice none 0 0,.bool false,.slice none 0 0] 38));exact⟨(λe=>by cases e),λ_=>⟨_,rfl,⟨b.1.1.push (.rat 0) (EO _),c.1.2⟩,c.2⟩⟩
def Hy(_:C):Prop:=True
theorem Hy.below(_:Hy V)(_:Bl V V'):Hy V':=trivial
def Hz(d:Bool)(V:C)(t:E)(c:Rat):Prop:=∃u,t=.tuple #[u,.bool true]/\(d=false->Ji V u c)
theorem Hz.below{d:Bool}{V V':C}{t:E}{c:Rat}(h:Hz d V t c)(a:Bl V V'):Hz d V' t c:=by
 obtain⟨u,e,h⟩:=h;exact⟨u,e,λe=>(h e).below a⟩
theorem Hz.drop{c:Rat}(h:Hz d V t c)(V':C):Hz true V' t c:=by
 obtain⟨u,e,_⟩:=h;exact⟨u,e,λe=>by cases e⟩
theorem JO{o:Nat}{x:E}(h:o≠f):(V.setCell ⟨g,f,none⟩ x).cell? ⟨g,o,none⟩=V.cell? ⟨g,o,none⟩:=World.cell?_setCell_other _ _ _ _ (by intro e;cases e;exact h rfl)
theorem ZQ.put{i:Nat}(h:ZQ V g (i+1))(x y z u:E):ZQ (putAt V g (i*4) x y z u) g i:=λj e=>by
 obtain⟨a,b,d,c⟩:=h j om;unfold putAt;refine⟨?_,?_,?_,?_⟩
 . rw[JO om,JO om,JO om,JO om];exact a
 . rw[JO om,JO om,JO om,JO om];exact b
 . rw[JO om,JO om,JO om,JO om];exact d
 . rw[JO om,JO om,JO om,JO om];exact c
theorem _root_.Go.Proofs.YtcahejkcdcjjgaaGreatDoor.JC.setP{ps:List Rat}(h:JC V v ps){a:Option Addr}{l c:Nat}(b:F V B 25 (.slice a l c))(x:E):JC (V.setCell ⟨B,0,none⟩ x) v ps:=by
 obtain⟨u,e,d⟩:=h;exact⟨u,e,Ei b x d⟩
theorem boxed_below{t:TypeId}(h:F V B t v)(a:Bl V V'):F V' B t v:=(a.block B h.lt).trans h
def Ml(w V:C)(D c b:Nat)(rs a:E)(R Q:List Rat):Prop:=
 F V (w.heap.size+1+1) 25 (.slice none 0 0)/\F V (w.heap.size+1+1+1) 25 (.slice none 0 0)/\F V c 23 rs/\F V b 23 a/\RowK true V rs R/\RowK true V a Q/\Bl w V/\V.heap[D]?=some (.deferred (some []))
theorem Ml.below{w V V':C}{D c b:Nat}{rs d:E}{R Q:List Rat}(h:Ml w V D c b rs d R Q)(a:Bl V V'):Ml w V' D c b rs d R Q:=
 ⟨boxed_below h.1 a,boxed_below h.2.1 a,boxed_below h.2.2.1 a,boxed_below h.2.2.2.1 a,h.2.2.2.2.1.below a,h.2.2.2.2.2.1.below a,Bt h.2.2.2.2.2.2.1 a,(a.block D (Ac.1 h.2.2.2.2.2.2.2).1).trans h.2.2.2.2.2.2.2⟩
def Mm(d:Bool)(w V:C)(D:Nat)(t:E):Prop:=d=true->∃v,t=.agg #[v]/\F V (w.heap.size+1+1) 25 v/\F V (w.heap.size+1+1+1) 25 (.slice none 0 0)/\Bl w V/\V.heap[D]?=some (.deferred (some []))
theorem Mm.below{D:Nat}(h:Mm d w V D t)(a:Bl V V'):Mm d w V' D t:=λe=>by
 obtain⟨v,c,f,i,g,b⟩:=h e;exact⟨v,c,boxed_below f a,boxed_below i a,Bt g a,(a.block D (Ac.1 b).1).trans b⟩
def Mn(w V:C)(D:Nat)(t b:E)(P c:List Rat):Prop:=∃v a,t=.agg #[v]/\b=.agg #[a]/\F V (w.heap.size+1+1) 25 v/\F V (w.heap.size+1+1+1) 25 a/\JC V t P/\JC V b c/\Bl w V/\V.heap[D]?=some (.deferred (some []))
theorem Mn.below{w V V':C}{D:Nat}{t c:E}{P d:List Rat}(h:Mn w V D t c P d)(a:Bl V V'):Mn w V' D t c P d:=by
 obtain⟨v,e,f,j,k,m,i,l,g,b⟩:=h;exact⟨v,e,f,j,boxed_below k a,boxed_below m a,i.below a,l.below a,Bt g a,(a.block D (Ac.1 b).1).trans b⟩
def Mo(V:C)(t:E)(c:Rat):Prop:=∃u,t=.tuple #[u,.bool true]/\Ji V u c
theorem Mo.below{V V':C}{t:E}{c:Rat}(h:Mo V t c)(a:Bl V V'):Mo V' t c:=by
 obtain⟨u,e,h⟩:=h;exact⟨u,e,h.below a⟩
end Go.Proofs.YtcahejkcdcjjgaaGreatDoor.M3
