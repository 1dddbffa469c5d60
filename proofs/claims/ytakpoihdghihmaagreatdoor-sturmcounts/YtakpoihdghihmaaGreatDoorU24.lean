import Derived.Test.YtakpoihdghihmaaGreatDoorU20
import Derived.Test.YtakpoihdghihmaaGreatDoorU15
import Derived.Test.YtakpoihdghihmaaGreatDoorU16
import Derived.Test.YtakpoihdghihmaaGreatDoorU06
import Derived.Test.YtakpoihdghihmaaGreatDoorU23
set_option linter.all false
open Go renaming Value->E,World->G,Calls->M,undef->R
open Go.Value renaming slice->C,bool->H,agg->L,pointer->N
open Go.Obj renaming cells->F
open Go.Proofs.Tryz renaming prog->I
set_option maxRecDepth 99999
set_option maxHeartbeats 0
namespace Go.Proofs.YtakpoihdghihmaaGreatDoor
open List renaming replicate->nL
open Proofs.Tryz
open Go.RowKit Go.Shelf
attribute [local go_sem] Oper.semAt_some
def Bb:=@of_decide_eq_true
def Jm.set{W:G}{v:E}{z:Int}(h:Jm W v z){p:Addr}{u0:E}(hp:W.cell? p=some u0)(b:JE u0=true)(u:E):Jm (W.setCell p u) v z:=by
 obtain⟨a,l,cap,e,c⟩:=h;exact⟨a,l,cap,e,Row.set c hp b u⟩
def Jm.form{W:G}{v:E}{z:Int}(h:Jm W v z):∃a l cap,v=L #[H (decide (z<0)),C a l cap]:=by
 obtain⟨a,l,cap,e,_⟩:=h;exact⟨a,l,cap,e⟩
def Jm.alloc{W:G}{v:E}{z:Int}(h:Jm W v z)(o:Obj):Jm (W.alloc o) v z:=h.below (Ba W o)
def Jm.drew{W:G}{v:E}{z:Int}(h:Jm W v z):Jm W.drew v z:=h
def Jm.box{W:G}{R:Nat}{t:TypeId}{u0 u1 x0 x1 v:E}{z:Int}(h:Jm W v z)(q:Jp W R t u0 u1)(c:JE u0=true)(d:JE u1=true):Jm ((W.setCell ⟨R,0,none⟩ x0).setCell ⟨R,1,none⟩ x1) v z:=by
 obtain⟨a,l,cap,e,b⟩:=h;exact⟨a,l,cap,e,Row.set (Row.set b q.c0 c _) (u0:=u1) (q.set0 x0).c1 d _⟩
def JB(W:G)(B:Nat)(t:TypeId)(x y z u:E):Prop:=W.heap[B]?=some (F #[x,y,z,u] t (0,0))
section
variable {W W':World} {B:Nat} {t:TypeId} {x y z u:Value}
def JB.lt(h:JB W B t x y z u):B<W.heap.size:=(Ab.1 h).1
def JB.c0(h:JB W B t x y z u):W.cell? ⟨B,0,none⟩=some x:=by simp[World.cell?,show W.heap[B]?=_ from h]
def JB.c1(h:JB W B t x y z u):W.cell? ⟨B,1,none⟩=some y:=by simp[World.cell?,show W.heap[B]?=_ from h]
def JB.cp(h:JB W B t x y z u):type_of% (And.intro h.c0 h.c1):=⟨h.c0,h.c1⟩
def JB.c2(h:JB W B t x y z u):W.cell? ⟨B,2,none⟩=some z:=by simp[World.cell?,show W.heap[B]?=_ from h]
def JB.c3(h:JB W B t x y z u):W.cell? ⟨B,3,none⟩=some u:=by simp[World.cell?,show W.heap[B]?=_ from h]
def JB.cq(h:JB W B t x y z u):type_of% (And.intro h.c0 (And.intro h.c1 (And.intro h.c2 h.c3))):=⟨h.c0,h.c1,h.c2,h.c3⟩
def JB.f0(h:JB W B t x y z u):W.frozen? ⟨B,0,none⟩=false:=by simp[World.frozen?,show W.heap[B]?=_ from h]
def JB.f1(h:JB W B t x y z u):W.frozen? ⟨B,1,none⟩=false:=by simp[World.frozen?,show W.heap[B]?=_ from h]
def JB.fp(h:JB W B t x y z u):type_of% (And.intro h.f0 h.f1):=⟨h.f0,h.f1⟩
def JB.f2(h:JB W B t x y z u):W.frozen? ⟨B,2,none⟩=false:=by simp[World.frozen?,show W.heap[B]?=_ from h]
def JB.f3(h:JB W B t x y z u):W.frozen? ⟨B,3,none⟩=false:=by simp[World.frozen?,show W.heap[B]?=_ from h]
def JB.fq(h:JB W B t x y z u):type_of% (And.intro h.f0 (And.intro h.f1 (And.intro h.f2 h.f3))):=⟨h.f0,h.f1,h.f2,h.f3⟩
def JB.new(W:G)(t:TypeId)(x y z u:E):JB (W.alloc (F #[x,y,z,u] t)) W.heap.size t x y z u:=BB W _
def JB.below(h:JB W B t x y z u)(a:Bl W W'):JB W' B t x y z u:=(a.block B h.lt).trans h
def JB.alloc(h:JB W B t x y z u)(o:Obj):JB (W.alloc o) B t x y z u:=h.below (Ba W o)
def JB.drew(h:JB W B t x y z u):JB W.drew B t x y z u:=h
theorem JB.set0(h:JB W B t x y z u)(v:E):JB (W.setCell ⟨B,0,none⟩ v) B t v y z u:=by
 obtain⟨b,a⟩:=Ab.1 h;show(W.heap.modify B _)[B]?=_;grind
theorem JB.set1(h:JB W B t x y z u)(v:E):JB (W.setCell ⟨B,1,none⟩ v) B t x v z u:=by
 obtain⟨b,a⟩:=Ab.1 h;show(W.heap.modify B _)[B]?=_;grind
theorem JB.set2(h:JB W B t x y z u)(v:E):JB (W.setCell ⟨B,2,none⟩ v) B t x y v u:=by
 obtain⟨b,a⟩:=Ab.1 h;show(W.heap.modify B _)[B]?=_;grind
theorem JB.set3(h:JB W B t x y z u)(v:E):JB (W.setCell ⟨B,3,none⟩ v) B t x y z v:=by
 obtain⟨b,a⟩:=Ab.1 h;show(W.heap.modify B _)[B]?=_;grind
def JB.far(h:JB W B t x y z u){p:Addr}(hp:B≠p.block)(v:E):JB (W.setCell p v) B t x y z u:=(BC W p v B hp).trans h
end
def put4(W:G)(B:Nat)(x y z u:E):G:=(((W.setCell ⟨B,0,none⟩ x).setCell ⟨B,1,none⟩ y).setCell ⟨B,2,none⟩ z).setCell ⟨B,3,none⟩ u
def JB.put{W:G}{B:Nat}{t:TypeId}{x y z u:E}(h:JB W B t x y z u)(b c d a:E):JB (put4 W B b c d a) B t b c d a:=(((h.set0 b).set1 c).set2 d).set3 a
def JB.putFar{W:G}{B C:Nat}{t:TypeId}{x y z u:E}(h:JB W B t x y z u)(a:B≠C)(c d e b:E):JB (put4 W C c d e b) B t x y z u:=(((h.far a c).far a d).far a e).far a b
def Jp.putFar{W:G}{B C:Nat}{t:TypeId}{x y:E}(h:Jp W B t x y)(a:B≠C)(c d e b:E):Jp (put4 W C c d e b) B t x y:=(((h.far a c).far a d).far a e).far a b
def Jn{n B:Nat}{w W:G}(h:Below n w W)(a:n<=B)(x y z u:E):Below n w (put4 W B x y z u):=(((h.setCell (p:=⟨B,0,none⟩) a _).setCell (p:=⟨B,1,none⟩) a _).setCell (p:=⟨B,2,none⟩) a _).setCell (p:=⟨B,3,none⟩) a _
def Row.put4{k:IntKind}{W:G}{v:E}{ds:m4}(h:Row k W v ds){B:Nat}{t:TypeId}{x y z u:E}(q:JB W B t x y z u)(d:JE x=true)(e:JE y=true)(f:JE z=true)(g:JE u=true)(a b c i:E):Row k (put4 W B a b c i) v ds:=
 Row.set (Row.set (Row.set (Row.set h q.c0 d _) (q.set0 a).c1 e _) ((q.set0 a).set1 b).c2 f _) (((q.set0 a).set1 b).set2 c).c3 g _
def Jm.put4{W:G}{v:E}{i:Int}(h:Jm W v i){B:Nat}{t:TypeId}{x y z u:E}(q:JB W B t x y z u)(c:JE x=true)(d:JE y=true)(f:JE z=true)(g:JE u=true)(k m n j:E):Jm (put4 W B k m n j) v i:=by
 obtain⟨a,l,cap,e,b⟩:=h;exact⟨a,l,cap,e,Row.put4 b q c d f g _ _ _ _⟩
def Jw.put4{W:G}{v:E}{i:Int}(h:Jw W v i){B:Nat}{t:TypeId}{x y z u:E}(q:JB W B t x y z u)(c:JE x=true)(d:JE y=true)(f:JE z=true)(g:JE u=true)(k m n j:E):Jw (put4 W B k m n j) v i:=by
 obtain⟨a,l,cap,e,b⟩:=h;exact⟨a,l,cap,e,Row.put4 b q c d f g _ _ _ _⟩
def Jj(W:G)(v:E)(q:Rat):Prop:=∃s a l c t b k d,v=L #[H s,C a l c,H t,C b k d]/\Jm W (L #[H s,C a l c]) q.num/\Jm W (L #[H t,C b k d]) (denZ q)
def Jj.below{W W':G}{v:E}{q:Rat}(h:Jj W v q)(f:Bl W W'):Jj W' v q:=by
 obtain⟨s,a,l,c,t,b,k,d,e,g,i⟩:=h;exact⟨s,a,l,c,t,b,k,d,e,g.below f,i.below f⟩
def Jj.put4{W:G}{v:E}{p:Rat}(h:Jj W v p){B:Nat}{t:TypeId}{x y z u:E}(q:JB W B t x y z u)(f:JE x=true)(g:JE y=true)(i:JE z=true)(j:JE u=true)(r w A o:E):Jj (put4 W B r w A o) v p:=by
 obtain⟨s,a,l,c,t,b,k,d,e,m,n⟩:=h;exact⟨s,a,l,c,t,b,k,d,e,m.put4 q f g i j _ _ _ _,n.put4 q f g i j _ _ _ _⟩
def Jk(W:G)(v:E)(q:Rat):Prop:=∃a l c s b k d t,v=L #[C a l c,H s,C b k d,H t]/\Jw W (L #[C a l c,H s]) q.num/\Jw W (L #[C b k d,H t]) (q.den:Int)
def Jk.below{W W':G}{v:E}{q:Rat}(h:Jk W v q)(f:Bl W W'):Jk W' v q:=by
 obtain⟨s,a,l,c,t,b,k,d,e,g,i⟩:=h;exact⟨s,a,l,c,t,b,k,d,e,g.below f,i.below f⟩
def Jk.put4{W:G}{v:E}{p:Rat}(h:Jk W v p){B:Nat}{t:TypeId}{x y z u:E}(q:JB W B t x y z u)(f:JE x=true)(g:JE y=true)(i:JE z=true)(j:JE u=true)(r w A o:E):Jk (put4 W B r w A o) v p:=by
 obtain⟨s,a,l,c,t,b,k,d,e,m,n⟩:=h;exact⟨s,a,l,c,t,b,k,d,e,m.put4 q f g i j _ _ _ _,n.put4 q f g i j _ _ _ _⟩
section
def XD(W:G)(v:E)(x y:Int):Prop:=∃s a l c t b k d,v=L #[H s,C a l c,H t,C b k d]/\Jm W (L #[H s,C a l c]) x/\Jm W (L #[H t,C b k d]) y
variable{cs:Array E}{r:Bool}{qs:Ja}{b j n:Nat}{m:Nat × Nat}{V':G}
def Jj.pair{W:G}{v:E}{q:Rat}(h:Jj W v q):XD W v q.num (denZ q):=h
theorem XD.form{W:G}{v:E}{x y:Int}(h:XD W v x y):∃s a l c t b k d,v=L #[H s,C a l c,H t,C b k d]:=by
 obtain⟨s,a,l,c,t,b,k,d,e,_⟩:=h;grind
def XD.below{W W':G}{v:E}{x y:Int}(h:XD W v x y)(f:Bl W W'):XD W' v x y:=by
 obtain⟨s,a,l,c,t,b,k,d,e,g,i⟩:=h;exact⟨s,a,l,c,t,b,k,d,e,g.below f,i.below f⟩
def XD.keep{V:G}{v:E}{x y:Int}(h:XD V v x y)(f:∀k v ds,Row k V v ds->Row k V' v ds):XD V' v x y:=by
 obtain⟨s,a,l,c,t,b,k,d,e,⟨g,l1,c1,j,n⟩,⟨i,l2,c2,m,o⟩⟩:=h;exact⟨s,a,l,c,t,b,k,d,e,⟨g,l1,c1,j,f _ _ _ n⟩,⟨i,l2,c2,m,f _ _ _ o⟩⟩
def Jk.keep{V:G}{v:E}{q:Rat}(h:Jk V v q)(f:∀k v ds,Row k V v ds->Row k V' v ds):Jk V' v q:=by
 obtain⟨s,a,l,c,t,b,k,d,e,⟨g,l1,c1,j,n⟩,⟨i,l2,c2,m,o⟩⟩:=h;exact⟨s,a,l,c,t,b,k,d,e,⟨g,l1,c1,j,f _ _ _ n⟩,⟨i,l2,c2,m,f _ _ _ o⟩⟩
theorem cU{α:Type}(l:List α)(x y:α):(l++[x]).set l.length y=l++[y]:=by
 grind
theorem Jm.form2{W:G}{v:E}{z:Int}(h:Jm W v z):∃s a l c,v=L #[H s,C a l c]:=by
 obtain⟨a,l,c,e,_⟩:=h;grind
theorem Jw.form2{W:G}{v:E}{z:Int}(h:Jw W v z):∃a l c s,v=L #[C a l c,H s]:=by
 obtain⟨a,l,c,e,_⟩:=h;grind
theorem Jj.form{W:G}{v:E}{q:Rat}(h:Jj W v q):∃s a l c t b k d,v=L #[H s,C a l c,H t,C b k d]:=by
 obtain⟨s,a,l,c,t,b,k,d,e,_⟩:=h;grind
theorem Jk.form{W:G}{v:E}{q:Rat}(h:Jk W v q):∃a l c s b k d t,v=L #[C a l c,H s,C b k d,H t]:=by
 obtain⟨s,a,l,c,t,b,k,d,e,_⟩:=h;grind
theorem ET(W:G):Jm W (L #[H false,C Option.none 0 0]) 0:=
 ⟨Option.none,0,0,DG,by grind[UN,JG,Row.nil]⟩
theorem cV(W:G):Jw W (L #[C Option.none 0 0,H false]) 0:=
 ⟨Option.none,0,0,DG,by grind[RN,JG,Row.nil]⟩
def D8(W:G):Jj W (L #[H false,C Option.none 0 0,H false,C Option.none 0 0]) 0:=⟨_,_,_,_,_,_,_,_,rfl,ET W,ET W⟩
def Dr(r:Bool)(W:G)(v:E)(q:Rat):Prop:=match r with|true=>Jj W v q|false=>Jk W v q
def Dn(r:Bool):TypeId:=match r with|true=>37|false=>47
def Dr.below{r:Bool}{W W':G}{v:E}{q:Rat}(h:Dr r W v q)(a:Bl W W'):Dr r W' v q:=by
 cases r with
 |true=>exact Jj.below h a
 |false=>exact Jk.below h a
def Dr.keep{r:Bool}{W W':G}{v:E}{q:Rat}(h:Dr r W v q)(a:∀k v ds,Row k W v ds->Row k W' v ds):Dr r W' v q:=by
 cases r with
 |true=>exact XD.keep h a
 |false=>exact Jk.keep h a
def Dr.form{W:G}{v:E}{q:Rat}(h:Dr r W v q):∃x y z u,v=L #[x,y,z,u]/\JE x=true/\JE y=true/\JE z=true/\JE u=true:=by
 cases r with
 |true=>
  obtain⟨s,a,l,c,t,b,k,d,e,_⟩:=(show Jj W v q from h);exact⟨_,_,_,_,e,rfl,rfl,rfl,rfl⟩
 |false=>
  obtain⟨s,a,l,c,t,b,k,d,e,_⟩:=(show Jk W v q from h);exact⟨_,_,_,_,e,rfl,rfl,rfl,rfl⟩
theorem Dr.no{W:G}{x y z u:E}{q:Rat}(h:Dr r W (L #[x,y,z,u]) q):JE x=true/\JE y=true/\JE z=true/\JE u=true:=by
 obtain⟨g,i,j,f,e,a,b,c,d⟩:=h.form;grind
theorem Dr.one{W:G}{x y z u:E}{q:Rat}(h:Dr r W (L #[x,y,z,u]) q):∀v∈[x,y,z,u],v.oneCell'=true:=by
 cases r with
 |true=>
  obtain⟨s,a,l,c,t,b,k,d,e,_⟩:=(show Jj W _ q from h);cases e;intro v f;simp at f;rcases f with rfl|rfl|rfl|rfl<;>rfl
 |false=>
  obtain⟨s,a,l,c,t,b,k,d,e,_⟩:=(show Jk W _ q from h);cases e;intro v f;simp at f;rcases f with rfl|rfl|rfl|rfl<;>rfl
def Dh(r:Bool)(W:G)(b:Nat)(qs:Ja):Prop:=
 ∃cs:Array E,W.heap[b]?=some (F cs (Dn r) (0,0))/\∀j,j<qs.length->∃x y z u,cs[j*4]?=some x/\cs[j*4+1]?=some y/\cs[j*4+2]?=some z/\cs[j*4+3]?=some u/\Dr r W (L #[x,y,z,u]) (cf qs j)
theorem Dh.lt{W:G}(h:Dh r W b qs):b<W.heap.size:=by obtain⟨cs,h,_⟩:=h;grind
def Dh.below{r:Bool}{W W':G}{b:Nat}{qs:Ja}(h:Dh r W b qs)(a:Bl W W'):Dh r W' b qs:=by
 have hl:=h.lt;obtain⟨cs,g,i⟩:=h;refine⟨cs,(a.block b hl).trans g,λj l=>?_⟩;obtain⟨x,y,z,u,c,d,e,f,k⟩:=i j l;exact⟨x,y,z,u,c,d,e,f,k.below a⟩
def Dh.keep{r:Bool}{W W':G}{b:Nat}{qs:Ja}(h:Dh r W b qs)(l:W'.heap[b]?=W.heap[b]?)(n:∀k v ds,Row k W v ds->Row k W' v ds):Dh r W' b qs:=by
 obtain⟨cs,f,g⟩:=h;refine⟨cs,l.trans f,λj m=>?_⟩;obtain⟨x,y,z,u,a,c,d,e,i⟩:=g j m;exact⟨x,y,z,u,a,c,d,e,i.keep n⟩
def Dh.alloc{r:Bool}{W:G}{b:Nat}{qs:Ja}(h:Dh r W b qs)(o:Obj):Dh r (W.alloc o) b qs:=h.below (Ba W o)
theorem Dh.take{r:Bool}{W:G}{b:Nat}{qs:Ja}(h:Dh r W b qs)(n:Nat):Dh r W b (qs.take n):=by
 obtain⟨cs,a,c⟩:=h;refine⟨cs,a,λj d=>?_⟩;rw[Ai]at d;obtain⟨x,y,z,u,e,f,g,i,k⟩:=c j O;grind[Nz]
theorem Dh.at{W:G}(h:Dh r W b qs)(d:j<qs.length):
 ∃x y z u,W.cell? ⟨b,j*4,none⟩=some x/\W.cell? ⟨b,j*4+1,none⟩=some y/\W.cell? ⟨b,j*4+2,none⟩=some z/\W.cell? ⟨b,j*4+3,none⟩=some u/\Dr r W (L #[x,y,z,u]) (cf qs j):=by
 obtain⟨cs,a,c⟩:=h;grind[World.cell?]
def Dh.frozen{r:Bool}{W:G}{b:Nat}{qs:Ja}(h:Dh r W b qs)(o:Nat):W.frozen? ⟨b,o,none⟩=false:=by obtain⟨cs,a,_⟩:=h;simp[World.frozen?,a]
def putAt(W:G)(b o:Nat)(x y z u:E):G:=(((W.setCell ⟨b,o,none⟩ x).setCell ⟨b,o+1,none⟩ y).setCell ⟨b,o+2,none⟩ z).setCell ⟨b,o+3,none⟩ u
theorem JY{W:G}{o:Nat}{t:TypeId}(h:W.heap[b]?=some (F cs t m))(v:E):(W.setCell ⟨b,o,none⟩ v).heap[b]?=some (F (cs.setIfInBounds o v) t m):=by
 obtain⟨c,a⟩:=Ab.1 h;show(W.heap.modify b _)[b]?=_;grind
def SY{W:G}{o:Nat}{t:TypeId}(h:W.heap[b]?=some (F cs t m))(x y z u:E):(putAt W b o x y z u).heap[b]?=some (F ((((cs.setIfInBounds o x).setIfInBounds (o+1) y).setIfInBounds (o+2) z).setIfInBounds (o+3) u) t m):=
 JY (JY (JY (JY h x) y) z) u
def LY{W:G}{o B:Nat}(a:B≠b)(x y z u:E):(putAt W b o x y z u).heap[B]?=W.heap[B]?:=
 (BC _ _ _ B a).trans ((BC _ _ _ B a).trans ((BC _ _ _ B a).trans (BC _ _ _ B a)))
def SZ{o:Nat}{w W:G}(h:Below n w W)(a:n<=b)(x y z u:E):Below n w (putAt W b o x y z u):=
 (((h.setCell (p:=⟨b,o,none⟩) a _).setCell (p:=⟨b,o+1,none⟩) a _).setCell (p:=⟨b,o+2,none⟩) a _).setCell (p:=⟨b,o+3,none⟩) a _
theorem cell_of{W:G}{o:Nat}{t:TypeId}{x:E}(h:W.heap[b]?=some (F cs t m))(e:cs[o]?=some x):W.cell? ⟨b,o,none⟩=some x:=by simp[World.cell?,h,e]
def cW{W:G}{o:Nat}{t:TypeId}{x0 a z0 u0:E}(h:W.heap[b]?=some (F cs t m))(c:cs[o]?=some x0)(d:cs[o+1]?=some a)(e:cs[o+2]?=some z0)(f:cs[o+3]?=some u0)
(i:JE x0=true)(j:JE a=true)(l:JE z0=true)(n:JE u0=true)(x y z u:E):∀k v ds,Row k W v ds->Row k (putAt W b o x y z u) v ds:=λk v ds g=>by
 have c1:((cs.setIfInBounds o x))[o+1]?=some a:=by rw[Ag O];exact d
 have c2:(((cs.setIfInBounds o x).setIfInBounds (o+1) y))[o+2]?=some z0:=by rw[Ag O,Ag O];exact e
 have c3:((((cs.setIfInBounds o x).setIfInBounds (o+1) y).setIfInBounds (o+2) z))[o+3]?=some u0:=by rw[Ag O,Ag O,Ag O];exact f
 exact Row.set (Row.set (Row.set (Row.set g (cell_of h c) i _) (cell_of (JY h x) c1) j _) (cell_of (JY (JY h x) y) c2) l _) (cell_of (JY (JY (JY h x) y) z) c3) n _
def Dh.putKeep{W:G}(h:Dh r W b qs)(l:j<qs.length)(x y z u:E):∀k v ds,Row k W v ds->Row k (putAt W b (j*4) x y z u) v ds:=by
 obtain⟨cs,f,g⟩:=h;obtain⟨x0,q,z0,u0,a,c,d,e,i⟩:=g j l;obtain⟨m,n,o,p⟩:=i.no;exact cW f a c d e m n o p x y z u
theorem Dh.set{r:Bool}{W:G}{b:Nat}{qs:Ja}(h:Dh r W b qs){j:Nat}(a:j<qs.length){x y z u:E}{q:Rat}(v:Dr r W (L #[x,y,z,u]) q):Dh r (putAt W b (j*4) x y z u) b (qs.set j q):=by
 have f:=h.putKeep a x y z u;obtain⟨cs,s,c⟩:=h;obtain⟨x0,Q,z0,u0,m,n,o,p,B⟩:=c j a;refine⟨_,SY s x y z u,λi d=>?_⟩;rw[Fg]at d;have g:=(Ab.1 m).1;have D:=(Ab.1 n).1;have K:=(Ab.1 o).1;have P:=(Ab.1 p).1;by_cases e:i=j
 . subst e;refine⟨x,y,z,u,?_,?_,?_,?_,?_⟩
   . rw[Ag O,Ag O,Ag O,Array.getElem?_setIfInBounds_self_of_lt g]
   . grind[Ag,Array.getElem?_setIfInBounds_self_of_lt]
   . grind
   . grind
   . rw[XY _ _ _ _ a,BG rfl];exact v.keep f
 . obtain⟨x1,w,A,u1,d0,d1,k,l,t⟩:=c i d;refine⟨x1,w,A,u1,?_,?_,?_,?_,?_⟩
   . rw[Ag O,Ag O,Ag O,Ag O];exact d0
   . rw[Ag O,Ag O,Ag O,Ag O];exact d1
   . rw[Ag O,Ag O,Ag O,Ag O];exact k
   . rw[Ag O,Ag O,Ag O,Ag O];exact l
   . rw[XY _ _ _ _ a,BD e];exact t.keep f
def RowK(r:Bool)(W:G)(v:E)(qs:Ja):Prop:=
 ∃a cap,v=C a qs.length cap/\qs.length<=cap/\cap<=9223372036854775807/\qs.length<=1099511627776/\(qs=[]\/∃b,a=some ⟨b,0,none⟩/\Dh r W b qs)
def RowK.below{r:Bool}{W W':G}{v:E}{qs:Ja}(h:RowK r W v qs)(k:Bl W W'):RowK r W' v qs:=by
 obtain⟨a,cap,e,f,g,i,c⟩:=h;refine⟨a,cap,e,f,g,i,?_⟩;rcases c with c|⟨b,d,j⟩
 . exact An c
 . exact Au ⟨b,d,j.below k⟩
theorem RowK.nil(r:Bool)(W:G):RowK r W (C none 0 0) []:=⟨none,0,rfl,Aa _,O,DG,An rfl⟩
def Dh.row{W:G}(h:Dh r W b qs){cap:Nat}(d:n<=qs.length)(c:n<=cap)(a:cap<=9223372036854775807)(hl:n<=1099511627776):RowK r W (C (some ⟨b,0,none⟩) n cap) (qs.take n):=by
 have e:(qs.take n).length=n:=by rw[Ai];omega
 exact⟨_,cap,by rw[e],O,a,O,Au ⟨b,rfl,h.take n⟩⟩
theorem RowK.open{W:G}{v:E}(h:RowK r W v qs):∃a cap,v=C a qs.length cap/\qs.length<=cap/\cap<=9223372036854775807/\qs.length<=1099511627776/\
 Hid (∀j,j<qs.length->∃b,a=some ⟨b,0,none⟩/\Dh r W b qs):=by
 obtain⟨a,cap,e,c,d,f,g⟩:=h;refine⟨a,cap,e,c,d,f,λj i=>?_⟩;grind
def RowK.take{r:Bool}{W:G}{a:nJ}{l cap:Nat}{qs:Ja}(h:RowK r W (C a l cap) qs){n:Nat}(m:n<=l):RowK r W (C a n cap) (qs.take n):=by
 obtain⟨a',i,e,j,f,k,c⟩:=h;cases e;have e:(qs.take n).length=n:=by rw[Ai];omega
 refine⟨a,cap,by rw[e],O,f,O,?_⟩;rcases c with c|⟨b,d,g⟩
 . left;rw[c];simp
 . exact Au ⟨b,d,g.take n⟩
def Jh(W:G)(v:E)(ps:Ja):Prop:=∃u,v=L #[u]/\RowK true W u ps
def Jh.below{W W':G}{v:E}{ps:Ja}(h:Jh W v ps)(b:Bl W W'):Jh W' v ps:=by
 obtain⟨u,e,a⟩:=h;exact⟨u,e,a.below b⟩
def RowK.form{W:G}{v:E}(h:RowK r W v qs):∃a l c,v=C a l c:=by
 obtain⟨a,cap,e,_⟩:=h;exact⟨a,_,cap,e⟩
def Jh.form{W:G}{v:E}{ps:Ja}(h:Jh W v ps):∃a l c,v=L #[C a l c]:=by
 obtain⟨u,e,b⟩:=h;obtain⟨a,l,c,rfl⟩:=b.form;exact⟨a,l,c,e⟩
def Jh.row{W:G}{a:nJ}{l c:Nat}{ps:Ja}(h:Jh W (L #[C a l c]) ps):RowK true W (C a l c) ps:=by
 obtain⟨u,e,b⟩:=h;cases e;exact b
structure Sqs(qs:Ja):Prop where
 all:∀i,Sq (cf qs i)
def Sqs.at(h:Sqs qs)(i:Nat):Sq (cf qs i):=h.all i
theorem Sqs.of(h:∀i,Sq (cf qs i)):Sqs qs:=⟨h⟩
def Y1(r:Bool)(W:G)(cs:List E)(qs:Ja):Prop:=
 cs.length=qs.length*4/\∀j,j<qs.length->∃x y z u,cs[j*4]?=some x/\cs[j*4+1]?=some y/\cs[j*4+2]?=some z/\cs[j*4+3]?=some u/\Dr r W (L #[x,y,z,u]) (cf qs j)
theorem Y1.nil(r:Bool)(W:G):Y1 r W [] []:=⟨rfl,λj a=>by simp at a⟩
def Y1.below{r:Bool}{W W':G}{cs:List E}{qs:Ja}(h:Y1 r W cs qs)(f:Bl W W'):Y1 r W' cs qs:=by
 refine⟨h.1,λj g=>?_⟩;obtain⟨x,y,z,u,a,b,c,d,e⟩:=h.2 j g;exact⟨x,y,z,u,a,b,c,d,e.below f⟩
def Y1.keep{r:Bool}{W W':G}{cs:List E}{qs:Ja}(h:Y1 r W cs qs)(g:∀k v ds,Row k W v ds->Row k W' v ds):Y1 r W' cs qs:=by
 refine⟨h.1,λj f=>?_⟩;obtain⟨x,y,z,u,a,b,c,d,e⟩:=h.2 j f;exact⟨x,y,z,u,a,b,c,d,e.keep g⟩
theorem Y1.one{r:Bool}{W:G}{cs:List E}{qs:Ja}(h:Y1 r W cs qs):∀v∈cs,v.oneCell'=true:=by
 intro v b;obtain⟨k,i,rfl⟩:=FP.1 b;have hl:=h.1;obtain⟨x,y,z,u,c,d,e,f,a⟩:=h.2 (k/4) O;have g:=a.one;grind
theorem Y1.snoc{W:G}{cs:List E}(h:Y1 r W cs qs){x y z u:E}{q:Rat}(hq:Dr r W (L #[x,y,z,u]) q):Y1 r W (cs++[x,y,z,u]) (qs++[q]):=by
 have hl:=h.1;refine⟨by simp;omega,λj b=>?_⟩;rw[Cc,List.length_singleton]at b;by_cases c:j<qs.length
 . obtain⟨l,m,n,k,d,e,f,g,i⟩:=h.2 j c;grind[Ny]
 . have a:j=qs.length:=O
   subst a;refine⟨x,y,z,u,?_,?_,?_,?_,?_⟩
   . grind
   . grind
   . grind
   . grind
   . rw[Ny,BG rfl];exact hq
theorem Dh.cells{W:G}(h:Dh r W b qs):∃cs,Y1 r W cs qs/\∀j u,cs[j]?=some u->W.cell? ⟨b,j,none⟩=some u:=by
 obtain⟨a,m,c⟩:=h;have o:qs.length*4<=a.size:=by
  cases hq:qs.length with
  |zero=>omega
  |succ n=>
   obtain⟨x,y,z,u,_,_,_,d,_⟩:=c n O;grind
 refine⟨a.toList.take (qs.length*4),⟨DI,λj g=>?_⟩,λj u e=>?_⟩
 . obtain⟨x,y,z,u,i,k,l,d,f⟩:=c j g;refine⟨x,y,z,u,?_,?_,?_,?_,f⟩
   . grind
   . grind
   . grind
   grind
 grind[cell_of]
theorem RowK.owns{W:G}{base:Nat}{v:E}{cs:List E}(h:W.ownsRow base (Dn r) 4 v n cs)(e:Y1 r W cs qs)(hl:qs.length<=1099511627776):RowK r W v qs/\n=qs.length/\(v=C none 0 0\/∃g cap,v=C (some ⟨g,0,none⟩) n cap/\base<=g/\Dh r W g qs):=by
 obtain⟨t,i⟩:=h;have p:n=qs.length:=by have:=e.1;omega
 subst p;rcases i with⟨rfl,s⟩|⟨g,cap,f,rfl,l,hg,hle,o,w,q⟩
 . grind[RowK.nil]
 . have hE:Dh r W g qs:=by
    refine⟨f,hg,λj m=>?_⟩;obtain⟨x,y,z,u,a,b,c,d,k⟩:=e.2 j m;rw[<-q]at a b c d;rw[Cw O,C6]at a b c d;exact⟨x,y,z,u,a,b,c,d,k⟩
   refine⟨⟨_,cap,rfl,hle,by unfold maxLen at o;omega,hl,Au ⟨g,rfl,hE⟩⟩,rfl,Au ⟨g,cap,rfl,l,hE⟩⟩
section
variable {V:World} {B:Nat} {t:TypeId} {x y z u:Value}
def Jp.ka(h:Jp V B t x y):V.cell? ⟨B,0,none⟩=some x/\V.cell? ⟨B,1,none⟩=some y:=⟨h.c0,h.c1⟩
def Jp.fa(h:Jp V B t x y):V.frozen? ⟨B,0,none⟩=false/\V.frozen? ⟨B,1,none⟩=false:=⟨h.f0,h.f1⟩
def JB.kb(h:JB V B t x y z u):V.cell? ⟨B,0,none⟩=some x/\V.cell? ⟨B,1,none⟩=some y/\V.cell? ⟨B,2,none⟩=some z/\V.cell? ⟨B,3,none⟩=some u:=⟨h.c0,h.c1,h.c2,h.c3⟩
def JB.fb(h:JB V B t x y z u):V.frozen? ⟨B,0,none⟩=false/\V.frozen? ⟨B,1,none⟩=false/\V.frozen? ⟨B,2,none⟩=false/\V.frozen? ⟨B,3,none⟩=false:=⟨h.f0,h.f1,h.f2,h.f3⟩
end
end
namespace M3
structure Dat where
 ty:TypeId
 has:World->Value->Prop
 noPoly:Bool
 below:∀ {V V':World} {v:Value},has V v->Bl V V'->has V' v
 keep:∀ {V V':World} {v:Value},has V v->(∀k v ds,Row k V v ds->Row k V' v ds)->(noPoly=true\/∀v qs,RowK true V v qs->RowK true V' v qs)->has V' v
def Dat.int(z:Int):Dat where
 ty:=35
 has V v:=Jm V v z
 noPoly:=true
 below h hb:=Jm.below h hb
 keep h hk _:=by
  obtain⟨a,l,c,e,b⟩:=h;exact⟨a,l,c,e,hk _ _ _ b⟩
def Dat.rat(q:Rat):Dat where
 ty:=37
 has V v:=Jj V v q
 noPoly:=true
 below h hb:=Jj.below h hb
 keep h hk _:=XD.keep h hk
def Dat.big(z:Int):Dat where
 ty:=45
 has V v:=Jw V v z
 noPoly:=true
 below h hb:=Jw.below h hb
 keep h hk _:=by
  obtain⟨a,l,c,e,b⟩:=h;exact⟨a,l,c,e,hk _ _ _ b⟩
def Dat.ref(q:Rat):Dat where
 ty:=47
 has V v:=Jk V v q
 noPoly:=true
 below h hb:=Jk.below h hb
 keep h hk _:=Jk.keep h hk
def Dat.zref:Dat where
 ty:=47
 has _ v:=v=L #[C none 0 0,H false,C none 0 0,H false]
 noPoly:=true
 below h _:=h
 keep h _ _:=h
def Dat.pair(x y:Int):Dat where
 ty:=37
 has V v:=XD V v x y
 noPoly:=true
 below h hb:=XD.below h hb
 keep h hk _:=XD.keep h hk
def Dat.rats(qs:Ja):Dat where
 ty:=37
 has V v:=∃cs,v=L cs/\∀j,j<qs.length->∃x y z u,cs[j*4]?=some x/\cs[j*4+1]?=some y/\cs[j*4+2]?=some z/\cs[j*4+3]?=some u/\Dr true V (L #[x,y,z,u]) (cf qs j)
 noPoly:=true
 below h hb:=by
  obtain⟨cs,e,h⟩:=h;refine⟨cs,e,λj g=>?_⟩;obtain⟨x,y,z,u,a,b,c,d,f⟩:=h j g;exact⟨x,y,z,u,a,b,c,d,f.below hb⟩
 keep h hk _:=by
  obtain⟨cs,e,h⟩:=h;refine⟨cs,e,λj g=>?_⟩;obtain⟨x,y,z,u,a,b,c,d,f⟩:=h j g;exact⟨x,y,z,u,a,b,c,d,f.keep hk⟩
def Dat.poly(ps:Ja):Dat where
 ty:=25
 has V v:=Jh V v ps
 noPoly:=false
 below h hb:=Jh.below h hb
 keep h _ hp:=by
  rcases hp with hp|hp
  . cases hp
  . obtain⟨u,e,a⟩:=h;exact⟨u,e,hp _ _ a⟩
def Dat.cell(t:TypeId)(x:E):Dat where
 ty:=t
 has _ v:=v=L #[x]/\JE x=true
 noPoly:=true
 below h _:=h
 keep h _ _:=h
def Has(V:G)(v:E)(d:Dat):Prop:=d.has V v
def Has.below{V V':G}{v:E}{d:Dat}(h:Has V v d)(a:Bl V V'):Has V' v d:=d.below h a
def Has.alloc{V:G}{v:E}{d:Dat}(h:Has V v d)(o:Obj):Has (V.alloc o) v d:=h.below (Ba V o)
def Has.keep{V V':G}{v:E}{d:Dat}(h:Has V v d)(a:∀k v ds,Row k V v ds->Row k V' v ds)(hp:d.noPoly=true\/∀v qs,RowK true V v qs->RowK true V' v qs):Has V' v d:=d.keep h a hp
def Bx(V:G)(B:Nat)(t:TypeId)(cs:Array E):Prop:=V.heap[B]?=some (F cs t (0,0))
variable{cs:Array E}{r:Bool}{d:Dat}{qs:Ja}{x0:E}{V':G}
def Bx.lt{V:G}{B:Nat}{t:TypeId}(h:Bx V B t cs):B<V.heap.size:=(Ab.1 h).1
def Bx.below{V:G}{B:Nat}{t:TypeId}(h:Bx V B t cs)(a:Bl V V'):Bx V' B t cs:=(a.block B h.lt).trans h
def Bx.far{V:G}{B:Nat}{t:TypeId}(h:Bx V B t cs){p:Addr}(hp:B≠p.block)(u:E):Bx (V.setCell p u) B t cs:=(BC V p u B hp).trans h
def Bx.f{V:G}{B:Nat}{t:TypeId}(h:Bx V B t cs)(i:Nat):V.frozen? ⟨B,i,Option.none⟩=false:=by simp[World.frozen?,show V.heap[B]?=_ from h]
def Bx.all{V:G}{B:Nat}{t:TypeId}(h:Bx V B t cs):∀i,V.cell? ⟨B,i,Option.none⟩=cs[i]?:=λi=>by simp[World.cell?,show V.heap[B]?=_ from h]
def noPoly:List (Option (Nat × Dat))->Bool
 |[]=>true
 |some (_,d)::t=>d.noPoly&&noPoly t
 |Option.none::t=>noPoly t
theorem Sa{bs:List (Option (Nat × Dat))}(h:noPoly bs=true){i:Nat}{x:Nat × Dat}(e:bs[i]?=some (some x)):x.2.noPoly=true:=by
 induction bs generalizing i with
 |nil=>simp at e
 |cons b t a=>
  cases b with
  |none=>
   cases i with
   |zero=>simp at e
   |succ i=>exact a h (by simpa using e)
  |some y=>
   grind[noPoly]
def DH(w V:G)(bs:List (Option (Nat × Dat))):Prop:=
 (∀(i:Nat) B d,bs[i]?=some (some (B,d))->(∃cs,Bx V B d.ty cs/\Has V (L cs) d)/\w.heap.size<=B)/\
 (∀(i j:Nat) B d a,bs[i]?=some (some (B,d))->bs[j]?=some (some (B,a))->i=j)/\Bl w V
theorem DH.nil(w:G):DH w w []:=⟨λi B z h=>by simp at h,λi j B z a h=>by simp at h,BA _ w⟩
def DH.int{w V:G}{bs:List (Option (Nat × Dat))}(M:DH w V bs){i B:Nat}{z:Int}(h:bs[i]?=some (some (B,.int z))):∃s a l c,Jp V B 35 (H s) (C a l c)/\Jm V (L #[H s,C a l c]) z:=by
 obtain⟨⟨cs,b,d⟩,_⟩:=M.1 i B _ h;obtain⟨a,l,c,e,f⟩:=d;cases e;exact⟨_,a,l,c,b,a,l,c,rfl,f⟩
def DH.big{w V:G}{bs:List (Option (Nat × Dat))}(M:DH w V bs){i B:Nat}{z:Int}(h:bs[i]?=some (some (B,.big z))):∃a l c s,Jp V B 45 (C a l c) (H s)/\Jw V (L #[C a l c,H s]) z:=by
 obtain⟨⟨cs,b,d⟩,_⟩:=M.1 i B _ h;obtain⟨a,l,c,e,f⟩:=d;cases e;exact⟨a,l,c,_,b,a,l,c,rfl,f⟩
def DH.rat{w V:G}{bs:List (Option (Nat × Dat))}(M:DH w V bs){i B:Nat}{q:Rat}(h:bs[i]?=some (some (B,.rat q))):
 ∃s a l c t b k d,JB V B 37 (H s) (C a l c) (H t) (C b k d)/\Jj V (L #[H s,C a l c,H t,C b k d]) q/\Jm V (L #[H s,C a l c]) q.num/\Jm V (L #[H t,C b k d]) (denZ q):=by
 obtain⟨⟨cs,m,f⟩,_⟩:=M.1 i B _ h;have n:=f;obtain⟨s,a,l,c,t,b,k,d,e,g,j⟩:=f;cases e;exact⟨s,a,l,c,t,b,k,d,m,n,g,j⟩
def DH.pair{w V:G}{bs:List (Option (Nat × Dat))}(M:DH w V bs){i B:Nat}{x y:Int}(h:bs[i]?=some (some (B,.pair x y))):
 ∃s a l c t b k d,JB V B 37 (H s) (C a l c) (H t) (C b k d)/\XD V (L #[H s,C a l c,H t,C b k d]) x y/\Jm V (L #[H s,C a l c]) x/\Jm V (L #[H t,C b k d]) y:=by
 obtain⟨⟨cs,m,f⟩,_⟩:=M.1 i B _ h;have n:=f;obtain⟨s,a,l,c,t,b,k,d,e,g,j⟩:=f;cases e;exact⟨s,a,l,c,t,b,k,d,m,n,g,j⟩
def DH.ref{w V:G}{bs:List (Option (Nat × Dat))}(M:DH w V bs){i B:Nat}{q:Rat}(h:bs[i]?=some (some (B,.ref q))):
 ∃a l c s b k d t,JB V B 47 (C a l c) (H s) (C b k d) (H t)/\Jk V (L #[C a l c,H s,C b k d,H t]) q/\Jw V (L #[C a l c,H s]) q.num/\Jw V (L #[C b k d,H t]) (q.den:Int):=by
 obtain⟨⟨cs,m,f⟩,_⟩:=M.1 i B _ h;have n:=f;obtain⟨s,a,l,c,t,b,k,d,e,g,j⟩:=f;cases e;exact⟨s,a,l,c,t,b,k,d,m,n,g,j⟩
def DH.below{w V V':G}{bs:List (Option (Nat × Dat))}(M:DH w V bs)(a:Bl V V'):DH w V' bs:=
 ⟨λi B z h=>by
  obtain⟨⟨cs,b,c⟩,d⟩:=M.1 i B z h;exact⟨⟨cs,b.below a,c.below a⟩,d⟩,M.2.1,Bt M.2.2 a⟩
def DH.drew{w V:G}{bs:List (Option (Nat × Dat))}(M:DH w V bs):DH w V.drew bs:=M.below ((BA _ V).drew)
def DH.sub{w V:G}{bs cs:List (Option (Nat × Dat))}(M:DH w V bs)(f:Nat->Nat)(e:∀(i j:Nat),f i=f j->i=j)(h:∀(i:Nat) x,cs[i]?=some (some x)->bs[f i]?=some (some x)):DH w V cs:=
 ⟨λi B d a=>M.1 (f i) B d (h i _ a),λi j B d b a c=>e i j (M.2.1 (f i) (f j) B d b (h i _ a) (h j _ c)),M.2.2⟩
theorem DH.take{w V:G}{bs:List (Option (Nat × Dat))}(M:DH w V bs)(n:Nat):DH w V (bs.take n):=by
 refine M.sub id (λ_ _ h=>h) λi x h=>?_;grind
theorem DH.none{w V:G}{bs:List (Option (Nat × Dat))}(M:DH w V bs):DH w V (bs++[Option.none]):=by
 refine M.sub id (λ_ _ h=>h) λi x h=>?_;grind
theorem DH.fill{w V:G}{bs:List (Option (Nat × Dat))}(M:DH w V bs){i:Nat}(h:bs[i]?=some Option.none)(d:Dat)(o:Has V (L cs) d):
 DH w (V.alloc (F cs d.ty)) (bs.set i (some (V.heap.size,d))):=by
 have f:Bl V (V.alloc (F cs d.ty)):=Ba V _;have l:i<bs.length:=(Aq.1 h).1;have e:=M.below f;have q:∀(j:Nat) B d,bs[j]?=some (some (B,d))->B<V.heap.size:=λj B d h=>by
  obtain⟨⟨_,b,_⟩,_⟩:=M.1 j B d h;exact b.lt
 refine⟨λj B m a=>?_,λj k B d1 n b g=>?_,e.2.2⟩
 . by_cases c:i=j
   . subst c;rw[FE l]at a;simp at a;obtain⟨rfl,rfl⟩:=a;exact⟨⟨cs,BB V _,o.below f⟩,M.2.2.size⟩
   . rw[Fb c]at a;exact e.1 j B m a
 . by_cases c:i=j<;>by_cases p:i=k
   . omega
   . grind
   . grind
   . rw[Fb c]at b;rw[Fb p]at g;exact M.2.1 j k B d1 n b g
def DH.push{w V:G}{bs:List (Option (Nat × Dat))}(M:DH w V bs)(d:Dat)(a:Has V (L cs) d):DH w (V.alloc (F cs d.ty)) (bs++[some (V.heap.size,d)]):=by
 have h:=M.none.fill (i:=bs.length) DG d a;rwa[cU]at h
def Eh{w:G}{t:TypeId}{v:E}(h:JE v=true:=by rfl):Has w (L #[v]) (.cell t v):=⟨rfl,h⟩
def Jx{w:G}(a:TypeId)(d1:Dat){c1:Array E}(c:Has w (L c1) d1)(b:d1.ty=a:=by rfl):∃W,Hid (w.alloc (F c1 a)=W)/\Hid (DH w W [some (w.heap.size,d1)]):=by
 subst b;exact⟨_,Y rfl,Y ((DH.nil w).push d1 c)⟩
theorem Kf{w:G}(b:TypeId)(d1:Dat){c1:Array E}(f:Has w (L c1) d1)(c:TypeId)(a:Dat){c2:Array E}(g:Has w (L c2) a)(d:d1.ty=b:=by rfl)(e:a.ty=c:=by rfl):∃W,Hid ((w.alloc (F c1 b)).alloc (F c2 c)=W)/\Hid (DH w W [some (w.heap.size,d1),some (w.heap.size+1,a)]):=by
 subst d e;have M:=((DH.nil w).push d1 f).push a (g.alloc _);grind[Ax,Y]
theorem Hh{w:G}(c:TypeId)(d1:Dat){c1:Array E}(j:Has w (L c1) d1)(d:TypeId)(a:Dat){c2:Array E}(k:Has w (L c2) a)(e:TypeId)(b:Dat){c3:Array E}(l:Has w (L c3) b)(f:d1.ty=c:=by rfl)(g:a.ty=d:=by rfl)(i:b.ty=e:=by rfl):∃W,Hid (((w.alloc (F c1 c)).alloc (F c2 d)).alloc (F c3 e)=W)/\Hid (DH w W [some (w.heap.size,d1),some (w.heap.size+1,a),some (w.heap.size+1+1,b)]):=by
 subst f g i;have M:=(((DH.nil w).push d1 j).push a (k.alloc _)).push b ((l.alloc _).alloc _);grind[Ax,Y]
theorem cX{w:G}(e:TypeId)(d1:Dat){c1:Array E}(n:Has w (L c1) d1)(f:TypeId)(a:Dat){c2:Array E}(o:Has w (L c2) a)(g:TypeId)(b:Dat){c3:Array E}(p:Has w (L c3) b)(i:TypeId)(c:Dat){d:Array E}(q:Has w (L d) c)(j:d1.ty=e:=by rfl)(k:a.ty=f:=by rfl)(l:b.ty=g:=by rfl)(m:c.ty=i:=by rfl):∃W,Hid ((((w.alloc (F c1 e)).alloc (F c2 f)).alloc (F c3 g)).alloc (F d i)=W)/\Hid (DH w W [some (w.heap.size,d1),some (w.heap.size+1,a),some (w.heap.size+1+1,b),some (w.heap.size+1+1+1,c)]):=by
 subst j k l m;have M:=((((DH.nil w).push d1 n).push a (o.alloc _)).push b ((p.alloc _).alloc _)).push c (((q.alloc _).alloc _).alloc _);grind[Ax,Y]
theorem DH.repl{w V:G}{bs:List (Option (Nat × Dat))}(M:DH w V bs){i B:Nat}(h:bs[i]?=some (some (B,d)))(b:Dat)(z:Bx V' B b.ty cs)(A:Has V (L cs) b)
(n:∀k v ds,Row k V v ds->Row k V' v ds)(D:∀B' t cs,B'≠B->Bx V B' t cs->Bx V' B' t cs)(y:Bl w V')
(hp:noPoly bs=true\/∀v qs,RowK true V v qs->RowK true V' v qs)(K:b.noPoly=true\/∀v qs,RowK true V v qs->RowK true V' v qs):DH w V' (bs.set i (some (B,b))):=by
 have o:i<bs.length:=(Aq.1 h).1;obtain⟨_,P⟩:=M.1 i B d h;refine⟨λj B' d1 a=>?_,λj k B' d1 r u x=>?_,y⟩
 . by_cases l:i=j
   . subst l;rw[FE o]at a;simp at a;obtain⟨rfl,rfl⟩:=a;exact⟨⟨cs,z,A.keep n K⟩,P⟩
   . rw[Fb l]at a;obtain⟨⟨q,f,g⟩,Q⟩:=M.1 j B' d1 a;have p:B'≠B:=λe=>l (by rw[e]at a;exact M.2.1 i j B d d1 h a);exact⟨⟨q,D _ _ _ p f,g.keep n (hp.imp (λh=>Sa h a) id)⟩,Q⟩
 . have m:∀(j:Nat) d1,(bs.set i (some (B,b)))[j]?=some (some (B',d1))->∃c,bs[j]?=some (some (B',c)):=λj d1 a=>by
    grind
   obtain⟨c,f⟩:=m j d1 u;obtain⟨s,g⟩:=m k r x;exact M.2.1 j k B' c s f g
theorem XE{V:G}{B:Nat}{t:TypeId}(h:Bx V B t cs){o:Nat}(e:cs[o]?=some x0)(m:JE x0=true)(r:Bool)(p:t≠Dn r)(x:E)(v:E)(qs:Ja)(d:RowK r V v qs):RowK r (V.setCell ⟨B,o,Option.none⟩ x) v qs:=by
 obtain⟨a,cap,ev,j,k,l,c⟩:=d;refine⟨a,cap,ev,j,k,l,?_⟩;rcases c with c|⟨b,g,f⟩
 . exact An c
 . refine Au ⟨b,g,f.keep (BC V ⟨B,o,Option.none⟩ x b ?_) λ_ _ _ d=>Row.set d (cell_of h e) m _⟩;rintro rfl;obtain⟨n,i,_⟩:=f;rw[show V.heap[b]?=_ from h]at i;grind
def Sb{V:G}{B:Nat}{t:TypeId}{a:E}(q:Jp V B t x0 a)(b:t≠Dn r)(c:JE x0=true)(d:JE a=true)(x y:E):∀v qs,RowK r V v qs->RowK r ((V.setCell ⟨B,0,Option.none⟩ x).setCell ⟨B,1,Option.none⟩ y) v qs:=
 λv qs h=>XE (cs:=#[x,a]) (q.set0 x) (o:=1) rfl d r b y v qs (XE (cs:=#[x0,a]) q (o:=0) rfl c r b x v qs h)
def Sc{V:G}{B:Nat}{t:TypeId}{b z0 u0:E}(q:JB V B t x0 b z0 u0)(a:t≠Dn r)(c:JE x0=true)(d:JE b=true)(e:JE z0=true)(f:JE u0=true)(x y z u:E):∀v qs,RowK r V v qs->RowK r (put4 V B x y z u) v qs:=
 λv qs h=>XE (cs:=#[x,y,z,u0]) (((q.set0 x).set1 y).set2 z) (o:=3) rfl f r a u v qs (XE (cs:=#[x,y,z0,u0]) ((q.set0 x).set1 y) (o:=2) rfl e r a z v qs (XE (cs:=#[x,b,z0,u0]) (q.set0 x) (o:=1) rfl d r a y v qs (XE (cs:=#[x0,b,z0,u0]) q (o:=0) rfl c r a x v qs h)))
def PC{V:G}{B:Nat}{t:TypeId}{x y:E}(q:Jp V B t x y)(b:JE x=true)(c:JE y=true)(a d:E):∀k v ds,Row k V v ds->Row k ((V.setCell ⟨B,0,Option.none⟩ a).setCell ⟨B,1,Option.none⟩ d) v ds:=
 λ_ _ _ h=>Row.set (Row.set h q.c0 b _) (q.set0 a).c1 c _
def DH.putInt{w V:G}{bs:List (Option (Nat × Dat))}(M:DH w V bs){i B:Nat}{z0:Int}(h:bs[i]?=some (some (B,.int z0))){x y:E}{z:Int}(f:Jm V (L #[x,y]) z):
 DH w ((V.setCell ⟨B,0,Option.none⟩ x).setCell ⟨B,1,Option.none⟩ y) (bs.set i (some (B,.int z))):=by
 obtain⟨s,a,l,c,b,_⟩:=M.int h;obtain⟨_,e⟩:=M.1 i B _ h;exact M.repl h (.int z) (cs:=#[x,y]) ((b.set0 x).set1 y) f (PC b rfl rfl x y) (λB' t cs d g=>(g.far (p:=⟨B,0,Option.none⟩) d _).far (p:=⟨B,1,Option.none⟩) d _) ((M.2.2.setCell (p:=⟨B,0,Option.none⟩) e _).setCell (p:=⟨B,1,Option.none⟩) e _) (Au (Sb b DK rfl rfl x y)) (An rfl)
def DH.putBig{w V:G}{bs:List (Option (Nat × Dat))}(M:DH w V bs){i B:Nat}{z0:Int}(h:bs[i]?=some (some (B,.big z0))){x y:E}{z:Int}(f:Jw V (L #[x,y]) z):
 DH w ((V.setCell ⟨B,0,Option.none⟩ x).setCell ⟨B,1,Option.none⟩ y) (bs.set i (some (B,.big z))):=by
 obtain⟨a,l,c,s,b,_⟩:=M.big h;obtain⟨_,e⟩:=M.1 i B _ h;exact M.repl h (.big z) (cs:=#[x,y]) ((b.set0 x).set1 y) f (PC b rfl rfl x y) (λB' t cs d g=>(g.far (p:=⟨B,0,Option.none⟩) d _).far (p:=⟨B,1,Option.none⟩) d _) ((M.2.2.setCell (p:=⟨B,0,Option.none⟩) e _).setCell (p:=⟨B,1,Option.none⟩) e _) (Au (Sb b DK rfl rfl x y)) (An rfl)
def PD{V:G}{B:Nat}(x y z u:E):∀B' t cs,B'≠B->Bx V B' t cs->Bx (put4 V B x y z u) B' t cs:=λ_ _ _ a g=>(((g.far (p:=⟨B,0,Option.none⟩) a _).far (p:=⟨B,1,Option.none⟩) a _).far (p:=⟨B,2,Option.none⟩) a _).far (p:=⟨B,3,Option.none⟩) a _
def DH.putRat{w V:G}{bs:List (Option (Nat × Dat))}(M:DH w V bs){i B:Nat}{q0:Rat}(h:bs[i]?=some (some (B,.rat q0))){x y z u:E}{q:Rat}(b:Jj V (L #[x,y,z,u]) q)(d:noPoly bs=true:=by rfl):
 DH w (put4 V B x y z u) (bs.set i (some (B,.rat q))):=by
 obtain⟨_,_,_,_,_,_,_,_,a,_⟩:=M.rat h;obtain⟨_,c⟩:=M.1 i B _ h;exact M.repl h (.rat q) (cs:=#[x,y,z,u]) (a.put x y z u) b (λ_ _ _ g=>Row.put4 g a rfl rfl rfl rfl _ _ _ _) (PD x y z u) (Jn M.2.2 c _ _ _ _) (An d) (An rfl)
def DH.putRef{w V:G}{bs:List (Option (Nat × Dat))}(M:DH w V bs){i B:Nat}{q0:Rat}(h:bs[i]?=some (some (B,.ref q0))){x y z u:E}{q:Rat}(b:Jk V (L #[x,y,z,u]) q):
 DH w (put4 V B x y z u) (bs.set i (some (B,.ref q))):=by
 obtain⟨_,_,_,_,_,_,_,_,a,_⟩:=M.ref h;obtain⟨_,c⟩:=M.1 i B _ h;exact M.repl h (.ref q) (cs:=#[x,y,z,u]) (a.put x y z u) b (λ_ _ _ g=>Row.put4 g a rfl rfl rfl rfl _ _ _ _) (PD x y z u) (Jn M.2.2 c _ _ _ _) (Au (Sc a DK rfl rfl rfl rfl x y z u)) (An rfl)
def DH.zref{w V:G}{bs:List (Option (Nat × Dat))}(M:DH w V bs){i B:Nat}(h:bs[i]?=some (some (B,.zref))):JB V B 47 (C Option.none 0 0) (H false) (C Option.none 0 0) (H false):=by
 obtain⟨⟨cs,a,b⟩,_⟩:=M.1 i B _ h;cases(show Value.agg cs=_ from b);exact a
def DH.putZref{w V:G}{bs:List (Option (Nat × Dat))}(M:DH w V bs){i B:Nat}(h:bs[i]?=some (some (B,.zref))){x y z u:E}{q:Rat}(b:Jk V (L #[x,y,z,u]) q):
 DH w (put4 V B x y z u) (bs.set i (some (B,.ref q))):=by
 have a:=M.zref h;obtain⟨_,c⟩:=M.1 i B _ h;exact M.repl h (.ref q) (cs:=#[x,y,z,u]) (a.put x y z u) b (λ_ _ _ g=>Row.put4 g a rfl rfl rfl rfl _ _ _ _) (PD x y z u) (Jn M.2.2 c _ _ _ _) (Au (Sc a DK rfl rfl rfl rfl x y z u)) (An rfl)
def Has.set2{V:G}{v:E}(h:Has V v d){B:Nat}{t:TypeId}{x y:E}(q:Jp V B t x y)(e:JE x=true)(f:JE y=true)(a b:E)(c:d.noPoly=true:=by rfl):Has ((V.setCell ⟨B,0,Option.none⟩ a).setCell ⟨B,1,Option.none⟩ b) v d:=h.keep (PC q e f a b) (An c)
def Has.put4{V:G}{v:E}{d:Dat}(h:Has V v d){B:Nat}{t:TypeId}{x y z u:E}(q:JB V B t x y z u)(b:JE x=true)(c:JE y=true)(e:JE z=true)(f:JE u=true)(j k l i:E)(a:d.noPoly=true:=by rfl):Has (Go.Proofs.YtakpoihdghihmaaGreatDoor.put4 V B j k l i) v d:=h.keep (λ_ _ _ g=>Row.put4 g q b c e f _ _ _ _) (An a)
def DH.ne{w V:G}{bs:List (Option (Nat × Dat))}(M:DH w V bs)(i j:Nat){B B':Nat}{a:Dat}(h:bs[i]?=some (some (B,d)))(b:bs[j]?=some (some (B',a)))(c:i≠j):B≠B':=λe=>by
 subst e;exact c (M.2.1 i j B d a h b)
def DH.ge{w V:G}{bs:List (Option (Nat × Dat))}(M:DH w V bs)(i:Nat){B:Nat}(h:bs[i]?=some (some (B,d))):w.heap.size<=B:=(M.1 i B d h).2
def F2(V:G)(t:E)(d1 a:Dat):Prop:=∃u1 u2,t=.tuple #[u1,u2,H true]/\Has V u1 d1/\Has V u2 a
def F2.below{V V':G}{t:E}{d1 a:Dat}(h:F2 V t d1 a)(b:Bl V V'):F2 V' t d1 a:=by
 obtain⟨u1,u2,e,c,d⟩:=h;exact⟨u1,u2,e,c.below b,d.below b⟩
def F2.alloc{V:G}{t:E}{d1 a:Dat}(h:F2 V t d1 a)(o:Obj):F2 (V.alloc o) t d1 a:=by
 obtain⟨u1,u2,e,b,c⟩:=h;exact⟨u1,u2,e,b.alloc o,c.alloc o⟩
def F2.set2{V:G}{v:E}{d1 a:Dat}(h:F2 V v d1 a){B:Nat}{t:TypeId}{x y:E}(q:Jp V B t x y)(d:JE x=true)(f:JE y=true)(b c:E)(j:d1.noPoly=true:=by rfl)(k:a.noPoly=true:=by rfl):F2 ((V.setCell ⟨B,0,Option.none⟩ b).setCell ⟨B,1,Option.none⟩ c) v d1 a:=by
 obtain⟨u1,u2,e,g,i⟩:=h;exact⟨u1,u2,e,g.set2 q d f b c j,i.set2 q d f b c k⟩
def DH.rats{w V:G}{bs:List (Option (Nat × Dat))}(M:DH w V bs){i B:Nat}{qs:Ja}(h:bs[i]?=some (some (B,.rats qs))):Dh true V B qs:=by
 obtain⟨⟨cs,b,a⟩,_⟩:=M.1 i B _ h;obtain⟨c,e,a⟩:=a;cases e;exact⟨cs,b,a⟩
theorem DH.putRats{w V:G}{bs:List (Option (Nat × Dat))}(M:DH w V bs){i B:Nat}(h:bs[i]?=some (some (B,.rats qs))){j:Nat}(n:j<qs.length){x y z u:E}{q:Rat}(P:Jj V (L #[x,y,z,u]) q)(T:noPoly bs=true:=by rfl):
 DH w (putAt V B (j*4) x y z u) (bs.set i (some (B,.rats (qs.set j q)))):=by
 have m:=M.rats h;obtain⟨_,o⟩:=M.1 i B _ h;obtain⟨cs,c1,c2⟩:=Dh.set (r:=true) m n P;have Q:=m.putKeep n x y z u;have p:i<bs.length:=(Aq.1 h).1;refine⟨λa B' d1 b=>?_,λa k B' d1 v D K=>?_,SZ M.2.2 o _ _ _ _⟩
 . by_cases g:i=a
   . subst g;rw[FE p]at b;simp at b;obtain⟨rfl,rfl⟩:=b;exact⟨⟨cs,c1,cs,rfl,c2⟩,o⟩
   . rw[Fb g]at b;obtain⟨⟨t,d,f⟩,S⟩:=M.1 a B' d1 b;have s:B'≠B:=λe=>g (by rw[e]at b;exact M.2.1 i a B _ d1 h b);exact⟨⟨t,(LY s x y z u).trans d,f.keep Q (An (Sa T b))⟩,S⟩
 . have l:∀(a:Nat) d1,(bs.set i (some (B,.rats (qs.set j q))))[a]?=some (some (B',d1))->∃c,bs[a]?=some (some (B',c)):=λa d1 b=>by
    grind
   obtain⟨c,d⟩:=l a d1 D;obtain⟨A,f⟩:=l k v K;exact M.2.1 a k B' c A d f
def DH.cell{w V:G}{bs:List (Option (Nat × Dat))}(M:DH w V bs){i B:Nat}{t:TypeId}{v:E}(h:bs[i]?=some (some (B,.cell t v))):Boxed V B t v/\JE v=true:=by
 obtain⟨⟨cs,b,a⟩,_⟩:=M.1 i B _ h;obtain⟨e,a⟩:=a;cases e;exact⟨b,a⟩
def DH.poly{w V:G}{bs:List (Option (Nat × Dat))}(M:DH w V bs){i B:Nat}{ps:Ja}(h:bs[i]?=some (some (B,.poly ps))):∃a l c,Boxed V B 25 (C a l c)/\RowK true V (C a l c) ps:=by
 obtain⟨⟨cs,d,b⟩,_⟩:=M.1 i B _ h;obtain⟨a,l,c,e⟩:=Jh.form b;cases e;exact⟨a,l,c,d,Jh.row b⟩
def Sd{V:G}{B:Nat}{t:TypeId}{x:E}(q:Boxed V B t x)(a:JE x=true)(b:E):∀k v ds,Row k V v ds->Row k (V.setCell ⟨B,0,Option.none⟩ b) v ds:=
 λ_ _ _ h=>Row.set h q.cell a _
def DH.putPoly{w V:G}{bs:List (Option (Nat × Dat))}(M:DH w V bs){i B:Nat}{p0:Ja}(h:bs[i]?=some (some (B,.poly p0))){x:E}{ps:Ja}(e:Jh V (L #[x]) ps):
 DH w (V.setCell ⟨B,0,Option.none⟩ x) (bs.set i (some (B,.poly ps))):=by
 obtain⟨a,l,c,b,_⟩:=M.poly h;obtain⟨_,j⟩:=M.1 i B _ h;have d:∀v qs,RowK true V v qs->RowK true (V.setCell ⟨B,0,Option.none⟩ x) v qs:=XE (cs:=#[C a l c]) b (o:=0) rfl rfl true DK x;exact M.repl h (.poly ps) (cs:=#[x]) (b.set x) e (Sd b rfl x) (λB' t cs f g=>g.far (p:=⟨B,0,Option.none⟩) f _) (M.2.2.setCell (p:=⟨B,0,Option.none⟩) j _) (Au d) (Au d)
def DH.adopt{w V:G}{bs:List (Option (Nat × Dat))}(M:DH w V bs)(l:Bl V V'){g:Nat}(hg:V.heap.size<=g)(m:Dh true V' g qs):DH w V' (bs++[some (g,.rats qs)]):=by
 have e:=M.below l;have f:∀(j:Nat) B d,bs[j]?=some (some (B,d))->B<V.heap.size:=λj B d h=>by
  obtain⟨⟨_,a,_⟩,_⟩:=M.1 j B d h;exact a.lt
 have c:∀(j:Nat) x,(bs++[some (g,Dat.rats qs)])[j]?=some (some x)->bs[j]?=some (some x)\/(j=bs.length/\x=(g,.rats qs)):=λj x h=>by
  by_cases n:j<bs.length
  . rw[Ft n]at h;exact An h
  . rw[Cr O]at h;obtain⟨k,o⟩:=ex (j-bs.length);rw[o]at h;cases k with
    |zero=>simp at h;exact Au ⟨O,h.symm⟩
    |succ k=>simp at h
 refine⟨λj B d h=>?_,λj k B d1 i a b=>?_,e.2.2⟩
 . rcases c j _ h with h|⟨_,h⟩
   . exact e.1 j B d h
   . cases h;obtain⟨cs,c1,c2⟩:=m;exact⟨⟨cs,c1,cs,rfl,c2⟩,Af M.2.2.size hg⟩
 . rcases c j _ a with a|⟨p,a⟩<;>rcases c k _ b with b|⟨q,b⟩
   . exact M.2.1 j k B d1 i a b
   . cases b;have:=f j _ _ a;omega
   . cases a;have:=f k _ _ b;omega
   . omega
def Dat.eq(x:E):Dat where
 ty:=0
 has _ v:=v=x
 noPoly:=true
 below h _:=h
 keep h _ _:=h
def Dat.any:Dat where
 ty:=0
 has _ _:=True
 noPoly:=true
 below h _:=h
 keep h _ _:=h
def Kg:E->Nat
 |N (some a)=>a.block
 |_=>0
def Dat.ptr:Dat where
 ty:=0
 has _ v:=v=N (some ⟨Kg v,0,none⟩)
 noPoly:=true
 below h _:=h
 keep h _ _:=h
def Dat.tup2(d1 a:Dat):Dat where
 ty:=0
 has V v:=F2 V v d1 a
 noPoly:=d1.noPoly&&a.noPoly
 below h hb:=F2.below h hb
 keep h hk hp:=by
  obtain⟨x,y,e,b,c⟩:=h;exact⟨x,y,e,d1.keep b hk (hp.imp (λg=>(FL.1 g).1) id),a.keep c hk (hp.imp (λg=>(FL.1 g).2) id)⟩
def Dat.tup1(d:Dat):Dat where
 ty:=0
 has V v:=∃u,v=.tuple #[u,H true]/\Has V u d
 noPoly:=d.noPoly
 below h hb:=by
  obtain⟨x,e,h⟩:=h;exact⟨x,e,h.below hb⟩
 keep h hk hp:=by
  obtain⟨x,e,h⟩:=h;exact⟨x,e,d.keep h hk hp⟩
def upd(f:Nat->E)(i:Nat)(u:E):Nat->E:=λj=>if j=i then u else f j
def more(D:Nat->Bool)(i:Nat):Nat->Bool:=λj=>j==i || D j
def Hs(ds:List Dat)(D:Nat->Bool)(V:G)(f:Nat->E):Prop:=∀k,D k=true->Has V (f k) (ds.getD k .any)
def Av(ds:List Dat)(dp:m4)(V:G)(f:Nat->E):Prop:=∀k,k∈dp->Has V (f k) (ds.getD k .any)
def Ib(tab:List m4)(i:Nat)(D:Nat->Bool)(l:Nat):Bool:=l != i&&((tab.getD i []).contains l || (!((tab.getD l []).contains i)&&D l))
def bl(tab:List m4)(ws:m4)(i:Nat)(D:Nat->Bool):List Bool:=ws.map (Ib tab i D)
section
variable {P:Program} {ops:Array Oper} {mk:(Nat->Value)->Act} {ds:List Dat} {ws:m4} {J:List Bool->List Value->World->Prop} {tab:List m4} {D:Nat->Bool} {f:Nat->Value} {V W:World} {dp:m4} {i:Nat} {u x:Value} {o:Oper}
variable{d:Dat}{b:E}
theorem Hs.mv(h:Hs ds D V f)(m:∀d v,(d∈ds\/d=.any)->Has V v d->Has W v d):Hs ds D W f:=λk a=>m _ _ (by
 grind) (h k a)
theorem Hs.put(h:Hs ds D V f)(i:Nat)(c:Has V u (ds.getD i .any)):Hs ds (more D i) V (upd f i u):=λk b=>by
 unfold upd;by_cases a:k=i
 . subst a;rw[BG rfl];exact c
 . rw[BD a];refine h k ?_;unfold more at b;grind
def Av.g(h:Av ds dp V f)(k:Nat)(a:k∈dp:=by decide):Has V (f k) (ds.getD k .any):=h k a
def Av.e(h:Av ds dp V f)(k:Nat)(e:ds.getD k .any=.eq x:=by rfl)(a:k∈dp:=by decide):f k=x:=by
 have:=h k a;rw[e]at this;exact this
def St(ds:List Dat)(ws:m4)(J:List Bool->List E->G->Prop)(D:Nat->Bool)(f:Nat->E)(V:G):Prop:=Hs ds D V f/\J (ws.map D) (ws.map f) V
def c1{F:FuncId}{R:Ending->G->Prop}{a x:E}(h:a=x)(q:M P F #[x] V R):M P F #[a] V R:=by rw[h];exact q
def c2{F:FuncId}{R:Ending->G->Prop}{a x y:E}(h:a=x)(k:b=y)(q:M P F #[x,y] V R):M P F #[a,b] V R:=by rw[h,k];exact q
def c3{F:FuncId}{R:Ending->G->Prop}{a x y c z:E}(h:a=x)(k:b=y)(m:c=z)(q:M P F #[x,y,z] V R):M P F #[a,b,c] V R:=by rw[h,k,m];exact q
def Hs.e(h:Hs ds (λ_=>true) V f)(k:Nat)(e:ds.getD k .any=.eq x:=by rfl):f k=x:=by
 have:=h k rfl;rw[e]at this;exact this
def Hs.p(h:Hs ds (λ_=>true) V f)(k:Nat)(e:ds.getD k .any=.ptr:=by rfl):∃B,f k=N (some ⟨B,0,none⟩):=by
 have:=h k rfl;rw[e]at this;exact⟨_,this⟩
def Hs.g(h:Hs ds (λ_=>true) V f)(k:Nat)(e:ds.getD k .any=d:=by rfl):Has V (f k) d:=e ▸ h k rfl
def Se{F:FuncId}{av:Array E}{d1 a:Dat}(q:M P F av V λe W=>∃u1 u2,e=.returned (.tuple #[u1,u2,H true])/\Has W u1 d1/\Has W u2 a/\Bl V W):M P F av V λe W=>∃u,e=.returned u/\Has W u (.tup2 d1 a)/\Bl V W:=q.mono λ_ _ ⟨_,_,e,b,c,d⟩=>⟨_,e,⟨_,_,rfl,b,c⟩,d⟩
def cY{F:FuncId}{av:Array E}(q:M P F av V λe W=>∃u,e=.returned (.tuple #[u,H true])/\Has W u d/\Bl V W):M P F av V λe W=>∃u,e=.returned u/\Has W u (.tup1 d)/\Bl V W:=q.mono λ_ _ ⟨_,e,a,b⟩=>⟨_,e,⟨_,rfl,a⟩,b⟩
def rv{F:FuncId}{av:Array E}{x:E}(q:M P F av V λe W=>e=.returned x/\Bl V W):M P F av V λe W=>∃u,e=.returned u/\Has W u (.eq x)/\Bl V W:=q.mono λ_ _ ⟨e,a⟩=>⟨_,e,rfl,a⟩
def Ms{W:G}(h:∀d∈ds,∀V W v,Has V v d->Has W v d:=by repeat (first|exact List.forall_mem_nil _|refine List.forall_mem_cons.2 ⟨λ_ _ _ h=>h,?_⟩)):∀d v,(d∈ds\/d=.any)->Has V v d->Has W v d:=λd v a k=>by
 rcases a with a|rfl
 . exact h d a V W v k
 . exact k
def Out(P:Program)(o:Oper)(a:Act)(V:G)(K:Act->G->Prop):Prop:=
 (∃r u W,(execOp a.eval o).run P V=.ok r W/\(r=.value u\/(r=.skip/\u=R))/\K (a.put o.dst u) W)\/∃F av,(execOp a.eval o).run P V=.ok (.enter F av) V/\M P F av V λe W=>∃u,e=.returned u/\K (a.put o.dst u) W
def Ic:Oper->Bool
 |{ op:=.defer _,.. }=>true
 |_=>false
section
variable {Q:Exit->Act->World->Prop} {K:Act->World->Prop} {a:Act}
variable{n:Nat}
def Out.op(h:Out P o a V K)(f:ops[i]?=some o)(hg:Region.wanted o (yielded ops a.tmps)=true):wpOp P ops Q i K a V:=by
 unfold wpOp;rw[f];simp only[hg,if_true];refine An ?_;unfold Oper.wp;rcases h with⟨r,u,W,c,g,b⟩|⟨F,av,c,d⟩
 . rw[c];rcases g with rfl|⟨rfl,rfl⟩
   . exact b
   . exact b
 . rw[c];refine d.mono ?_;rintro e W ⟨u,rfl,b⟩;exact b
def LZ(F:Fence):Prop:=F=.wide\/∃l,F=Fence.wide.inRound l
def LZ.calls{F:Fence}(h:LZ F){fn:FuncId}{av:Array E}{R:Ending->G->Prop}(a:M P fn av V R):CallsIn F n P fn av V R:=by
 rcases h with rfl|⟨l,rfl⟩
 . exact BM.2 a
 . exact(BM.2 a).inRound l
def Out.opIn{F:Fence}(hF:LZ F)(h:Out P o a V K)(q:ops[i]?=some o)(hg:Region.wanted o (yielded ops a.tmps)=true)(hq:Ic o=false):wpOpIn F n P ops Q i K a V:=by
 unfold wpOpIn;rw[q];simp only[hg,if_true];unfold Oper.wpIn;refine⟨λf _=>(by rcases hF with rfl|⟨l,rfl⟩<;>trivial),?_⟩;rw[Oper.semAt_eq _ _ _ λc j=>by
  obtain⟨d,op,t,p,af,g⟩:=o;subst j;cases hq]
 rcases h with⟨r,u,W,k,s,b⟩|⟨fn,av,k,j⟩
 . rw[k];rcases s with rfl|⟨rfl,rfl⟩
   . exact b
   . exact b
 . rw[k,Oper.uponIn_enter];refine⟨λm=>(by rcases hF with rfl|⟨l,rfl⟩<;>cases m),(hF.calls j).mono ?_⟩;rintro e W ⟨u,rfl,b⟩;exact b
end
def Does(P:Program)(ops:Array Oper)(i:Nat)(a:Act)(V:G)(K:Act->G->Prop):Prop:=∃o,ops[i]?=some o/\Ic o=false/\((Region.wanted o (yielded ops a.tmps)=true/\Out P o a V K)\/(Region.wanted o (yielded ops a.tmps)=false/\K (a.put o.dst R) V))
section
variable {Q:Exit->Act->World->Prop} {K K':Act->World->Prop} {a:Act}
def Does.op(h:Does P ops i a V K):wpOp P ops Q i K a V:=by
 obtain⟨o,b,_,⟨hg,h⟩|⟨hg,h⟩⟩:=h
 . exact h.op b hg
 . unfold wpOp;rw[b];simp only[hg,C7,if_false];exact h
def Does.opIn{F:Fence}{n:Nat}(hF:LZ F)(h:Does P ops i a V K):wpOpIn F n P ops Q i K a V:=by
 obtain⟨o,b,hq,⟨hg,h⟩|⟨hg,h⟩⟩:=h
 . exact h.opIn hF b hg hq
 . unfold wpOpIn;rw[b];simp only[hg,C7,if_false];exact⟨λf _=>(by rcases hF with rfl|⟨l,rfl⟩<;>trivial),h⟩
def Does.mono(h:Does P ops i a V K)(b:∀a' V',K a' V'->K' a' V'):Does P ops i a V K':=by
 obtain⟨o,d,hq,⟨hg,h⟩|⟨hg,h⟩⟩:=h
 . refine⟨o,d,hq,An ⟨hg,?_⟩⟩;rcases h with⟨r,u,W,c,j,h⟩|⟨F,av,c,g⟩
   . exact An ⟨r,u,W,c,j,b _ _ h⟩
   . exact Au ⟨F,av,c,g.mono λe W ⟨u,f,h⟩=>⟨u,f,b _ _ h⟩⟩
 . exact⟨o,d,hq,Au ⟨hg,b _ _ h⟩⟩
end
def Stp(P:Program)(ops:Array Oper)(mk:(Nat->E)->Act)(ds:List Dat)(ws:m4)(J:List Bool->List E->G->Prop)(tab:List m4)(i:Nat):Prop:=
 ∀D f V,Av ds (tab.getD i []) V f->Hs ds D V f->J (bl tab ws i D) (ws.map f) V->ws.map D=bl tab ws i D->
  Does P ops i (mk f) V (λa' V'=>∃u,a'=mk (upd f i u)/\St ds ws J (more D i) (upd f i u) V')
variable{args:(Nat->E)->Array E}{n:Nat}
theorem St.step(d:ws.contains i=false)(h:J (ws.map D) (ws.map f) V):J (ws.map (more D i)) (ws.map (upd f i u)) V:=by
 have c:∀l∈ws,l≠i:=λl hl e=>by
  grind
 have a:ws.map (more D i)=ws.map D:=CL λl hl=>by unfold more;grind
 have b:ws.map (upd f i u)=ws.map f:=CL λl hl=>BD (c l hl);rw[a,b];exact h
def No{R:Nat->Prop}(h:R 0)(t:∀i,i<n->R (i+1)):∀i,i<n+1->R i
 |0,_=>h
 |i+1,a=>t i (Nat.lt_of_succ_lt_succ a)
def Stp.end_{R:Nat->Prop}:∀i,i<0->R i:=λ_ h=>absurd h (Nat.not_lt_zero _)
def Stp.cl{F:FuncId}
(k:∀ {f V D},Av ds (tab.getD i []) V f->J (bl tab ws i D) (ws.map f) V->M P F (args f) V λe W=>∃u,e=.returned u/\Has W u (ds.getD i .any)/\Bl V W)
(hJ:∀b v V W,J b v V->Bl V W->J b v W:=by first|exact λ_ _ _ _ h a=>h.below a|exact λ_ _ _ _ h a=>⟨h.1.below a,h.2.below a⟩)(n:ops[i]?=some o:=by rfl)(hg:∀ {f V},Av ds (tab.getD i []) V f->Region.wanted o (yielded ops (mk f).tmps)=true:=by exact λ_=>rfl)(l:ws.contains i=false:=by rfl)
(r:∀f V,(execOp (mk f).eval o).run P V=.ok (.enter F (args f)) V:=by intro f V;kernel_rfl)(m:∀f u,(mk f).put o.dst u=mk (upd f i u):=by intro f u;kernel_rfl)(hq:Ic o=false:=by rfl):Stp P ops mk ds ws J tab i:=λD f V g p j a=>⟨o,n,hq,An ⟨hg g,Au ⟨F,args f,r f V,by
 refine(k g j).mono ?_;rintro e W ⟨u,rfl,q,c⟩;exact⟨u,rfl,u,m f u,(p.mv λd v _ h=>h.below c).put i q,St.step l (hJ _ _ _ _ (by rw[a];exact j) c)⟩⟩⟩⟩
def Stp.ci{F:FuncId}(n:ops[i]?=some o)
(c:∀ {f V D},Av ds (tab.getD i []) V f->J (bl tab ws i D) (ws.map f) V->∃av,(execOp (mk f).eval o).run P V=.ok (.enter F av) V/\M P F av V λe W=>∃u,e=.returned u/\Has W u (ds.getD i .any)/\Bl V W)
(hJ:∀b v V W,J b v V->Bl V W->J b v W:=by first|exact λ_ _ _ _ h a=>h.below a|exact λ_ _ _ _ h a=>⟨h.1.below a,h.2.below a⟩)(hg:∀ {f V},Av ds (tab.getD i []) V f->Region.wanted o (yielded ops (mk f).tmps)=true:=by exact λ_=>rfl)(l:ws.contains i=false:=by rfl)
(m:∀f u,(mk f).put o.dst u=mk (upd f i u):=by intro f u;kernel_rfl)(hq:Ic o=false:=by rfl):Stp P ops mk ds ws J tab i:=λD f V j p k a=>by
 obtain⟨av,r,c⟩:=c j k;refine⟨o,n,hq,An ⟨hg j,Au ⟨F,av,r,c.mono ?_⟩⟩⟩;rintro e W ⟨u,rfl,q,g⟩;exact⟨u,rfl,u,m f u,(p.mv λd v _ h=>h.below g).put i q,St.step l (hJ _ _ _ _ (by rw[a];exact k) g)⟩
def Stp.vl(g:ops[i]?=some o)(l:∀ {f V D},Av ds (tab.getD i []) V f->J (bl tab ws i D) (ws.map f) V->∃u,(execOp (mk f).eval o).run P V=.ok (.value u) V/\Has V u (ds.getD i .any))
(hg:∀ {f V},Av ds (tab.getD i []) V f->Region.wanted o (yielded ops (mk f).tmps)=true:=by exact λ_=>rfl)(d:ws.contains i=false:=by rfl)(e:∀f u,(mk f).put o.dst u=mk (upd f i u):=by intro f u;kernel_rfl)(hq:Ic o=false:=by rfl):Stp P ops mk ds ws J tab i:=λD f V a j b c=>by
 obtain⟨u,m,k⟩:=l a b;exact⟨o,g,hq,An ⟨hg a,An ⟨_,u,V,m,An rfl,u,e f u,j.put i k,St.step d (by rw[c];exact b)⟩⟩⟩
def Stp.wr(m:ops[i]?=some o)(s:∀ {f V D},Av ds (tab.getD i []) V f->J (bl tab ws i D) (ws.map f) V->∃r u W,(execOp (mk f).eval o).run P V=.ok r W/\(r=.value u\/(r=.skip/\u=R))/\Has W u (ds.getD i .any)/\(∀d v,(d∈ds\/d=.any)->Has V v d->Has W v d)/\J (ws.map (more (Ib tab i D) i)) (ws.map (upd f i u)) W)
(hg:∀ {f V},Av ds (tab.getD i []) V f->Region.wanted o (yielded ops (mk f).tmps)=true:=by exact λ_=>rfl)(k:∀f u,(mk f).put o.dst u=mk (upd f i u):=by intro f u;kernel_rfl)(hq:Ic o=false:=by rfl):Stp P ops mk ds ws J tab i:=λD f V a p g c=>by
 obtain⟨r,u,W,t,n,q,j,hJ⟩:=s a g;have e:ws.map (more (Ib tab i D) i)=ws.map (more D i):=CL λl hl=>by
  have b:=List.map_inj_left.1 c l hl;show(l==i || Ib tab i D l)=(l==i || D l);rw[<-b]
 rw[e]at hJ;exact⟨o,m,hq,An ⟨hg a,An ⟨r,u,W,t,n,u,k f u,(p.mv j).put i q,hJ⟩⟩⟩
def Stp.no(j:ops[i]?=some o)(hg:∀ {f V},Av ds (tab.getD i []) V f->Region.wanted o (yielded ops (mk f).tmps)=false)(c:∀V,Has V R (ds.getD i .any):=by exact λ_=>trivial)(d:ws.contains i=false:=by rfl)(g:∀f u,(mk f).put o.dst u=mk (upd f i u):=by intro f u;kernel_rfl)(hq:Ic o=false:=by rfl):Stp P ops mk ds ws J tab i:=λD f V a k e b=>
 ⟨o,j,hq,Au ⟨hg a,R,g f R,k.put i (c V),St.step d (by rw[b];exact e)⟩⟩
def Stp.cw{F:FuncId}
(g:∀ {f V D},Av ds (tab.getD i []) V f->J (bl tab ws i D) (ws.map f) V->M P F (args f) V λe W=>∃u,e=.returned u/\Has W u (ds.getD i .any)/\(∀d v,(d∈ds\/d=.any)->Has V v d->Has W v d)/\J (ws.map (more (Ib tab i D) i)) (ws.map (upd f i u)) W)
(n:ops[i]?=some o:=by rfl)(hg:∀ {f V},Av ds (tab.getD i []) V f->Region.wanted o (yielded ops (mk f).tmps)=true:=by exact λ_=>rfl)
(r:∀f V,(execOp (mk f).eval o).run P V=.ok (.enter F (args f)) V:=by intro f V;kernel_rfl)(m:∀f u,(mk f).put o.dst u=mk (upd f i u):=by intro f u;kernel_rfl)(hq:Ic o=false:=by rfl):Stp P ops mk ds ws J tab i:=λD f V a p j c=>⟨o,n,hq,An ⟨hg a,Au ⟨F,args f,r f V,by
 refine(g a j).mono ?_;rintro e W ⟨u,rfl,q,k,hJ⟩;have e:ws.map (more (Ib tab i D) i)=ws.map (more D i):=CL λl hl=>by
  have b:=List.map_inj_left.1 c l hl;show(l==i || Ib tab i D l)=(l==i || D l);rw[<-b]
 rw[e]at hJ;exact⟨u,rfl,u,m f u,(p.mv k).put i q,hJ⟩⟩⟩⟩
theorem cZ(b:∀l dp,tab[l]?=some dp->D l=true->∀k∈dp,D k=true)(c:∀k∈tab.getD i [],D k=true)(a:D i=false)(d:∀l∈ws,l<tab.length):ws.map D=bl tab ws i D:=CL λl hl=>by
 grind[Ib]
def La(a:Act):List (Option Tmp)->Nat->(Nat->E)->Act
 |[],_,_=>a
 |d::ds,k,f=>La (a.put d (f k)) ds (k+1) f
def Mt(a:Act):Option (Option Tmp)->E
 |some (some t)=>a.tmps.getD t R
 |_=>R
def PE(a:Act):∀(ds:List (Option Tmp)) (k:Nat) (f:Nat->E),(∀j,j<ds.length->f (k+j)=Mt a ds[j]?)->La a ds k f=a
 |[],_,_,_=>rfl
 |d::ds,k,f,h=>by
  have e:a.put d (f k)=a:=by
   have g:f k=Mt a (some d):=h 0 (Nat.zero_lt_succ _);rw[g];cases d with
   |none=>rfl
   |some t=>
    show({ a with tmps:=a.tmps.setIfInBounds t (a.tmps.getD t R) }:Act)=a
    have:a.tmps.setIfInBounds t (a.tmps.getD t R)=a.tmps:=by
     apply Array.ext_getElem?;intro i;rw[Array.getElem?_setIfInBounds];by_cases b:t=i
     . subst b;by_cases c:t<a.tmps.size
       . simp[c]
       . simp[c]
     . rw[BD b]
    rw[this]
  show La (a.put d (f k)) ds (k+1) f=a;rw[e];exact PE a ds (k+1) f λj l=>by
   rw[Nat.add_right_comm,Nat.add_assoc];exact h (j+1) (Nat.succ_lt_succ l)
def GK(ops:Array Oper)(a:Act)(f:Nat->E):Act:=La a (ops.toList.map Oper.dst) 0 f
def cg{a:Act}{dp:m4}{K:Act->G->Prop}(o:∀l dp,tab[l]?=some dp->D l=true->∀k∈dp,D k=true)(p:tab[i]?=some dp)(d:∀k∈dp,D k=true)(m:D i=false)(r:(ws.all λl=>decide (l<tab.length))=true)
(st:∀i,i<tab.length->Stp P ops (GK ops a) ds ws J tab i)(b:St ds ws J D f V)(n:∀a' V',(∃f,a'=GK ops a f/\St ds ws J (more D i) f V')->K a' V'):Does P ops i (GK ops a f) V K:=by
 have e:tab.getD i []=dp:=DI
 have c:=cZ o (e ▸ d) m λl hl=>Bb (AR.1 r l hl);exact(st i (Aq.1 p).1 D f V (λk q=>b.1 k (d k (by rw[<-e];exact q))) b.1 (by rw[<-c];exact b.2) c).mono λa' V' ⟨u,g,j⟩=>n _ _ ⟨_,g,j⟩
def Sf(e:(ws.all λl=>decide (l<tab.length))=true)(c:decide (ds.length<=tab.length)=true)(b:∀i,i<tab.length->D i=true)(a:St ds ws J D f V):Hs ds (λ_=>true) V f/\J (ws.map λ_=>true) (ws.map f) V:=by
 refine⟨λk _=>?_,?_⟩
 . by_cases d:k<tab.length
   . exact a.1 k (b k d)
   . have:=Bb c;rw[List.getD_eq_getElem?_getD,A8 O];trivial
 . rw[CL (g:=D) λl hl=>(b l (Bb (AR.1 e l hl))).symm];exact a.2
def Kh(tab a:List m4):Bool:=tab.length==a.length&&(List.range a.length).all λi=>(a.getD i []).all λk=>(tab.getD i []).contains k || (tab.getD i []).any λj=>decide (j<i)&&(a.getD j []).contains k
theorem Sg{a:List m4}(h:Kh tab a=true)(i:Nat)(b:i<a.length)(k:Nat)(c:k∈a.getD i []):k∈tab.getD i []\/∃j,j<i/\j∈tab.getD i []/\k∈a.getD j []:=by
 have d:=AR.1 (AR.1 (FL.1 h).2 i (List.mem_range.2 b)) k c;grind
theorem Mu{a:List m4}(h:Kh tab a=true):tab.length=a.length:=eq_of_beq (FL.1 h).1
def getD_at{t:List m4}{i:Nat}(h:i<t.length):t[i]?=some (t.getD i []):=DI
theorem Si{a:List m4}(h:Kh tab a=true)(b:∀l dp,tab[l]?=some dp->D l=true->∀k∈dp,D k=true)(l:Nat):D l=true->∀k∈a.getD l [],D k=true:=by
 induction l using Nat.strongRecOn with
 |ind l d=>
  intro hD k c;grind[Mu,Sg]
theorem Sj{b:List m4}{a:Act}{dp:m4}{K:Act->G->Prop}(h:Kh tab b=true)(d:∀l dp,tab[l]?=some dp->D l=true->∀k∈dp,D k=true)(s:tab[i]?=some dp)(g:∀k∈dp,D k=true)(o:D i=false)(r:(ws.all λl=>decide (l<b.length))=true)
(st:∀i,i<b.length->Stp P ops (GK ops a) ds ws J b i)(p:St ds ws J D f V)(q:∀a' V',(∃f,a'=GK ops a f/\St ds ws J (more D i) f V')->K a' V'):Does P ops i (GK ops a f) V K:=by
 have hl:i<b.length:=by grind[Mu]
 have e:tab.getD i []=dp:=DI
 refine cg (λl dp hl hD k m=>Si h d l hD k DI) (getD_at hl) (λk m=>?_) o r st p q;rcases Sg h i hl k m with c|⟨j,_,c,n⟩
 . exact g k (e ▸ c)
 . exact Si h d j (g j (e ▸ c)) k n
def EU{id:Nat}{a:Act}{w:G}{Q:Exit->Act->G->Prop}(u:P.follows .mixedOrders=true)(b:List m4)(ds:List Dat)(ws:m4)(J:List Bool->List E->G->Prop)
(start:J (ws.map λ_=>false) (ws.map λk=>Mt a (ops.toList.map Oper.dst)[k]?) w.drew)
(st:∀i,i<b.length->Stp P ops (GK ops a) ds ws J b i)
(fin:∀f V,Hs ds (λ_=>true) V f->J (ws.map λ_=>true) (ws.map f) V->Q .normal (GK ops a f) V)
(e:Kh (Region.tabAfter .any ops) b=true:=by kernel_rfl)(t:Kc (Region.tabAfter .any ops)=true:=by kernel_rfl)(g:(ws.all λl=>decide (l<b.length))=true:=by rfl)(r:decide (ds.length<=b.length)=true:=by rfl):(Code.region id ops true).wp P Q a w:=by
 refine J6 u _ rfl t (λD a' V=>∃f,a'=GK ops a f/\St ds ws J D f V) ⟨_,(PE a _ 0 _ λj _=>by rw[CA]).symm,Cy (λ_ h=>Bool.noConfusion h) start⟩ ?_ ?_
 . rintro D _ V i dp q d s o ⟨f,rfl,c⟩;exact(Sj e q d s o g st c λ_ _ h=>h).op
 . rintro D _ V p ⟨f,rfl,c⟩;obtain⟨m,n⟩:=Sf g r (λi d=>p i (by rw[Mu e];exact d)) c;exact fin f V m n
def Ki{F:Fence}{id:Nat}{a:Act}{w:G}{Q:Exit->Act->G->Prop}(hF:LZ F)(v:P.follows .mixedOrders=true)(b:List m4)(ds:List Dat)(ws:m4)(J:List Bool->List E->G->Prop)
(start:J (ws.map λ_=>false) (ws.map λk=>Mt a (ops.toList.map Oper.dst)[k]?) w.drew)
(st:∀i,i<b.length->Stp P ops (GK ops a) ds ws J b i)
(fin:∀f V,Hs ds (λ_=>true) V f->J (ws.map λ_=>true) (ws.map f) V->Q .normal (GK ops a f) V)
(e:Kh (Region.tabAfter .any ops) b=true:=by kernel_rfl)(u:Kc (Region.tabAfter .any ops)=true:=by kernel_rfl)(g:(ws.all λl=>decide (l<b.length))=true:=by rfl)(s:decide (ds.length<=b.length)=true:=by rfl):(Code.region id ops true).wpIn F n P Q a w:=by
 refine Xo v _ rfl u (λD a' V=>∃f,a'=GK ops a f/\St ds ws J D f V) ⟨_,(PE a _ 0 _ λj _=>by rw[CA]).symm,Cy (λ_ h=>Bool.noConfusion h) start⟩ ?_ ?_
 . rintro D _ V i dp r d t p ⟨f,rfl,c⟩;exact(Sj e r d t p g st c λ_ _ h=>h).opIn hF
 . rintro D _ V q ⟨f,rfl,c⟩;obtain⟨m,o⟩:=Sf g s (λi d=>q i (by rw[Mu e];exact d)) c;exact fin f V m o
def DT{p q:Prop}(k:q)(h:q->p:=by intro x;simp only[GK,La,List.map_cons,List.map_nil,Act.put,List.setIfInBounds_toArray,List.set_cons_succ,List.set_cons_zero,Nat.reduceAdd];exact x):p:=h k
end
end M3
namespace M3
def Dat.ifq(q:Rat):Dat where
 ty:=0
 has V v:=∃u,v=.iface 37 u/\Jj V u q
 noPoly:=true
 below h hb:=by
  obtain⟨u,e,h⟩:=h;exact⟨u,e,h.below hb⟩
 keep h hk hp:=by
  obtain⟨u,e,h⟩:=h;exact⟨u,e,Dat.keep (.rat q) h hk hp⟩
section
variable {w V:World} {bs:List (Option (Nat × Dat))} {B:Nat} {ρ:Operand->Value} {x y:Operand} {dst:Option Tmp} {ty:TypeId} {ps:String} {af:Array Edge} {gd:Option (Nat × Bool)} {q q0:Rat} {z z0:Int} {p p0:Ja} {v p1 u1:Value} {ds:List Dat} {T:World->Value->Prop}
variable{d d1:Dat}{qs:Ja}{m:Nat}
def F3(i:Nat)(M:DH w V bs)(h:bs[i]?=some (some (B,.rat q)):=by rfl)(hp:p1=N (some ⟨B,0,none⟩):=by rfl)(e:ρ x=p1:=by kernel_rfl):∃u,(execOp ρ { dst:=dst,op:=.load 37 x,type:=ty,pos:=ps,after:=af,guard:=gd }).run I V=.ok (.value u) V/\Has V u (.rat q):=by
 rw[hp]at e;obtain⟨s,a,l,c,t,b,k,d,n,r,_,_⟩:=M.rat h;obtain⟨f,g,j,m⟩:=n.kb;exact⟨_,by go_simp,r⟩
def Gr(i:Nat)(M:DH w V bs)(h:bs[i]?=some (some (B,.int z)):=by rfl)(hp:p1=N (some ⟨B,0,none⟩):=by rfl)(b:ρ x=p1:=by kernel_rfl):∃u,(execOp ρ { dst:=dst,op:=.load 35 x,type:=ty,pos:=ps,after:=af,guard:=gd }).run I V=.ok (.value u) V/\Has V u (.int z):=by
 rw[hp]at b;obtain⟨s,a,l,c,n,r⟩:=M.int h;obtain⟨d,e⟩:=n.ka;exact⟨_,by go_simp,r⟩
def Hi(i:Nat)(M:DH w V bs)(h:bs[i]?=some (some (B,.cell 25 v)):=by rfl)(hp:p1=N (some ⟨B,0,none⟩):=by rfl)(a:ρ x=p1:=by kernel_rfl):∃u,(execOp ρ { dst:=dst,op:=.load 25 x,type:=ty,pos:=ps,after:=af,guard:=gd }).run I V=.ok (.value u) V/\Has V u (.eq (L #[v])):=by
 rw[hp]at a;have b:=(M.cell h).1.cell;exact⟨_,by go_simp,rfl⟩
def Kj(i:Nat)(M:DH w V bs)(h:bs[i]?=some (some (B,.rat q)):=by rfl)(hp:p1=N (some ⟨B,0,none⟩):=by rfl)(e:ρ x=p1:=by kernel_rfl):∃u,(execOp ρ { dst:=dst,op:=.load 35 x,type:=ty,pos:=ps,after:=af,guard:=gd }).run I V=.ok (.value u) V/\Has V u (.int q.num):=by
 rw[hp]at e;obtain⟨s,a,l,c,t,b,k,d,n,_,r,_⟩:=M.rat h;obtain⟨f,g,j,m⟩:=n.kb;exact⟨_,by go_simp,r⟩
def Lb(i:Nat){a:nJ}{l c:Nat}(M:DH w V bs)(h:bs[i]?=some (some (B,.cell 23 (C a l c))):=by rfl)(hp:p1=N (some ⟨B,0,none⟩):=by rfl)(b:ρ x=p1:=by kernel_rfl):∃u,(execOp ρ { dst:=dst,op:=.load 23 x,type:=ty,pos:=ps,after:=af,guard:=gd }).run I V=.ok (.value u) V/\Has V u (.eq (C a l c)):=by
 rw[hp]at b;have d:=(M.cell h).1.cell;exact⟨_,by go_simp,rfl⟩
def mv{y:E}(h:ρ x=y:=by kernel_rfl):∃u,(execOp ρ { dst:=dst,op:=.move x,type:=ty,pos:=ps,after:=af,guard:=gd }).run I V=.ok (.value u) V/\Has V u (.eq y):=⟨_,rfl,h⟩
def av{y:E}(h:ρ x=y:=by kernel_rfl):∃u,(execOp ρ { dst:=dst,op:=.assign x,type:=ty,pos:=ps,after:=af,guard:=gd }).run I V=.ok (.value u) V/\Has V u (.eq y):=⟨_,rfl,h⟩
def mw(a:Has V u1 d)(h:ρ x=u1:=by kernel_rfl):∃u,(execOp ρ { dst:=dst,op:=.move x,type:=ty,pos:=ps,after:=af,guard:=gd }).run I V=.ok (.value u) V/\Has V u d:=⟨_,rfl,h ▸ a⟩
def aw(a:Has V u1 d)(h:ρ x=u1:=by kernel_rfl):∃u,(execOp ρ { dst:=dst,op:=.assign x,type:=ty,pos:=ps,after:=af,guard:=gd }).run I V=.ok (.value u) V/\Has V u d:=⟨_,rfl,h ▸ a⟩
def PF(i:Nat)(M:DH w V bs)(a:m<qs.length)(hp:p1=N (some ⟨B,m*4,none⟩))(h:bs[i]?=some (some (B,.rats qs)):=by rfl)(c:ρ x=p1:=by kernel_rfl):∃u,(execOp ρ { dst:=dst,op:=.load 37 x,type:=ty,pos:=ps,after:=af,guard:=gd }).run I V=.ok (.value u) V/\Has V u (.rat (cf qs m)):=by
 rw[hp]at c;obtain⟨j,k,l,n,d,e,f,g,b⟩:=(M.rats h).at a;exact⟨_,by go_simp,b⟩
def Wr(ρ:Operand->E)(o:Oper)(V:G)(ds:List Dat)(d:Dat)(T:G->E->Prop):Prop:=∃r u W,(execOp ρ o).run I V=.ok r W/\(r=.value u\/(r=.skip/\u=R))/\Has W u d/\(∀d v,(d∈ds\/d=.any)->Has V v d->Has W v d)/\T W u
def Gs(i:Nat)(M:DH w V bs)(f:Has V u1 (.int z))(h:bs[i]?=some (some (B,.int z0)):=by rfl)(hp:p1=N (some ⟨B,0,none⟩):=by rfl)(j:ρ x=p1:=by kernel_rfl)(o:ρ y=u1:=by kernel_rfl)(g:ds.all Dat.noPoly=true:=by rfl)(hT:∀ {s a l c x y},Jp V B 35 (H s) (C a l c)->DH w ((V.setCell ⟨B,0,none⟩ x).setCell ⟨B,1,none⟩ y) (bs.set i (some (B,.int z)))->T ((V.setCell ⟨B,0,none⟩ x).setCell ⟨B,1,none⟩ y) R:=by exact λ_ m=>m):Wr ρ { dst:=none,op:=.store 35 x y,type:=ty,pos:=ps,after:=af,guard:=gd } V ds (.eq R) T:=by
 rw[hp]at j;obtain⟨s,a,l,c,n,r⟩:=M.int h;obtain⟨q,t⟩:=n.ka;obtain⟨f0,f1⟩:=n.fa;obtain⟨u,p,l1,c1,e⟩:=Jm.form2 (show Jm V _ _ from f);rw[e]at f;rw[e]at o;exact⟨.skip,R,_,by go_simp,Au ⟨rfl,rfl⟩,rfl,λd v b k=>k.set2 n rfl rfl _ _ (by rcases b with b|rfl;exact AR.1 g d b;rfl),hT n (M.putInt h f)⟩
def PG(i:Nat)(M:DH w V bs)(g:Has V u1 (.rat q))(h:bs[i]?=some (some (B,.rat q0)):=by rfl)(hp:p1=N (some ⟨B,0,none⟩):=by rfl)(o:ρ x=p1:=by kernel_rfl)(p:ρ y=u1:=by kernel_rfl)(j:ds.all Dat.noPoly=true:=by rfl)(u:noPoly bs=true:=by rfl)(hT:∀ {s a l c t b k d x y x' y'},JB V B 37 (H s) (C a l c) (H t) (C b k d)->DH w (put4 V B x y x' y') (bs.set i (some (B,.rat q)))->T (put4 V B x y x' y') R:=by exact λ_ m=>m):Wr ρ { dst:=none,op:=.store 37 x y,type:=ty,pos:=ps,after:=af,guard:=gd } V ds (.eq R) T:=by
 rw[hp]at o;obtain⟨s,a,l,c,t,b,k,d,n,r,_,_⟩:=M.rat h;obtain⟨D,K,P,Q⟩:=n.kb;obtain⟨f0,f1,f2,f3⟩:=n.fb;obtain⟨U,z,l1,c1,W,A,S,d1,e⟩:=Jj.form (show Jj V _ _ from g);rw[e]at g;rw[e]at p;exact⟨.skip,R,_,by go_simp;rfl,Au ⟨rfl,rfl⟩,rfl,λd v f k=>k.put4 n rfl rfl rfl rfl _ _ _ _ (by rcases f with f|rfl;exact AR.1 j d f;rfl),hT n (M.putRat h g u)⟩
def Mv(i:Nat)(M:DH w V bs)(b:m<qs.length)(c:Has V u1 (.rat q))(hp:p1=N (some ⟨B,m*4,none⟩))(h:bs[i]?=some (some (B,.rats qs)):=by rfl)(e:ds.all Dat.noPoly=true:=by rfl)(g:noPoly bs=true:=by rfl)(f:ρ x=p1:=by kernel_rfl)(t:ρ y=u1:=by kernel_rfl)(hT:∀ {x y z u},Dh true V B qs->DH w (putAt V B (m*4) x y z u) (bs.set i (some (B,.rats (qs.set m q))))->T (putAt V B (m*4) x y z u) R:=by exact λ_ m=>m):Wr ρ { dst:=none,op:=.store 37 x y,type:=ty,pos:=ps,after:=af,guard:=gd } V ds (.eq R) T:=by
 rw[hp]at f;have hE:=M.rats h;obtain⟨Q,S,U,W,o,p,r,s,_⟩:=hE.at b;have f0:=hE.frozen (m*4);have f1:=hE.frozen (m*4+1);have f2:=hE.frozen (m*4+2);have f3:=hE.frozen (m*4+3);obtain⟨K,j,D,l,P,b9,A,n,rfl⟩:=Jj.form (show Jj V _ _ from c);exact⟨.skip,R,_,by go_simp;rfl,Au ⟨rfl,rfl⟩,rfl,λd v a k=>k.keep (hE.putKeep b _ _ _ _) (An (by rcases a with a|rfl;exact AR.1 e d a;rfl)),hT hE (M.putRats h b c g)⟩
def Hy(i:Nat)(M:DH w V bs)(h:bs[i]?=some none:=by rfl)(hT:∀ {o},DH w (V.alloc o) (bs.set i (some (V.heap.size,.int 0)))->T (V.alloc o) (N (some ⟨V.heap.size,0,none⟩)):=by exact λm=>m):Wr ρ { dst:=dst,op:=.alloc 35,type:=ty,pos:=ps,after:=af,guard:=gd } V ds .ptr T:=
 ⟨_,N (some ⟨V.heap.size,0,none⟩),_,by go_simp;exact rfl,An rfl,rfl,λ_ _ _ k=>k.alloc _,hT (M.fill h (.int 0) (ET V))⟩
def Sk(i:Nat)(M:DH w V bs)(h:bs[i]?=some none:=by rfl)(hT:∀ {o},DH w (V.alloc o) (bs.set i (some (V.heap.size,.rat 0)))->T (V.alloc o) (N (some ⟨V.heap.size,0,none⟩)):=by exact λm=>m):Wr ρ { dst:=dst,op:=.alloc 37,type:=ty,pos:=ps,after:=af,guard:=gd } V ds .ptr T:=
 ⟨_,N (some ⟨V.heap.size,0,none⟩),_,by go_simp;exact rfl,An rfl,rfl,λ_ _ _ k=>k.alloc _,hT (M.fill h (.rat 0) (D8 V))⟩
def nb(b:List Bool)(v:List E)(a l:Nat)(d0 d1:Dat):Option (Nat × Dat):=if b.getD a false then some (Kg (v.getD a R),if b.getD l false then d1 else d0)else none
def mi(a:Has V u1 (.rat q))(b:ρ x=u1:=by kernel_rfl):∃u,(execOp ρ { dst:=dst,op:=.makeInterface 37 x,type:=ty,pos:=ps,after:=af,guard:=gd }).run I V=.ok (.value u) V/\Has V u (.ifq q):=⟨.iface 37 u1,by go_simp,u1,rfl,a⟩
def Sl{a:Dat}(h:Has V p1 (.tup2 d1 a))(c:ρ x=p1:=by kernel_rfl):∃u,(execOp ρ { dst:=dst,op:=.extract x 0,type:=ty,pos:=ps,after:=af,guard:=gd }).run I V=.ok (.value u) V/\Has V u d1:=by
 obtain⟨u,v,e,b,d⟩:=h;rw[e]at c;exact⟨_,by go_simp,b⟩
def Sn{a:Dat}(h:Has V p1 (.tup2 d1 a))(c:ρ x=p1:=by kernel_rfl):∃u,(execOp ρ { dst:=dst,op:=.extract x 1,type:=ty,pos:=ps,after:=af,guard:=gd }).run I V=.ok (.value u) V/\Has V u a:=by
 obtain⟨u,v,e,d,b⟩:=h;rw[e]at c;exact⟨_,by go_simp,b⟩
def So{a:Dat}(h:Has V p1 (.tup2 d1 a))(b:ρ x=p1:=by kernel_rfl):∃u,(execOp ρ { dst:=dst,op:=.extract x 2,type:=ty,pos:=ps,after:=af,guard:=gd }).run I V=.ok (.value u) V/\Has V u (.eq (H true)):=by
 obtain⟨u,v,e,c,d⟩:=h;rw[e]at b;exact⟨_,by go_simp,rfl⟩
def ct(h:Has V p1 (.tup1 d))(b:ρ x=p1:=by kernel_rfl):∃u,(execOp ρ { dst:=dst,op:=.extract x 0,type:=ty,pos:=ps,after:=af,guard:=gd }).run I V=.ok (.value u) V/\Has V u d:=by
 obtain⟨u,e,a⟩:=h;rw[e]at b;exact⟨_,by go_simp,a⟩
def cx(h:Has V p1 (.tup1 d))(a:ρ x=p1:=by kernel_rfl):∃u,(execOp ρ { dst:=dst,op:=.extract x 1,type:=ty,pos:=ps,after:=af,guard:=gd }).run I V=.ok (.value u) V/\Has V u (.eq (H true)):=by
 obtain⟨u,e,b⟩:=h;rw[e]at a;exact⟨_,by go_simp,rfl⟩
end
def Ei{p q:Prop}(k:p)(h:p->q:=by intro x;simp only[nb,List.map_cons,List.map_nil,List.getD_cons_zero,List.getD_cons_succ,if_true,Kg]at x;exact x):q:=h k
end M3
def Jw.alloc{W:G}{v:E}{z:Int}(h:Jw W v z)(o:Obj):Jw (W.alloc o) v z:=h.below (Ba W o)
def Jw.form{W:G}{v:E}{z:Int}(h:Jw W v z):∃a l cap,v=L #[C a l cap,H (decide (z<0))]:=by
 obtain⟨a,l,cap,e,_⟩:=h;exact⟨a,l,cap,e⟩
def Jw.box{W:G}{R:Nat}{t:TypeId}{u0 u1 x0 x1 v:E}{z:Int}(h:Jw W v z)(q:Jp W R t u0 u1)(c:JE u0=true)(d:JE u1=true):Jw ((W.setCell ⟨R,0,none⟩ x0).setCell ⟨R,1,none⟩ x1) v z:=by
 obtain⟨a,l,cap,e,b⟩:=h;exact⟨a,l,cap,e,Row.set (Row.set b q.c0 c _) (u0:=u1) (q.set0 x0).c1 d _⟩
def Sp(Q S:E)(x y:Int)(w:G)(f:Jw w Q x)(g:Jw w S y)(ah:D3 x<=400000000000)(ai:D3 y<=400000000000):
 M I 159 #[Q,S] w λe c=>∃u,e=.returned u/\Jw c u (x-y)/\Bl w c:=by
 obtain⟨a,la,ca,rfl⟩:=f.form;obtain⟨b,lb,cb,rfl⟩:=g.form;obtain⟨s,q⟩:=ex (decide (x<0));obtain⟨t,r⟩:=ex (decide (y<0));rw[q]at f ⊢;rw[r]at g ⊢;clear q r;obtain⟨W0,d⟩:=ex (((w.alloc (F #[C a la ca,H s] 45)).alloc (F #[C b lb cb,H t] 45)).alloc (F #[C none 0 0,H false] 45));have i:Bl w W0:=by rw[<-d];exact Hu w _ _ _
 have b0:Jp W0 w.heap.size 45 (C a la ca) (H s):=by rw[<-d];exact((Jp.new w _ _ _).alloc _).alloc _
 have j:Jp W0 (w.heap.size+1) 45 (C b lb cb) (H t):=by
  have h:=(Jp.new (w.alloc (F #[C a la ca,H s] 45)) 45 (C b lb cb) (H t)).alloc (F #[C none 0 0,H false] 45);rw[Ax,d]at h;exact h
 have k:Jp W0 (w.heap.size+1+1) 45 (C none 0 0) (H false):=by
  have h:=Jp.new ((w.alloc (F #[C a la ca,H s] 45)).alloc (F #[C b lb cb,H t] 45)) 45 (C none 0 0) (H false);rw[Ax,Ax,d]at h;exact h
 have T:=Y λ(V:G) (h:Bl W0 V)=>Oa _ y V ((g.below i).below h);have U:=Y λ(V:G) (u:E) (h:Bl W0 V) (hu:Jw V u (-y))=>OZ _ u x (-y) V ((f.below i).below h) hu ah (by unfold D3 at *;rw[FM];exact ai);clear f g;go_enter func159,ntmps159
 go_wp2_with fail
 try rw[d]
 clear d;have hq:Bl W0 W0.drew:=(BA _ W0).drew;obtain⟨z,A⟩:=b0.cp;obtain⟨B,D⟩:=j.cp;have aj:¬(w.heap.size=w.heap.size+1+1):=O
 go_region_held3 (λc=>c.cell? ⟨w.heap.size,0,none⟩=some (C a la ca)/\c.cell? ⟨w.heap.size,1,none⟩=some (H s)/\c.cell? ⟨w.heap.size+1,0,none⟩=some (C b lb cb)/\c.cell? ⟨w.heap.size+1,1,none⟩=some (H t)) (refine⟨?_,?_,?_,?_⟩<;>(first|(go_keep;done)|((repeat rw[JF O]);simp[*];done)))
  (first
   |(go_at_call 142;refine(T.o _ hq).mono ?_;rintro e w1 ⟨u1,rfl,n,ad⟩;obtain⟨na,nl,nc,rfl⟩:=n.form;obtain⟨s1,l⟩:=ex (decide (-y<0));rw[l]at n;rw[l];clear l;have hq:=Bt hq ad;obtain⟨z,A⟩:=(b0.below hq).cp;obtain⟨B,D⟩:=(j.below hq).cp)
   |(go_at_call 96;refine(U.o _ _ hq n).mono ?_;rintro e w2 ⟨u2,rfl,o,ae⟩;obtain⟨P,sl,sc,rfl⟩:=o.form;obtain⟨K,m⟩:=ex (decide (x+-y<0));rw[m]at o;rw[m];clear m;have hq:=Bt hq ae;obtain⟨z,A⟩:=(b0.below hq).cp;obtain⟨B,D⟩:=(j.below hq).cp;obtain⟨r0,r1⟩:=(k.below hq).cp;obtain⟨f0,f1⟩:=(k.below hq).fp))
 all_goals go_wp2_with fail
 have X:=Bt i hq;have W:=o.box (k.below hq) rfl rfl (x0:=C P sl sc) (x1:=H K);exact A0 (v:=L #[C P sl sc,H K]) (by simp[results,results159,go_sem,r0,r1]) rfl ⟨_,rfl,by rw[Int.sub_eq_add_neg];exact W,(X.setCell (p:=⟨_,0,none⟩) Db _).setCell (p:=⟨_,1,none⟩) Db _⟩
def Sr(T U:E)(x y:Int)(w:G)(d:Jm w T x)(hb:Jm w U y)(ah:(Jd Z x.natAbs).length<1099511627776)(ai:(Jd Z y.natAbs).length<1099511627776):
 M I 67 #[T,U] w λe c=>∃u,e=.returned u/\Jm c u (x-y)/\Bl w c:=by
 obtain⟨a,la,ca,rfl⟩:=d.form;obtain⟨b,lb,cb,e0,f⟩:=hb;cases e0;obtain⟨s,A⟩:=ex (decide (x<0));obtain⟨t,n⟩:=ex (decide (y<0));rw[A]at d ⊢;rw[n];clear A;obtain⟨W0,k⟩:=ex (((w.alloc (F #[H s,C a la ca] 35)).alloc (F #[H t,C b lb cb] 35)).alloc (F #[H false,C none 0 0] 35));obtain⟨j,b0,g,i⟩:=MX k;have r:(if(!t)=true then -(y.natAbs:Int)else y.natAbs)=-y:=by
  rw[<-n];by_cases h:y<0
  . simp only[h,decide_true,Bool.not_true,C7,if_false];omega
  . simp only[h,decide_false,Bool.not_false,if_true];omega
 have W:=Y (λ(V:G) (h:Bl W0 V)=>show M I 72 #[H (!t),C b lb cb] V λe c=>∃u,e=.returned u/\Jm c u (-y)/\Bl V c by
  have z:=KZ (!t) (C b lb cb) y.natAbs V (UN.below (UN.below f j) h);rw[r]at z;exact z)
 have X:=Y λ(V:G) (u:E) (h:Bl W0 V) (f:Jm V u (-y))=>Ow _ u x (-y) V ((d.below j).below h) f ah (by rw[FM];exact ai);clear d f r n;go_enter func67,ntmps67
 go_wp2_with fail
 try rw[k]
 clear k;have hq:Bl W0 W0.drew:=(BA _ W0).drew;obtain⟨B,D⟩:=b0.cp;obtain⟨K,P⟩:=g.cp;have aj:¬(w.heap.size=w.heap.size+1+1):=O
 go_region_held3 (λc=>c.cell? ⟨w.heap.size,0,none⟩=some (H s)/\c.cell? ⟨w.heap.size,1,none⟩=some (C a la ca)/\c.cell? ⟨w.heap.size+1,0,none⟩=some (H t)/\c.cell? ⟨w.heap.size+1,1,none⟩=some (C b lb cb)) (refine⟨?_,?_,?_,?_⟩<;>(first|(go_keep;done)|((repeat rw[JF O]);simp[*];done)))
  (first
   |(go_at_call 72;refine(W.o _ hq).mono ?_;rintro e w1 ⟨u1,rfl,o,ad⟩;obtain⟨na,nl,nc,rfl⟩:=o.form;obtain⟨s1,l⟩:=ex (decide (-y<0));rw[l]at o;rw[l];clear l;have hq:=Bt hq ad;obtain⟨B,D⟩:=(b0.below hq).cp;obtain⟨K,P⟩:=(g.below hq).cp)
   |(go_at_call 83;refine(X.o _ _ hq o).mono ?_;rintro e w2 ⟨u2,rfl,q,ae⟩;obtain⟨S,sl,sc,rfl⟩:=q.form;obtain⟨Q,m⟩:=ex (decide (x+-y<0));rw[m]at q;rw[m];clear m;have hq:=Bt hq ae;obtain⟨B,D⟩:=(b0.below hq).cp;obtain⟨K,P⟩:=(g.below hq).cp;obtain⟨r0,r1⟩:=(i.below hq).cp;obtain⟨f0,f1⟩:=(i.below hq).fp))
 all_goals go_wp2_with fail
 have Qc:=Bt j hq;have Qb:=q.box (i.below hq) rfl rfl (x0:=H Q) (x1:=C S sl sc);exact A0 (v:=L #[H Q,C S sl sc]) (by simp[results,results67,go_sem,r0,r1]) rfl ⟨_,rfl,by rw[Int.sub_eq_add_neg];exact Qb,(Qc.setCell (p:=⟨_,0,none⟩) Db _).setCell (p:=⟨_,1,none⟩) Db _⟩
def dA(a:nJ)(la ca:Nat)(b:nJ)(lb cb m n:Nat)(w:G)(t:la+lb<=1099511627776)
(d:Row .u64 w (C a la ca) (Jd Z m))(f:Row .u64 w (C b lb cb) (Jd Z n)):
 M I 127 #[C a la ca,C b lb cb] w λe q=>∃u,e=.returned u/\UN q u (m*n)/\Bl w q:=by
 have l:=Kb (la+lb) O w;rw[show((la+lb:Nat):Int)=(la:Int)+(lb:Int)from by omega]at l;obtain⟨c,g⟩:∃c,c=w.alloc (F (cellsOf .u64 (nL (la+lb) 0)).toArray 115):=⟨_,rfl⟩;have i:Bl w c:=by rw[g];exact Ba w _
 have k:DO c w.heap.size (nL (la+lb) 0):=by rw[g];exact DO.made (BB w _)
 rw[<-g]at l;have r:=Y (aR w.heap.size (la+lb) (la+lb) (nL (la+lb) 0) a la ca b lb cb m n c k (λx v=>by rw[Fz v];unfold Z;omega) DI (Aa _) O t (Row.below d i) (Row.below f i)
  (λp e j=>by have:=I0 d e j;omega) λp e j=>by have:=I0 f e j;omega)
 have y:=(Ju d).2.1;have z:=(Ju d).2.2.1;have A:=(Ju f).2.1;have B:=(Ju f).2.2.1;clear g k d f;go_enter func127,ntmps127
 go_wp2_with(go_at_call 168;refine r.o.mono ?_;rintro e P ⟨u,rfl,⟨o,s⟩,_,_⟩;obtain⟨D,K,rfl⟩:=UN.form o)
 go_ret;exact⟨_,rfl,o,below_grown i s (Aa _)⟩
def XF(S T:E)(x y:Int)(w:G)(ha:Jm w S x)(hb:Jm w T y)(hl:(Jd Z x.natAbs).length+(Jd Z y.natAbs).length<=1099511627776):
 M I 69 #[S,T] w λe f=>∃u,e=.returned u/\Jm f u (x*y)/\Bl w f:=by
 obtain⟨a,la,ca,l,i⟩:=ha;cases l;obtain⟨b,lb,cb,l,z⟩:=hb;cases l;have Qc:=i.len;have Qd:=z.len;obtain⟨s,o⟩:=ex (decide (x<0));obtain⟨t,r⟩:=ex (decide (y<0));have A:(if(!(s==t))=true then -((x.natAbs*y.natAbs:Nat):Int)else((x.natAbs*y.natAbs:Nat):Int))=x*y:=by
  rw[<-o,<-r,<-Cu];rcases FJ x 0 with c|c|c<;>rcases FJ y 0 with d|d|d
  . have:=Int.mul_pos_of_neg_of_neg c d;simp[c,d];omega
  . subst d;simp
  . have:=Int.mul_neg_of_neg_of_pos c d;have g:¬y<0:=O
    simp[c,g];omega
  . subst c;simp
  . subst c;simp
  . subst c;simp
  . have:=Int.mul_neg_of_pos_of_neg c d;have g:¬x<0:=O
    simp[d,g];omega
  . subst d;simp
  . have:=Int.mul_pos c d;have g:¬x<0:=O
    have h2:¬y<0:=O
    simp[g,h2];omega
 rw[o,r];obtain⟨W0,n⟩:=ex (((w.alloc (F #[H s,C a la ca] 35)).alloc (F #[H t,C b lb cb] 35)).alloc (F #[H false,C none 0 0] 35));obtain⟨m,b0,j,k⟩:=MX n;have W:=Y λ(V:G) (h:Bl W0 V)=>dA a la ca b lb cb _ _ V O (UN.below (UN.below i m) h) (UN.below (UN.below z m) h);have U:=Y (λ(V:G) (u:E) (i:UN V u (x.natAbs*y.natAbs))=>show M I 72 #[H (!(s==t)),u] V λe f=>∃u,e=.returned u/\Jm f u (x*y)/\Bl V f by
  have g:=KZ (!(s==t)) u _ V i;rw[A]at g;exact g)
 clear i z A o r Qc Qd hl;go_enter func69,ntmps69
 go_wp2_with fail
 try rw[n]
 clear n;have hq:Bl W0 W0.drew:=(BA _ W0).drew;obtain⟨D,K⟩:=b0.cp;obtain⟨P,Q⟩:=j.cp;have ah:¬(w.heap.size=w.heap.size+1+1):=O
 go_region_held3 (λf=>f.cell? ⟨w.heap.size,0,none⟩=some (H s)/\f.cell? ⟨w.heap.size,1,none⟩=some (C a la ca)/\f.cell? ⟨w.heap.size+1,0,none⟩=some (H t)/\f.cell? ⟨w.heap.size+1,1,none⟩=some (C b lb cb)) (refine⟨?_,?_,?_,?_⟩<;>(first|(go_keep;done)|((repeat rw[JF O]);simp[*];done)))
  (first
   |(go_at_call 127;refine(W.o _ hq).mono ?_;rintro e w1 ⟨u1,rfl,B,ad⟩;obtain⟨na,nc,rfl⟩:=UN.form B;have hq:=Bt hq ad;obtain⟨D,K⟩:=(b0.below hq).cp;obtain⟨P,Q⟩:=(j.below hq).cp)
   |(go_at_call 72;refine(U.o _ _ B).mono ?_;rintro e w2 ⟨u2,rfl,v,ae⟩;obtain⟨sa,sl,sc,rfl⟩:=v.form;obtain⟨s2,q⟩:=ex (decide (x*y<0));rw[q]at v;rw[q];clear q;have hq:=Bt hq ae;obtain⟨D,K⟩:=(b0.below hq).cp;obtain⟨P,Q⟩:=(j.below hq).cp;obtain⟨r0,r1⟩:=(k.below hq).cp;obtain⟨f0,f1⟩:=(k.below hq).fp))
 all_goals go_wp2_with fail
 have Qe:=Bt m hq;have X:=v.box (k.below hq) rfl rfl (x0:=H s2) (x1:=C sa sl sc);exact A0 (by simp[results,results69,go_sem,r0,r1]) rfl ⟨_,rfl,X,(Qe.setCell (p:=⟨_,0,none⟩) Db _).setCell (p:=⟨_,1,none⟩) Db _⟩
namespace M3
section
variable {P:Program} {ops:Array Oper} {ds:List Dat} {ws:m4} {J:List Bool->List Value->World->Prop} {f:Nat->Value} {V:World}
def yb:E->Option Bool
 |H b=>some b
 |_=>none
def PH{b:Bool}{P Q a Q':Prop}(h:if b=true then P else Q)(hp:P->a)(hq:Q->Q'):if b=true then a else Q':=by
 cases b
 . exact hq h
 . exact hp h
def Y9{o:Oper}{mk:(Nat->E)->Act}{dp:m4}{x:E}(k:Nat)(b:Bool)(h:Av ds dp V f)(c:Region.wanted o (yielded ops (mk f).tmps)=(yb (f k)==some b):=by kernel_rfl)(e:ds.getD k .any=.eq x:=by rfl)(a:k∈dp:=by decide):Region.wanted o (yielded ops (mk f).tmps)=(yb x==some b):=by
 rw[c,h.e k e a]
end
end M3
def Dm(W:G)(b:Nat)(xs:m4):Prop:=∃a:List E,W.heap[b]?=some (F (cellsOf .i64 xs++a).toArray 3 (0,0))
variable{xs:m4}{b c k l n:Nat}
theorem Dm.lt{W:G}(h:Dm W b xs):b<W.heap.size:=by obtain⟨_,h⟩:=h;grind
theorem Dm.cell{W:G}{b:Nat}{xs:m4}(h:Dm W b xs){j:Nat}(a:j<xs.length):W.cell? ⟨b,j,none⟩=some (.int .i64 (xs[j]?.getD 0:Nat)):=by
 obtain⟨c,h⟩:=h;grind[cellsOf,World.cell?]
def Dm.frozen{W:G}{b:Nat}{xs:m4}(h:Dm W b xs)(j:Nat):W.frozen? ⟨b,j,none⟩=false:=by obtain⟨_,h⟩:=h;simp[World.frozen?,h]
def Dm.of_block{W W':G}(h:Dm W b xs)(e:W'.heap[b]?=W.heap[b]?):Dm W' b xs:=by obtain⟨a,h⟩:=h;exact⟨a,e.trans h⟩
def Dm.kept{W W':G}{row:Option Nat}(h:Dm W b xs)(hg:W.grownBy W' row)(a:some b≠row):Dm W' b xs:=h.of_block (hg.block b h.lt a)
def Dm.below{W W':G}(h:Dm W b xs)(a:Bl W W'):Dm W' b xs:=h.of_block (a.block b h.lt)
def Dm.alloc{W:G}{b:Nat}{xs:m4}(h:Dm W b xs)(o:Obj):Dm (W.alloc o) b xs:=h.below (Ba W o)
theorem Dm.set{W:G}{b:Nat}{xs:m4}(h:Dm W b xs)(j v:Nat):Dm (W.setCell ⟨b,j,none⟩ (.int .i64 (v:Nat))) b (xs.set j v):=by
 obtain⟨c,h⟩:=h;obtain⟨g,f⟩:=Ab.1 h;have e:∃a,(cellsOf .i64 xs++c).set j (.int .i64 (v:Nat))=cellsOf .i64 (xs.set j v)++a:=by
  rcases AQ j xs.length with d|d
  . exact⟨c,by grind[cellsOf,List.map_set]⟩
  . grind[MU,C9]
 obtain⟨a,e⟩:=e;refine⟨a,?_⟩;show(W.heap.modify b _)[b]?=_;grind
def Dm.made{W:G}(h:W.heap[b]?=some (F (cellsOf .i64 xs).toArray 3 (0,0))):Dm W b xs:=⟨[],by rw[Fu];exact h⟩
def Dm.row{W:G}(h:Dm W b xs)(a len cap:Nat)(f:a+len<=xs.length)(g:len<=cap)(d:cap<=9223372036854775807)(i:len<=1099511627776):Row .i64 W (C (some ⟨b,a,none⟩) len cap) ((xs.drop a).take len):=by
 have e:((xs.drop a).take len).length=len:=by rw[Ai,Cs];omega
 refine⟨_,cap,by rw[e],O,d,O,Au ⟨b,a,rfl,(by obtain⟨k,h⟩:=h;exact⟨_,_,h⟩),λj c=>?_⟩⟩;rw[e]at c;rw[h.cell O,Cw c,List.getElem?_drop]
theorem dB(n:Nat):madeCells #[.int .i64 0] n=(cellsOf .i64 (nL n 0)).toArray:=by
 grind[madeCells,cellsOf]
def Ss(n:Nat)(h:n<=2199023255552)(w:G):(Instr.makeSlice 43 (.int .i64 (n:Int)) (.int .i64 (n:Int))).run I w=.ok (C (some ⟨w.heap.size,0,none⟩) n n) (w.alloc (F (cellsOf .i64 (nL n 0)).toArray 3)):=by
 rw[<-dB];exact run_make_row' 43 3 (.int .i64 0) 8 underlying43 Tryz.infoInt rfl .i64 .i64 n O O w
theorem PI(B:Nat):∀(D:m4) (j d:Nat),j<D.length->val B (D.set j d)+B^j*D[j]?.getD 0=val B D+B^j*d
 |[],_,_,h=>by cases h
 |x::D,0,d,_=>by simp[val];omega
 |x::D,j+1,d,h=>by
  have a:=PI B D j d (by simpa using h);grind[val]
def Su(B n:Nat):val B (nL n 0)=0:=by
 induction n with
 |zero=>rfl
 |succ n a=>rw[Fj,val,a];simp
def DJ.set{B:Nat}{D:m4}(h:DJ B D)(j:Nat){d:Nat}(b:d<B):DJ B (D.set j d):=λx c=>by
 rcases List.mem_or_eq_of_mem_set c with a|a
 . exact h x a
 . rw[a];exact b
def Hj(a bs:m4)(i:Nat)(D:m4):Prop:=
 D.length=a.length+bs.length+1/\DJ 10000 D/\val 10000 D=val 10000 (a.take i)*val 10000 bs
def Gt(a bs:m4)(i k c:Nat)(D:m4):Prop:=
 D.length=a.length+bs.length+1/\DJ 10000 D/\c<10000/\
  val 10000 D+10000^(i+k)*c=val 10000 (a.take i)*val 10000 bs+10000^i*(a[i]?.getD 0*val 10000 (bs.take k))
theorem Hj.start(a bs:m4):Hj a bs 0 (nL (a.length+bs.length+1) 0):=
 ⟨AW,λx b=>by grind,by rw[Su];simp[val]⟩
def Hj.inner{a bs:m4}{i:Nat}{D:m4}(h:Hj a bs i D):Gt a bs i 0 0 D:=by
 obtain⟨b,c,d⟩:=h;refine⟨b,c,O,?_⟩;rw[d];simp[val]
theorem Gt.total{a bs:m4}{i:Nat}{D:m4}(h:Gt a bs i k c D)(d:bs.length<=k):val 10000 D+10000^(i+k)*c=val 10000 (a.take (i+1))*val 10000 bs:=by
 obtain⟨_,_,_,b⟩:=h;grind[Ad,Js]
def Gt.done{a bs:m4}{i:Nat}{D:m4}(h:Gt a bs i k 0 D)(b:bs.length<=k):Hj a bs (i+1) D:=by
 have:=h.total b;exact⟨h.1,h.2.1,O⟩
def Gt.over{a bs:m4}{i:Nat}{D:m4}(h:Gt a bs i k c D)(g:DJ 10000 a)(j:DJ 10000 bs)(n:i<a.length)(o:bs.length<k):c=0:=by
 have l:=h.total O;have d:=Yw (g.take (i+1));have e:=Yw j;rw[Ai,C1 O]at d;have f:val 10000 (a.take (i+1))*val 10000 bs<10000^(i+1)*10000^bs.length:=Nat.mul_lt_mul'' d e;rw[<-CV]at f;have m:10000^(i+1+bs.length)<=10000^(i+k):=Ak O O;rcases AZ c with b|b
 . exact b
 . have:=Aj (10000^(i+k)) b;omega
theorem Gt.step{a bs:m4}{i:Nat}{D:m4}(h:Gt a bs i k c D)(d:DJ 10000 a)(e:DJ 10000 bs)(m:i+k<D.length)(c1:Nat)(l:c1=c+D[i+k]?.getD 0+a[i]?.getD 0*bs[k]?.getD 0):
 Gt a bs i (k+1) (c1/10000) (D.set (i+k) (c1%10000)):=by
 obtain⟨f,b,g,j⟩:=h;have x1:=d.getD O i;have n:=e.getD O k;have o:=b.getD O (i+k);have p:a[i]?.getD 0*bs[k]?.getD 0<=9999*9999:=Ci O O;refine⟨DI,b.set _ (A9 _ O),O,?_⟩;grind[PI,Js,Ce]
theorem Hj.fin{a bs D:m4}{m:Nat}(h:Hj a bs a.length D)(d:a=Jd 10000 m)(e:bs=Jd 10000 n):Jz D=Jd 10000 (m*n):=by
 obtain⟨_,b,c⟩:=h;grind[Yd,Jq]
def Jp.keptG{W W':G}{B:Nat}{t:TypeId}{x y:E}{g:Nat}(h:Jp W B t x y)(hg:W.grownBy W' (some g))(a:B≠g):Jp W' B t x y:=
 (hg.block B h.lt λe=>a (by cases e;rfl)).trans h
theorem dC{x y:Nat}(a:x<10000)(b:y<10000):x*y<=99980001/\IntKind.i64.wrap ((x:Int)*(y:Int))=((x*y:Nat):Int):=by
 have h:x*y<=9999*9999:=Ci O O;grind[IntKind.wrap,IntKind.bits]
def dD(a b:nJ)(la lb ca cb m n:Nat)(s t:Bool)(w:G)(ra:RN w (C a la ca) m)(rb:RN w (C b lb cb) n)(bm:la<=400000000000)(bn:lb<=400000000000):
 M I 97 #[L #[C a la ca,H s],L #[C b lb cb,H t]] w λe T=>∃c lc cc,e=.returned (L #[C c lc cc,H ((s != t)&&decide (0<lc))])/\RN T (C c lc cc) (m*n)/\Bl w T:=by
 obtain⟨W0,z⟩:=ex (((w.alloc (F #[C a la ca,H s] 45)).alloc (F #[C b lb cb,H t] 45)).alloc (F #[C none 0 0,H false] 45));have Qk:Bl w W0:=by rw[<-z];exact Hu w _ _ _
 have b0:Jp W0 w.heap.size 45 (C a la ca) (H s):=by rw[<-z];exact((Jp.new w _ _ _).alloc _).alloc _
 have b1:Jp W0 (w.heap.size+1) 45 (C b lb cb) (H t):=by
  have h:=(Jp.new (w.alloc (F #[C a la ca,H s] 45)) 45 (C b lb cb) (H t)).alloc (F #[C none 0 0,H false] 45);rw[Ax,z]at h;exact h
 have bR:Jp W0 (w.heap.size+1+1) 45 (C none 0 0) (H false):=by
  have h:=Jp.new ((w.alloc (F #[C a la ca,H s] 45)).alloc (F #[C b lb cb,H t] 45)) 45 (C none 0 0) (H false);rw[Ax,Ax,z]at h;exact h
 have Ql:W0.heap.size=w.heap.size+3:=by rw[<-z];simp
 obtain⟨ad,bf,bt,bi,am⟩:=Ju ra;obtain⟨ae,bg,bu,bj,an⟩:=Ju rb;have HF:=Y λD (h:Hj (Jd 10000 m) (Jd 10000 n) (Jd 10000 m).length D)=>h.fin (m:=m) (n:=n) rfl rfl;have xa:=Jr (B:=10000) O m;have xb:=Jr (B:=10000) O n;have U:=Ss (la+lb+1) O W0;rw[show((la+lb+1:Nat):Int)=(la:Int)+(lb:Int)+1 from by omega]at U;obtain⟨l,q⟩:=ex (W0.alloc (F (cellsOf .i64 (nL (la+lb+1) 0)).toArray 3));rw[q]at U;obtain⟨g,hg⟩:∃g,g=W0.heap.size:=⟨_,rfl⟩;rw[<-hg]at U Ql;have Qh:Dm l g (nL (la+lb+1) 0):=by rw[<-q,hg];exact Dm.made (BB W0 _)
 have K:Bl w l:=by rw[<-q];exact Qk.alloc Qk.size _
 have q0:Jp l w.heap.size 45 (C a la ca) (H s):=by rw[<-q];exact b0.alloc _
 have X:Jp l (w.heap.size+1) 45 (C b lb cb) (H t):=by rw[<-q];exact b1.alloc _
 have qR:Jp l (w.heap.size+1+1) 45 (C none 0 0) (H false):=by rw[<-q];exact bR.alloc _
 have k0:=b0.c0;have k1:=b1.c0;have HS:=Y (Hj.start (Jd 10000 m) (Jd 10000 n));generalize Jd 10000 m=us at *;generalize Jd 10000 n=S at *;obtain⟨H1,H2,V,P⟩:=Di am an ad ae;rw[<-ad,<-ae]at HS;have bh:w.heap.size+2<g:=O
 clear Ql;clear am an ad ae ra rb q hg b0 b1 bR;go_enter func97,ntmps97
 go_wp2;clear z U k0 k1;go_loopw [6] (λiv wr=>∃(i:Nat) (D:m4),iv=.int .i64 i/\i<=la/\Hid (Hj us S i D)/\Dm wr g D/\l.grownBy wr (some g))
  (λiv _=>la-(intOf iv).toNat)
 case atStart=>exact⟨0,_,rfl,Ap _,HS.o,Qh,YV _ _⟩
 case round=>
  clear HS Qh;obtain⟨i,D,rfl,hi,A,j,f⟩:=hrel;have m0:=(q0.keptG f O).c0;have m1:=(q0.keptG f O).c1;have m2:=(X.keptG f O).c0;have m3:=(X.keptG f O).c1;by_cases ap:i<la
  . have HI:=Y A.o.inner;clear A;obtain⟨ab,ao,rfl,ay,aj⟩:=H1.o i ap;go_wp2;go_loopw [7,8] (λcv kv wr=>∃(c k:Nat) (D:m4),cv=.int .i64 c/\kv=.int .i64 k/\k<=lb+1/\c<10000/\Hid (Gt us S i k c D)/\Dm wr g D/\l.grownBy wr (some g)) (λ_ kv _=>lb+2-(intOf kv).toNat)
    case atStart=>exact⟨0,0,D,rfl,rfl,O,O,HI,j,f⟩
    case round=>
     clear HI j f m0 m1 m2 m3;obtain⟨c,k,D,rfl,rfl,hk,hc,o,j,f⟩:=hrel;have m0:=(q0.keptG f O).c0;have m2:=(X.keptG f O).c0;have Qf:=o.o.1;rw[<-V.o,<-P.o]at Qf;by_cases bc:k<lb
     . obtain⟨bb,bo,rfl,az,ak⟩:=H2.o k bc;have ce:wr.cell? ⟨ab,ao+i,none⟩=some (.int .i64 (us[i]?.getD 0:Nat)):=(BQ (w:=l) (f.block ab (by have:=K.size;omega) λe=>by cases e;omega)).trans ((K.cell (p:=⟨ab,ao+i,none⟩) ay).trans aj);have cj:wr.cell? ⟨bb,bo+k,none⟩=some (.int .i64 (S[k]?.getD 0:Nat)):=(BQ (w:=l) (f.block bb (by have:=K.size;omega) λe=>by cases e;omega)).trans ((K.cell (p:=⟨bb,bo+k,none⟩) az).trans ak);have Qm:wr.cell? ⟨g,i+k,none⟩=some (.int .i64 (D[i+k]?.getD 0:Nat)):=j.cell O;have Qn:=j.frozen (i+k);have y1:=xa.getD O i;have y2:=xb.getD O k;have y3:=o.o.2.1.getD O (i+k);have r:=Y (o.o.step xa xb O _ rfl);obtain⟨z1,z2⟩:=dC y1 y2;generalize us[i]?.getD 0=x at *;generalize S[k]?.getD 0=y at *;generalize D[i+k]?.getD 0=d at *;generalize x*y=p at *;clear aj ak;go_upto_region 11 with fail
       go_quiet (fail)
       go_wp2;have e2:((c:Int)+(d:Int)+(p:Int))%10000=(((c+d+p)%10000:Nat):Int):=O
       rw[e2];exact⟨⟨(c+d+p)/10000,k+1,D.set (i+k) ((c+d+p)%10000),by go_num,DG,O,r.o.2.2.1,r,Dm.set (W:=wr.drewN nq) j _ _,Jf (B:=wr.drewN nq) ⟨f.os,f.tape,f.output,f.size,f.block⟩ (JH _ _ _ _)⟩,by simp[intOf];omega⟩
     . rcases AZ c with ai|ai
       . subst ai;have HN:=Y (o.o.done (by rw[<-P.o];omega));clear o;go_wp2;exact⟨⟨i+1,D,DG,O,HN,j,f⟩,by simp[intOf];omega⟩
       . have bk:k<=lb:=by
          rcases AQ lb k with h|h
          . have:=o.o.over xa xb (by rw[<-V.o];exact ap) (by rw[<-P.o];exact h);omega
          . exact h
         have Qm:wr.cell? ⟨g,i+k,none⟩=some (.int .i64 (D[i+k]?.getD 0:Nat)):=j.cell O;have Qn:=j.frozen (i+k);have y3:=o.o.2.1.getD O (i+k);have Qi:S[k]?.getD 0=0:=by rw[A8 (by rw[<-P.o];omega)];rfl
         have r:=Y (o.o.step xa xb O _ rfl);rw[Qi,Cz,Cl]at r;clear Qi;generalize D[i+k]?.getD 0=d at *;go_wp2;have e2:((c:Int)+(d:Int))%10000=(((c+d)%10000:Nat):Int):=O
         rw[e2];exact⟨⟨(c+d)/10000,k+1,D.set (i+k) ((c+d)%10000),by go_num,DG,O,r.o.2.2.1,r,Dm.set j _ _,Jf f (JH _ _ _ _)⟩,by simp[intOf];omega⟩
  . obtain rfl:i=la:=O
    have Qg:Row .i64 wr (C (some ⟨g,0,none⟩) (i+lb+1) (i+lb+1)) D:=by
     have Qf:=A.o.1;rw[<-V.o,<-P.o]at Qf;have h1:=j.row 0 (i+lb+1) (i+lb+1) O (Aa _) O O;rwa[Ca,Ad O]at h1
    have Qo:=Y (HF.o D (by rw[<-V.o];exact A.o));have Qj:Bl w wr:=below_grown K f O;have rR:=qR.keptG f O;have p0:=q0.keptG f O;have p1:=X.keptG f O;clear A HF H1 H2;go_upto_region 14 with fail
    have hq:Bl wr wr.drew:=(BA _ wr).drew;have ck:¬(w.heap.size=w.heap.size+1+1):=O
    go_region_held3 (λT=>T.cell? ⟨w.heap.size,1,none⟩=some (H s)/\T.cell? ⟨w.heap.size+1,1,none⟩=some (H t)) (refine⟨?_,?_⟩<;>(first|(go_keep;done)|((repeat rw[JF O]);simp[*];done)))
     (first
      |(go_at_call 148;refine(KX _ D _ (Row.below Qg hq)).mono ?_;rintro e w1 ⟨u,rfl,Q,rfl⟩;rw[Qo.o]at Q;obtain⟨a',c',rfl⟩:=RN.form Q)
      |(go_at_call 144;refine(Iu _ _ _ _ _).mono ?_;rintro e w2 ⟨rfl,ah⟩;have Q:=Row.below Q ah;have hq:=Bt hq ah;have m1:=(p0.below hq).c1;have m3:=(p1.below hq).c1;obtain⟨r0,r1⟩:=(rR.below hq).cp;obtain⟨f0,f1⟩:=(rR.below hq).fp))
    all_goals go_wp2_with fail
    obtain⟨hr,aq⟩:=Yj (C a' (Jd 10000 (m*n)).length c') (H (!(s==t)&&decide (0<(Jd 10000 (m*n)).length))) (Bt Qj hq) O (rR.below hq) rfl rfl Q;exact A0 (v:=L #[C a' (Jd 10000 (m*n)).length c',H (!(s==t)&&decide (0<(Jd 10000 (m*n)).length))]) (by simp[results,results97,go_sem,r0,r1]) rfl ⟨_,_,_,rfl,hr,aq⟩
def XG(n o:E)(x y:Int)(w:G)(v:Jw w n x)(z:Jw w o y)(A:D3 x<=400000000000)(B:D3 y<=400000000000):
 M I 97 #[n,o] w λe j=>∃u,e=.returned u/\Jw j u (x*y)/\Bl w j:=by
 obtain⟨a,la,ca,rfl,l⟩:=v;obtain⟨b,lb,cb,rfl,m⟩:=z;have D:=(Ju l).1;have K:=(Ju m).1;unfold D3 at A B;refine(dD a b la lb ca cb _ _ _ _ w l m O O).mono ?_;rintro e j ⟨c,i,p,rfl,k,t⟩;refine⟨_,rfl,⟨c,i,p,?_,?_⟩,t⟩
 . have hl:=(Ju k).1;have q:((decide (x<0) != decide (y<0))&&decide (0<i))=decide (x*y<0):=by
    rw[CH];simp only[AY,BW];have r:0<i↔x.natAbs*y.natAbs≠0:=by
     rw[hl,Ac,Ne,JP O]
    rw[r];rcases FJ x 0 with d|d|d<;>rcases FJ y 0 with f|f|f
    . have:=Int.mul_pos_of_neg_of_neg d f;simp[d,f];omega
    . subst f;simp
    . have:=Int.mul_neg_of_neg_of_pos d f;have g:¬y<0:=O
      simp only[d,g,decide_true,decide_false,this,iff_true];exact⟨rfl,Fqq O O⟩
    . subst d;simp
    . subst d;simp
    . subst d;simp
    . have:=Int.mul_neg_of_pos_of_neg d f;have g:¬x<0:=O
      simp only[f,g,decide_true,decide_false,this,iff_true];exact⟨rfl,Fqq O O⟩
    . subst f;simp
    . have:=Int.mul_pos d f;have g:¬x<0:=O
      have s:¬y<0:=O
      simp[g,s];omega
   rw[q]
 . rw[Cu];exact k
def Mw{n:Int}(a:-9223372036854775808<=n)(b:n<=9223372036854775807):D3 n<=400000000000:=by
 have c:(10000:Nat)^5=100000000000000000000:=DK
 have d:=YK (B:=10000) O (n:=n.natAbs) (k:=5) O;unfold D3;omega
def Kk{W:G}{a:nJ}(h:RN W (C a l c) n):Jw W (L #[C a l c,H false]) (n:Int):=by
 refine⟨a,l,c,?_,by rw[AA];exact h⟩
 have:decide ((n:Int)<0)=false:=BE O
 rw[this]
def Sv{W:G}{a:nJ}{q:Bool}{z:Int}(h:Jw W (L #[C a l c,H q]) z)(d:z=(n:Int)):RN W (C a l c) n/\q=false:=by
 obtain⟨a',l',c',e,b⟩:=h;simp only[Value.agg.injEq,Array.mk.injEq,List.cons.injEq,Value.slice.injEq,Value.bool.injEq,and_true]at e;obtain⟨⟨rfl,rfl,rfl⟩,f⟩:=e;rw[d,AA]at b;refine⟨b,?_⟩;rw[f,d];exact BE O
def dE(a:nJ)(la ca:Nat)(b:nJ)(lb cb m n:Nat)(w:G)(ra:RN w (C a la ca) m)(Q:RN w (C b lb cb) n)(ae:m<n*10000)(ai:lb<=400000000000):
 M I 207 #[C a la ca,C b lb cb] w λe S=>e=.returned (.int .i64 ((m/n:Nat):Int))/\Bl w S:=by
 have Qi:D3 (n:Int)<=400000000000:=by unfold D3;rw[AA,<-(Ju Q).1];exact ai
 obtain⟨Qk,Qj,Ql,Qm⟩:=Di Qi ra Q ae;clear ra Q ae Qi;go_enter func207,ntmps207
 go_wp2_with fail
 go_loopw [5,6] (λP D wr=>∃lo d:Nat,P=.int .i64 (lo:Nat)/\D=.int .i64 (d:Nat)/\lo<d/\d<=10000/\Hid (n*lo<=m/\m<n*d)/\Bl w wr)
  (λP D _=>(intOf D-intOf P).toNat)
 case atStart=>exact⟨0,10000,rfl,rfl,O,O,Y ⟨O,Qm.o⟩,BA _ w⟩
 case round=>
  obtain⟨lo,d,rfl,rfl,t,h2,l,g⟩:=hrel;obtain⟨f,aj⟩:∃f:Nat,(d:Int)-(lo:Int)=(f:Int):=⟨d-lo,O⟩;have w1:IntKind.i64.wrap (f:Int)=(f:Int):=IntWalk.i64_in _ O;by_cases ak:1<f
  . obtain⟨sm,an⟩:∃sm:Nat,(lo:Int)+(d:Int)=(sm:Int):=⟨lo+d,O⟩;have w2:IntKind.i64.wrap (sm:Int)=(sm:Int):=IntWalk.i64_in _ O;obtain⟨c,am⟩:∃c:Nat,(sm:Int)/2=(c:Int):=⟨sm/2,O⟩;have w3:IntKind.i64.wrap (c:Int)=(c:Int):=IntWalk.i64_in _ O;have h3:lo<c/\c<d:=O
    have Qg:=Y (Hb (c:Nat) O O wr);have Qf:=Y λ(V:G) (u:E) (h:Bl wr V) (B:Jw V u (c:Nat))=>XG (L #[C b lb cb,H false]) u (n:Nat) (c:Nat) V (Kk (RN.below (RN.below Ql.o g) h)) B Qk.o (Mw O O);obtain⟨cm,y⟩:=ex (Xt (n*c) m:Int);have X:=Y (show ∀(V:G) (u:E),Bl wr V->RN V u (n*c)->M I 146 #[u,C a la ca] V λe S=>e=.returned (.int .i64 cm)/\Bl V S from λV u h B=>by
     have t:=OX 10000 O u (C a la ca) (Jd 10000 (n*c)) (Jd 10000 m) V B (RN.below (RN.below Qj.o g) h) (Jr O _) (Jr O _) (Y3 O _) (Y3 O _);rw[Jq O,Jq O,y]at t;exact t)
    have W:=Y y;clear y;go_upto_region 6 with(first
     |(go_at_call 94;refine Qg.o.mono ?_;rintro e w5 ⟨u5,rfl,j,v⟩;obtain⟨a5,l5,c5,rfl⟩:=j.form;obtain⟨s5,z⟩:=ex (decide (((c:Nat):Int)<0));rw[z]at j;rw[z];clear z)
     |(go_at_call 97;refine(Qf.o _ _ v j).mono ?_;rintro e T ⟨u6,rfl,k,ad⟩;obtain⟨r,K,s,rfl⟩:=k.form;obtain⟨s6,A⟩:=ex (decide (((n:Nat):Int)*((c:Nat):Int)<0));rw[A]at k;rw[A];clear A))
    obtain⟨ah,rfl⟩:=Sv (n:=n*c) k (by rw[FG]);have bx:=Jp.new T 45 (C r K s) (H false);obtain⟨q,i⟩:=ex (T.alloc (F #[C r K s,H false] 45));have p:Bl wr q:=by rw[<-i];exact((Bt v ad).alloc (Bt v ad).size _)
    have Qh:RN q (C r K s) (n*c):=by rw[<-i];exact RN.below ah (Ba T _)
    rw[i]at bx ⊢;obtain⟨k0,k1⟩:=bx.cp;clear i Qg Qf j k ah;have U:Bl w q:=Bt g p;by_cases hle:cm<=0
    . have o:n*c<=m:=by
       have h:=W.o;unfold Xt at h;split at h
       . omega
       . split at h<;>omega
      go_wp2_with(go_at_call 146;refine(X.o _ _ p Qh).mono ?_;rintro e w8 ⟨rfl,x⟩)
      exact⟨⟨c,d,rfl,rfl,O,h2,Y ⟨o,l.o.2⟩,Bt U x⟩,by simp[intOf];omega⟩
    . have o:m<n*c:=by
       have h:=W.o;unfold Xt at h;split at h
       . omega
       . split at h
         . assumption
         . omega
      go_wp2_with(go_at_call 146;refine(X.o _ _ p Qh).mono ?_;rintro e w8 ⟨rfl,x⟩)
      exact⟨⟨lo,c,rfl,rfl,O,O,Y ⟨l.o.1,o⟩,Bt U x⟩,by simp[intOf];omega⟩
  . have HE:=Y (show m/n=lo by
     obtain⟨e1,e2⟩:=l.o;have e3:d=lo+1:=O
     rw[e3,Fx,FU]at e2;apply FR
     . apply CZ;rw[AM O,Nat.succ_mul,AD lo];exact e2
     . rw[Fs O,AD];exact e1)
    go_wp2_with fail
    go_ret;exact⟨by rw[HE.o];rfl,g⟩
theorem dF(r u:E)(x y:Int)(w:G)(f:Jw w r x)(g:Jw w u y)(B:D3 x<=400000000000)(D:D3 y<=400000000000):
 M I 118 #[r,u] w λe W=>e=.returned (.int .i64 (XN x y))/\Bl w W:=by
 obtain⟨a,la,ca,rfl⟩:=f.form;obtain⟨b,lb,cb,rfl⟩:=g.form;obtain⟨s,o⟩:=ex (decide (x<0));obtain⟨t,p⟩:=ex (decide (y<0));rw[o]at f ⊢;rw[p]at g ⊢;clear o p;have d:Bl w ((w.alloc (F #[C a la ca,H s] 45)).alloc (F #[C b lb cb,H t] 45)):=Iw w _ _;have b0:=(Jp.new w 45 (C a la ca) (H s)).alloc (F #[C b lb cb,H t] 45);have m:=Jp.new (w.alloc (F #[C a la ca,H s] 45)) 45 (C b lb cb) (H t);simp only[Ax]at m;have k:=Y (Sp _ _ x y _ (f.below d) (g.below d) B D);obtain⟨S,T⟩:=b0.cp;obtain⟨U,V⟩:=m.cp;clear f g;go_enter func118,ntmps118
 go_upto_region 2 with(go_at_call 159;refine k.o.mono ?_;rintro e v ⟨u2,rfl,P,n⟩;obtain⟨q,sl,sc,rfl,K⟩:=id P;obtain⟨j,c⟩:=ex (decide (x-y<0));rw[c])
 have z:=Jp.new v 45 (C q sl sc) (H j);obtain⟨m0,m1⟩:=z.cp;have i:Bl w (v.alloc (F #[C q sl sc,H j] 45)):=(Bt d n).alloc (Bt d n).size _;have hl:sl=(Jd 10000 (x-y).natAbs).length:=by
  obtain⟨a',c',e⟩:=K.form;cases e;rfl
 clear S T U V k;cases j
 . have A:=of_decide_eq_false c;by_cases Q:x-y=0
   . have l:sl=0:=by rw[hl,Q];simp[JG]
     subst l;clear hl c;go_wp2;go_ret;refine⟨?_,i⟩;have e:XN x y=0:=by unfold XN;omega
     rw[e];rfl
   . have l:1<=sl:=by
      grind[JP]
     have X:min (1:Int) (sl:Int)=1:=O
     clear hl c;go_wp2;go_ret;refine⟨?_,i⟩;have e:XN x y=1:=by unfold XN;omega
     rw[e];try rfl
 . have A:=Bb c;clear hl c;go_wp2;go_ret;refine⟨?_,i⟩;have e:XN x y=-1:=by unfold XN;rw[BG O]
   rw[e];try rfl

