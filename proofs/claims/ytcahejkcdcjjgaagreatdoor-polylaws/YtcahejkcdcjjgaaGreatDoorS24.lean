import Derived.Test.YtcahejkcdcjjgaaGreatDoorS20
import Derived.Test.YtcahejkcdcjjgaaGreatDoorS15
import Derived.Test.YtcahejkcdcjjgaaGreatDoorS16
import Derived.Test.YtcahejkcdcjjgaaGreatDoorS06
import Derived.Test.YtcahejkcdcjjgaaGreatDoorS23
set_option linter.all false
open Go renaming Value->E,World->G,Calls->M,undef->R
open Go.Value renaming slice->C,bool->H,agg->I,pointer->N
open Go.Proofs.Tryz renaming prog->F
open Go.Obj renaming cells->L
set_option maxRecDepth 99999
set_option maxHeartbeats 0
namespace Go.Proofs.YtcahejkcdcjjgaaGreatDoor
open List renaming replicate->WT
open Proofs.Tryz
open Go.RowKit Go.Shelf
attribute [local go_sem] Oper.semAt_some
def B3:=@of_decide_eq_true
def Sn(a:WO)(cap:Nat)(w:G):
 M F 60 #[I #[H false,C a 0 cap]] w λe b=>e=.returned (.string ⟨#[48]⟩)/\Bl w b:=by
 have b0:=Jo.new w 36 (H false) (C a 0 cap);have c:=b0.c1;go_enter func60,ntmps60
 go_wp2;go_ret;exact⟨rfl,Ba w _⟩
def So(s:Bool)(a:WO)(l cap:Nat)(T:ByteArray)(w:G)(hl:0<l)(hT:T.size<=100000000000000)
(c:∀V,Bl w V->M F 101 #[C a l cap] V λe b=>e=.returned (.string T)/\Bl V b):
 M F 60 #[I #[H s,C a l cap]] w λe b=>e=.returned (.string (if s then(⟨#[45]⟩:ByteArray)++T else T))/\Bl w b:=by
 have b0:=Jo.new w 36 (H s) (C a l cap);have d:Bl w (w.alloc (L #[H s,C a l cap] 36)):=Ba w _;obtain⟨j,k⟩:=b0.cp;have i:¬l=0:=Z
 have f:=Ja c;clear c;cases s;all_goals
  go_enter func60,ntmps60
  go_wp2_with(go_at_call 101;refine(f.o _ d).mono ?_;rintro e m ⟨rfl,g⟩)
  go_ret;exact⟨DQ,Bt d g⟩
theorem Hi(n:Nat):(Xw n).length<=20*(Jc O n).length+1:=by
 unfold Xw;split
 . simp
 . rw[MX];have a:n<O^(Jc O n).length:=by
    grind[JY,Jm,Jb,Jl]
   have b:O^(Jc O n).length<=10^(20*(Jc O n).length):=by
    rw[Nat.pow_mul];exact CM uo _
   have:=JL (B:=10) Z (Ar a b);omega
theorem Lc(v:E)(z:Int)(w:G)(h:Ji w v z)(j:Lib.TabIs F w "internal/strconv.uint64pow10" .u64 Lib.pow10Tab):
 M F 60 #[v] w λe f=>e=.returned (.string ⟨(XP z).toArray⟩)/\Bl w f:=by
 obtain⟨a,l,cap,rfl,b⟩:=h;have hl:=b.len;by_cases c:z.natAbs=0
 . have k:z=0:=Z
   subst k;have i:l=0:=by rw[hl];simp[Jz]
   subst i;exact Sn a cap w
 . have g:0<l:=by rw[hl];exact Kn.2 c
   refine(So _ a l cap ⟨(Xw z.natAbs).toArray⟩ w g (by
    have m:=Hi z.natAbs;have n:=(Jn b).2.2.2.1;show(Xw z.natAbs).toArray.size<=_;grind) λV d=>SL a l cap z.natAbs V (Row.below b d) c (JB j d)).mono ?_
   rintro e f ⟨rfl,o⟩;grind[XP,QI]
def Ji.set{W:G}{v:E}{z:Int}(h:Ji W v z){p:Addr}{u0:E}(hp:W.cell? p=some u0)(b:Jv u0=true)(u:E):Ji (W.setCell p u) v z:=by
 obtain⟨a,l,cap,e,c⟩:=h;exact⟨a,l,cap,e,Row.set c hp b u⟩
def Ji.form{W:G}{v:E}{z:Int}(h:Ji W v z):∃a l cap,v=I #[H (decide (z<0)),C a l cap]:=by
 obtain⟨a,l,cap,e,_⟩:=h;exact⟨a,l,cap,e⟩
def Ji.alloc{W:G}{v:E}{z:Int}(h:Ji W v z)(o:Obj):Ji (W.alloc o) v z:=h.below (Ba W o)
def Ji.drew{W:G}{v:E}{z:Int}(h:Ji W v z):Ji W.drew v z:=h
def Ji.box{W:G}{R:Nat}{t:TypeId}{u0 u1 x0 x1 v:E}{z:Int}(h:Ji W v z)(q:Jo W R t u0 u1)(c:Jv u0=true)(d:Jv u1=true):Ji ((W.setCell ⟨R,0,none⟩ x0).setCell ⟨R,1,none⟩ x1) v z:=by
 obtain⟨a,l,cap,e,b⟩:=h;exact⟨a,l,cap,e,Row.set (Row.set b q.c0 c _) (u0:=u1) (q.set0 x0).c1 d _⟩
def Jr(W:G)(B:Nat)(t:TypeId)(x y z u:E):Prop:=W.heap[B]?=some (L #[x,y,z,u] t (0,0))
section
variable {W W':World} {B:Nat} {t:TypeId} {x y z u:Value}
def Jr.lt(h:Jr W B t x y z u):B<W.heap.size:=(Ab.1 h).1
def Jr.c0(h:Jr W B t x y z u):W.cell? ⟨B,0,none⟩=some x:=by simp[World.cell?,show W.heap[B]?=_ from h]
def Jr.c1(h:Jr W B t x y z u):W.cell? ⟨B,1,none⟩=some y:=by simp[World.cell?,show W.heap[B]?=_ from h]
def Jr.cp(h:Jr W B t x y z u):type_of% (And.intro h.c0 h.c1):=⟨h.c0,h.c1⟩
def Jr.c2(h:Jr W B t x y z u):W.cell? ⟨B,2,none⟩=some z:=by simp[World.cell?,show W.heap[B]?=_ from h]
def Jr.c3(h:Jr W B t x y z u):W.cell? ⟨B,3,none⟩=some u:=by simp[World.cell?,show W.heap[B]?=_ from h]
def Jr.cq(h:Jr W B t x y z u):type_of% (And.intro h.c0 (And.intro h.c1 (And.intro h.c2 h.c3))):=⟨h.c0,h.c1,h.c2,h.c3⟩
def Jr.f0(h:Jr W B t x y z u):W.frozen? ⟨B,0,none⟩=false:=by simp[World.frozen?,show W.heap[B]?=_ from h]
def Jr.f1(h:Jr W B t x y z u):W.frozen? ⟨B,1,none⟩=false:=by simp[World.frozen?,show W.heap[B]?=_ from h]
def Jr.fp(h:Jr W B t x y z u):type_of% (And.intro h.f0 h.f1):=⟨h.f0,h.f1⟩
def Jr.f2(h:Jr W B t x y z u):W.frozen? ⟨B,2,none⟩=false:=by simp[World.frozen?,show W.heap[B]?=_ from h]
def Jr.f3(h:Jr W B t x y z u):W.frozen? ⟨B,3,none⟩=false:=by simp[World.frozen?,show W.heap[B]?=_ from h]
def Jr.fq(h:Jr W B t x y z u):type_of% (And.intro h.f0 (And.intro h.f1 (And.intro h.f2 h.f3))):=⟨h.f0,h.f1,h.f2,h.f3⟩
def Jr.new(W:G)(t:TypeId)(x y z u:E):Jr (W.alloc (L #[x,y,z,u] t)) W.heap.size t x y z u:=BV W _
def Jr.below(h:Jr W B t x y z u)(a:Bl W W'):Jr W' B t x y z u:=(a.block B h.lt).trans h
def Jr.alloc(h:Jr W B t x y z u)(o:Obj):Jr (W.alloc o) B t x y z u:=h.below (Ba W o)
def Jr.drew(h:Jr W B t x y z u):Jr W.drew B t x y z u:=h
theorem Jr.set0(h:Jr W B t x y z u)(v:E):Jr (W.setCell ⟨B,0,none⟩ v) B t v y z u:=by
 obtain⟨b,a⟩:=Ab.1 h;show(W.heap.modify B _)[B]?=_;grind
theorem Jr.set1(h:Jr W B t x y z u)(v:E):Jr (W.setCell ⟨B,1,none⟩ v) B t x v z u:=by
 obtain⟨b,a⟩:=Ab.1 h;show(W.heap.modify B _)[B]?=_;grind
theorem Jr.set2(h:Jr W B t x y z u)(v:E):Jr (W.setCell ⟨B,2,none⟩ v) B t x y v u:=by
 obtain⟨b,a⟩:=Ab.1 h;show(W.heap.modify B _)[B]?=_;grind
theorem Jr.set3(h:Jr W B t x y z u)(v:E):Jr (W.setCell ⟨B,3,none⟩ v) B t x y z v:=by
 obtain⟨b,a⟩:=Ab.1 h;show(W.heap.modify B _)[B]?=_;grind
def Jr.far(h:Jr W B t x y z u){p:Addr}(hp:B≠p.block)(v:E):Jr (W.setCell p v) B t x y z u:=(BR W p v B hp).trans h
end
def put4(W:G)(B:Nat)(x y z u:E):G:=(((W.setCell ⟨B,0,none⟩ x).setCell ⟨B,1,none⟩ y).setCell ⟨B,2,none⟩ z).setCell ⟨B,3,none⟩ u
def Jr.put{W:G}{B:Nat}{t:TypeId}{x y z u:E}(h:Jr W B t x y z u)(b c d a:E):Jr (put4 W B b c d a) B t b c d a:=(((h.set0 b).set1 c).set2 d).set3 a
def Jr.putFar{W:G}{B C:Nat}{t:TypeId}{x y z u:E}(h:Jr W B t x y z u)(a:B≠C)(c d e b:E):Jr (put4 W C c d e b) B t x y z u:=(((h.far a c).far a d).far a e).far a b
def Jo.putFar{W:G}{B C:Nat}{t:TypeId}{x y:E}(h:Jo W B t x y)(a:B≠C)(c d e b:E):Jo (put4 W C c d e b) B t x y:=(((h.far a c).far a d).far a e).far a b
def Js{n B:Nat}{w W:G}(h:Below n w W)(a:n<=B)(x y z u:E):Below n w (put4 W B x y z u):=(((h.setCell (p:=⟨B,0,none⟩) a _).setCell (p:=⟨B,1,none⟩) a _).setCell (p:=⟨B,2,none⟩) a _).setCell (p:=⟨B,3,none⟩) a _
def Row.put4{k:IntKind}{W:G}{v:E}{ds:U}(h:Row k W v ds){B:Nat}{t:TypeId}{x y z u:E}(q:Jr W B t x y z u)(d:Jv x=true)(e:Jv y=true)(f:Jv z=true)(g:Jv u=true)(a b c i:E):Row k (put4 W B a b c i) v ds:=
 Row.set (Row.set (Row.set (Row.set h q.c0 d _) (q.set0 a).c1 e _) ((q.set0 a).set1 b).c2 f _) (((q.set0 a).set1 b).set2 c).c3 g _
def Ji.put4{W:G}{v:E}{i:Int}(h:Ji W v i){B:Nat}{t:TypeId}{x y z u:E}(q:Jr W B t x y z u)(c:Jv x=true)(d:Jv y=true)(f:Jv z=true)(g:Jv u=true)(k m n j:E):Ji (put4 W B k m n j) v i:=by
 obtain⟨a,l,cap,e,b⟩:=h;exact⟨a,l,cap,e,Row.put4 b q c d f g _ _ _ _⟩
def Yk.put4{W:G}{v:E}{i:Int}(h:Yk W v i){B:Nat}{t:TypeId}{x y z u:E}(q:Jr W B t x y z u)(c:Jv x=true)(d:Jv y=true)(f:Jv z=true)(g:Jv u=true)(k m n j:E):Yk (put4 W B k m n j) v i:=by
 obtain⟨a,l,cap,e,b⟩:=h;exact⟨a,l,cap,e,Row.put4 b q c d f g _ _ _ _⟩
def Jg(W:G)(v:E)(q:Rat):Prop:=∃s a l c t b k d,v=I #[H s,C a l c,H t,C b k d]/\Ji W (I #[H s,C a l c]) q.num/\Ji W (I #[H t,C b k d]) (denZ q)
def Jg.below{W W':G}{v:E}{q:Rat}(h:Jg W v q)(f:Bl W W'):Jg W' v q:=by
 obtain⟨s,a,l,c,t,b,k,d,e,g,i⟩:=h;exact⟨s,a,l,c,t,b,k,d,e,g.below f,i.below f⟩
def Jg.put4{W:G}{v:E}{p:Rat}(h:Jg W v p){B:Nat}{t:TypeId}{x y z u:E}(q:Jr W B t x y z u)(f:Jv x=true)(g:Jv y=true)(i:Jv z=true)(j:Jv u=true)(r w A o:E):Jg (put4 W B r w A o) v p:=by
 obtain⟨s,a,l,c,t,b,k,d,e,m,n⟩:=h;exact⟨s,a,l,c,t,b,k,d,e,m.put4 q f g i j _ _ _ _,n.put4 q f g i j _ _ _ _⟩
def Ya(W:G)(v:E)(q:Rat):Prop:=∃a l c s b k d t,v=I #[C a l c,H s,C b k d,H t]/\Yk W (I #[C a l c,H s]) q.num/\Yk W (I #[C b k d,H t]) (q.den:Int)
def Ya.below{W W':G}{v:E}{q:Rat}(h:Ya W v q)(f:Bl W W'):Ya W' v q:=by
 obtain⟨s,a,l,c,t,b,k,d,e,g,i⟩:=h;exact⟨s,a,l,c,t,b,k,d,e,g.below f,i.below f⟩
def Ya.put4{W:G}{v:E}{p:Rat}(h:Ya W v p){B:Nat}{t:TypeId}{x y z u:E}(q:Jr W B t x y z u)(f:Jv x=true)(g:Jv y=true)(i:Jv z=true)(j:Jv u=true)(r w A o:E):Ya (put4 W B r w A o) v p:=by
 obtain⟨s,a,l,c,t,b,k,d,e,m,n⟩:=h;exact⟨s,a,l,c,t,b,k,d,e,m.put4 q f g i j _ _ _ _,n.put4 q f g i j _ _ _ _⟩
section
def Yw(W:G)(v:E)(x y:Int):Prop:=∃s a l c t b k d,v=I #[H s,C a l c,H t,C b k d]/\Ji W (I #[H s,C a l c]) x/\Ji W (I #[H t,C b k d]) y
variable{cs:Array E}{r:Bool}{qs:Y}{b j n:Nat}{m:Nat × Nat}{V':G}
def Jg.pair{W:G}{v:E}{q:Rat}(h:Jg W v q):Yw W v q.num (denZ q):=h
theorem Yw.form{W:G}{v:E}{x y:Int}(h:Yw W v x y):∃s a l c t b k d,v=I #[H s,C a l c,H t,C b k d]:=by
 obtain⟨s,a,l,c,t,b,k,d,e,_⟩:=h;grind
def Yw.below{W W':G}{v:E}{x y:Int}(h:Yw W v x y)(f:Bl W W'):Yw W' v x y:=by
 obtain⟨s,a,l,c,t,b,k,d,e,g,i⟩:=h;exact⟨s,a,l,c,t,b,k,d,e,g.below f,i.below f⟩
def Yw.keep{V:G}{v:E}{x y:Int}(h:Yw V v x y)(f:∀k v ds,Row k V v ds->Row k V' v ds):Yw V' v x y:=by
 obtain⟨s,a,l,c,t,b,k,d,e,⟨g,p,c1,j,n⟩,⟨i,q,c2,m,o⟩⟩:=h;exact⟨s,a,l,c,t,b,k,d,e,⟨g,p,c1,j,f _ _ _ n⟩,⟨i,q,c2,m,f _ _ _ o⟩⟩
def Ya.keep{V:G}{v:E}{q:Rat}(h:Ya V v q)(f:∀k v ds,Row k V v ds->Row k V' v ds):Ya V' v q:=by
 obtain⟨s,a,l,c,t,b,k,d,e,⟨g,p,c1,j,n⟩,⟨i,r,c2,m,o⟩⟩:=h;exact⟨s,a,l,c,t,b,k,d,e,⟨g,p,c1,j,f _ _ _ n⟩,⟨i,r,c2,m,f _ _ _ o⟩⟩
theorem Sp{α:Type}(l:List α)(x y:α):(l++[x]).set l.length y=l++[y]:=by
 grind
theorem Ji.form2{W:G}{v:E}{z:Int}(h:Ji W v z):∃s a l c,v=I #[H s,C a l c]:=by
 obtain⟨a,l,c,e,_⟩:=h;grind
theorem Yk.form2{W:G}{v:E}{z:Int}(h:Yk W v z):∃a l c s,v=I #[C a l c,H s]:=by
 obtain⟨a,l,c,e,_⟩:=h;grind
theorem Jg.form{W:G}{v:E}{q:Rat}(h:Jg W v q):∃s a l c t b k d,v=I #[H s,C a l c,H t,C b k d]:=by
 obtain⟨s,a,l,c,t,b,k,d,e,_⟩:=h;grind
theorem Ya.form{W:G}{v:E}{q:Rat}(h:Ya W v q):∃a l c s b k d t,v=I #[C a l c,H s,C b k d,H t]:=by
 obtain⟨s,a,l,c,t,b,k,d,e,_⟩:=h;grind
theorem EB(W:G):Ji W (I #[H false,C Option.none 0 0]) 0:=
 ⟨Option.none,0,0,DQ,by grind[UN,Jz,Row.nil]⟩
def XK(W:G):Jg W (I #[H false,C Option.none 0 0,H false,C Option.none 0 0]) 0:=⟨_,_,_,_,_,_,_,_,rfl,EB W,EB W⟩
def Dr(r:Bool)(W:G)(v:E)(q:Rat):Prop:=match r with|true=>Jg W v q|false=>Ya W v q
def Hj(r:Bool):TypeId:=match r with|true=>38|false=>49
def Dr.below{r:Bool}{W W':G}{v:E}{q:Rat}(h:Dr r W v q)(a:Bl W W'):Dr r W' v q:=by
 cases r with
 |true=>exact Jg.below h a
 |false=>exact Ya.below h a
def Dr.keep{r:Bool}{W W':G}{v:E}{q:Rat}(h:Dr r W v q)(a:∀k v ds,Row k W v ds->Row k W' v ds):Dr r W' v q:=by
 cases r with
 |true=>exact Yw.keep h a
 |false=>exact Ya.keep h a
def Dr.form{W:G}{v:E}{q:Rat}(h:Dr r W v q):∃x y z u,v=I #[x,y,z,u]/\Jv x=true/\Jv y=true/\Jv z=true/\Jv u=true:=by
 cases r with
 |true=>
  obtain⟨s,a,l,c,t,b,k,d,e,_⟩:=(show Jg W v q from h);exact⟨_,_,_,_,e,rfl,rfl,rfl,rfl⟩
 |false=>
  obtain⟨s,a,l,c,t,b,k,d,e,_⟩:=(show Ya W v q from h);exact⟨_,_,_,_,e,rfl,rfl,rfl,rfl⟩
theorem Dr.no{W:G}{x y z u:E}{q:Rat}(h:Dr r W (I #[x,y,z,u]) q):Jv x=true/\Jv y=true/\Jv z=true/\Jv u=true:=by
 obtain⟨g,i,j,f,e,a,b,c,d⟩:=h.form;grind
theorem Dr.one{W:G}{x y z u:E}{q:Rat}(h:Dr r W (I #[x,y,z,u]) q):∀v∈[x,y,z,u],v.oneCell'=true:=by
 cases r with
 |true=>
  obtain⟨s,a,l,c,t,b,k,d,e,_⟩:=(show Jg W _ q from h);cases e;intro v f;simp at f;rcases f with rfl|rfl|rfl|rfl<;>rfl
 |false=>
  obtain⟨s,a,l,c,t,b,k,d,e,_⟩:=(show Ya W _ q from h);cases e;intro v f;simp at f;rcases f with rfl|rfl|rfl|rfl<;>rfl
def Dg(r:Bool)(W:G)(b:Nat)(qs:Y):Prop:=
 ∃cs:Array E,W.heap[b]?=some (L cs (Hj r) (0,0))/\∀j,j<qs.length->∃x y z u,cs[j*4]?=some x/\cs[j*4+1]?=some y/\cs[j*4+2]?=some z/\cs[j*4+3]?=some u/\Dr r W (I #[x,y,z,u]) (cf qs j)
theorem Dg.lt{W:G}(h:Dg r W b qs):b<W.heap.size:=by obtain⟨cs,h,_⟩:=h;grind
def Dg.below{r:Bool}{W W':G}{b:Nat}{qs:Y}(h:Dg r W b qs)(a:Bl W W'):Dg r W' b qs:=by
 have hl:=h.lt;obtain⟨cs,g,i⟩:=h;refine⟨cs,(a.block b hl).trans g,λj l=>?_⟩;obtain⟨x,y,z,u,c,d,e,f,k⟩:=i j l;exact⟨x,y,z,u,c,d,e,f,k.below a⟩
def Dg.keep{r:Bool}{W W':G}{b:Nat}{qs:Y}(h:Dg r W b qs)(l:W'.heap[b]?=W.heap[b]?)(n:∀k v ds,Row k W v ds->Row k W' v ds):Dg r W' b qs:=by
 obtain⟨cs,f,g⟩:=h;refine⟨cs,l.trans f,λj m=>?_⟩;obtain⟨x,y,z,u,a,c,d,e,i⟩:=g j m;exact⟨x,y,z,u,a,c,d,e,i.keep n⟩
def Dg.alloc{r:Bool}{W:G}{b:Nat}{qs:Y}(h:Dg r W b qs)(o:Obj):Dg r (W.alloc o) b qs:=h.below (Ba W o)
theorem Dg.take{r:Bool}{W:G}{b:Nat}{qs:Y}(h:Dg r W b qs)(n:Nat):Dg r W b (qs.take n):=by
 obtain⟨cs,a,c⟩:=h;refine⟨cs,a,λj d=>?_⟩;rw[Aj]at d;obtain⟨x,y,z,u,e,f,g,i,k⟩:=c j Z;grind[KP]
theorem Dg.at{W:G}(h:Dg r W b qs)(d:j<qs.length):
 ∃x y z u,W.cell? ⟨b,j*4,none⟩=some x/\W.cell? ⟨b,j*4+1,none⟩=some y/\W.cell? ⟨b,j*4+2,none⟩=some z/\W.cell? ⟨b,j*4+3,none⟩=some u/\Dr r W (I #[x,y,z,u]) (cf qs j):=by
 obtain⟨cs,a,c⟩:=h;grind[World.cell?]
def Dg.frozen{r:Bool}{W:G}{b:Nat}{qs:Y}(h:Dg r W b qs)(o:Nat):W.frozen? ⟨b,o,none⟩=false:=by obtain⟨cs,a,_⟩:=h;simp[World.frozen?,a]
def putAt(W:G)(b o:Nat)(x y z u:E):G:=(((W.setCell ⟨b,o,none⟩ x).setCell ⟨b,o+1,none⟩ y).setCell ⟨b,o+2,none⟩ z).setCell ⟨b,o+3,none⟩ u
theorem JD{W:G}{o:Nat}{t:TypeId}(h:W.heap[b]?=some (L cs t m))(v:E):(W.setCell ⟨b,o,none⟩ v).heap[b]?=some (L (cs.setIfInBounds o v) t m):=by
 obtain⟨c,a⟩:=Ab.1 h;show(W.heap.modify b _)[b]?=_;grind
def Nv{W:G}{o:Nat}{t:TypeId}(h:W.heap[b]?=some (L cs t m))(x y z u:E):(putAt W b o x y z u).heap[b]?=some (L ((((cs.setIfInBounds o x).setIfInBounds (o+1) y).setIfInBounds (o+2) z).setIfInBounds (o+3) u) t m):=
 JD (JD (JD (JD h x) y) z) u
def Hk{W:G}{o B:Nat}(a:B≠b)(x y z u:E):(putAt W b o x y z u).heap[B]?=W.heap[B]?:=
 (BR _ _ _ B a).trans ((BR _ _ _ B a).trans ((BR _ _ _ B a).trans (BR _ _ _ B a)))
def Nw{o:Nat}{w W:G}(h:Below n w W)(a:n<=b)(x y z u:E):Below n w (putAt W b o x y z u):=
 (((h.setCell (p:=⟨b,o,none⟩) a _).setCell (p:=⟨b,o+1,none⟩) a _).setCell (p:=⟨b,o+2,none⟩) a _).setCell (p:=⟨b,o+3,none⟩) a _
theorem cell_of{W:G}{o:Nat}{t:TypeId}{x:E}(h:W.heap[b]?=some (L cs t m))(e:cs[o]?=some x):W.cell? ⟨b,o,none⟩=some x:=by simp[World.cell?,h,e]
def Sr{W:G}{o:Nat}{t:TypeId}{x0 a z0 u0:E}(h:W.heap[b]?=some (L cs t m))(c:cs[o]?=some x0)(d:cs[o+1]?=some a)(e:cs[o+2]?=some z0)(f:cs[o+3]?=some u0)
(i:Jv x0=true)(j:Jv a=true)(l:Jv z0=true)(n:Jv u0=true)(x y z u:E):∀k v ds,Row k W v ds->Row k (putAt W b o x y z u) v ds:=λk v ds g=>by
 have c1:((cs.setIfInBounds o x))[o+1]?=some a:=by rw[Ae Z];exact d
 have c2:(((cs.setIfInBounds o x).setIfInBounds (o+1) y))[o+2]?=some z0:=by rw[Ae Z,Ae Z];exact e
 have c3:((((cs.setIfInBounds o x).setIfInBounds (o+1) y).setIfInBounds (o+2) z))[o+3]?=some u0:=by rw[Ae Z,Ae Z,Ae Z];exact f
 exact Row.set (Row.set (Row.set (Row.set g (cell_of h c) i _) (cell_of (JD h x) c1) j _) (cell_of (JD (JD h x) y) c2) l _) (cell_of (JD (JD (JD h x) y) z) c3) n _
def Dg.putKeep{W:G}(h:Dg r W b qs)(l:j<qs.length)(x y z u:E):∀k v ds,Row k W v ds->Row k (putAt W b (j*4) x y z u) v ds:=by
 obtain⟨cs,f,g⟩:=h;obtain⟨x0,q,z0,u0,a,c,d,e,i⟩:=g j l;obtain⟨m,n,o,p⟩:=i.no;exact Sr f a c d e m n o p x y z u
theorem Dg.set{r:Bool}{W:G}{b:Nat}{qs:Y}(h:Dg r W b qs){j:Nat}(a:j<qs.length){x y z u:E}{q:Rat}(v:Dr r W (I #[x,y,z,u]) q):Dg r (putAt W b (j*4) x y z u) b (qs.set j q):=by
 have f:=h.putKeep a x y z u;obtain⟨cs,s,c⟩:=h;obtain⟨x0,Q,z0,u0,m,n,o,p,B⟩:=c j a;refine⟨_,Nv s x y z u,λi d=>?_⟩;rw[CS]at d;have g:=(Ab.1 m).1;have D:=(Ab.1 n).1;have K:=(Ab.1 o).1;have P:=(Ab.1 p).1;by_cases e:i=j
 . subst e;refine⟨x,y,z,u,?_,?_,?_,?_,?_⟩
   . rw[Ae Z,Ae Z,Ae Z,Array.getElem?_setIfInBounds_self_of_lt g]
   . grind[Ae,Array.getElem?_setIfInBounds_self_of_lt]
   . grind
   . grind
   . rw[XD _ _ _ _ a,Br rfl];exact v.keep f
 . obtain⟨x1,w,A,u1,d0,d1,k,l,t⟩:=c i d;refine⟨x1,w,A,u1,?_,?_,?_,?_,?_⟩
   . rw[Ae Z,Ae Z,Ae Z,Ae Z];exact d0
   . rw[Ae Z,Ae Z,Ae Z,Ae Z];exact d1
   . rw[Ae Z,Ae Z,Ae Z,Ae Z];exact k
   . rw[Ae Z,Ae Z,Ae Z,Ae Z];exact l
   . rw[XD _ _ _ _ a,Bk e];exact t.keep f
def RowK(r:Bool)(W:G)(v:E)(qs:Y):Prop:=
 ∃a cap,v=C a qs.length cap/\qs.length<=cap/\cap<=9223372036854775807/\qs.length<=1099511627776/\(qs=[]\/∃b,a=some ⟨b,0,none⟩/\Dg r W b qs)
def RowK.below{r:Bool}{W W':G}{v:E}{qs:Y}(h:RowK r W v qs)(k:Bl W W'):RowK r W' v qs:=by
 obtain⟨a,cap,e,f,g,i,c⟩:=h;refine⟨a,cap,e,f,g,i,?_⟩;rcases c with c|⟨b,d,j⟩
 . exact Az c
 . exact AE ⟨b,d,j.below k⟩
theorem RowK.nil(r:Bool)(W:G):RowK r W (C none 0 0) []:=⟨none,0,rfl,Aa _,Z,DQ,Az rfl⟩
def Dg.row{W:G}(h:Dg r W b qs){cap:Nat}(d:n<=qs.length)(c:n<=cap)(a:cap<=9223372036854775807)(hl:n<=1099511627776):RowK r W (C (some ⟨b,0,none⟩) n cap) (qs.take n):=by
 have e:(qs.take n).length=n:=by rw[Aj];omega
 exact⟨_,cap,by rw[e],Z,a,Z,AE ⟨b,rfl,h.take n⟩⟩
theorem RowK.open{W:G}{v:E}(h:RowK r W v qs):∃a cap,v=C a qs.length cap/\qs.length<=cap/\cap<=9223372036854775807/\qs.length<=1099511627776/\
 Hid (∀j,j<qs.length->∃b,a=some ⟨b,0,none⟩/\Dg r W b qs):=by
 obtain⟨a,cap,e,c,d,f,g⟩:=h;refine⟨a,cap,e,c,d,f,λj i=>?_⟩;grind
def RowK.take{r:Bool}{W:G}{a:WO}{l cap:Nat}{qs:Y}(h:RowK r W (C a l cap) qs){n:Nat}(o:n<=l):RowK r W (C a n cap) (qs.take n):=by
 obtain⟨i,j,e,k,f,m,c⟩:=h;cases e;have e:(qs.take n).length=n:=by rw[Aj];omega
 refine⟨a,cap,by rw[e],Z,f,Z,?_⟩;rcases c with c|⟨b,d,g⟩
 . left;rw[c];simp
 . exact AE ⟨b,d,g.take n⟩
def Jj(W:G)(v:E)(ps:Y):Prop:=∃u,v=I #[u]/\RowK true W u ps
def Jj.below{W W':G}{v:E}{ps:Y}(h:Jj W v ps)(b:Bl W W'):Jj W' v ps:=by
 obtain⟨u,e,a⟩:=h;exact⟨u,e,a.below b⟩
def RowK.form{W:G}{v:E}(h:RowK r W v qs):∃a l c,v=C a l c:=by
 obtain⟨a,cap,e,_⟩:=h;exact⟨a,_,cap,e⟩
def Jj.form{W:G}{v:E}{ps:Y}(h:Jj W v ps):∃a l c,v=I #[C a l c]:=by
 obtain⟨u,e,b⟩:=h;obtain⟨a,l,c,rfl⟩:=b.form;exact⟨a,l,c,e⟩
def Jj.row{W:G}{a:WO}{l c:Nat}{ps:Y}(h:Jj W (I #[C a l c]) ps):RowK true W (C a l c) ps:=by
 obtain⟨u,e,b⟩:=h;cases e;exact b
structure Sqs(qs:Y):Prop where
 all:∀i,Sq (cf qs i)
def Sqs.at(h:Sqs qs)(i:Nat):Sq (cf qs i):=h.all i
theorem Sqs.of(h:∀i,Sq (cf qs i)):Sqs qs:=⟨h⟩
def YN(r:Bool)(W:G)(cs:List E)(qs:Y):Prop:=
 cs.length=qs.length*4/\∀j,j<qs.length->∃x y z u,cs[j*4]?=some x/\cs[j*4+1]?=some y/\cs[j*4+2]?=some z/\cs[j*4+3]?=some u/\Dr r W (I #[x,y,z,u]) (cf qs j)
theorem YN.nil(r:Bool)(W:G):YN r W [] []:=⟨rfl,λj a=>by simp at a⟩
def YN.below{r:Bool}{W W':G}{cs:List E}{qs:Y}(h:YN r W cs qs)(f:Bl W W'):YN r W' cs qs:=by
 refine⟨h.1,λj g=>?_⟩;obtain⟨x,y,z,u,a,b,c,d,e⟩:=h.2 j g;exact⟨x,y,z,u,a,b,c,d,e.below f⟩
def YN.keep{r:Bool}{W W':G}{cs:List E}{qs:Y}(h:YN r W cs qs)(g:∀k v ds,Row k W v ds->Row k W' v ds):YN r W' cs qs:=by
 refine⟨h.1,λj f=>?_⟩;obtain⟨x,y,z,u,a,b,c,d,e⟩:=h.2 j f;exact⟨x,y,z,u,a,b,c,d,e.keep g⟩
theorem YN.one{r:Bool}{W:G}{cs:List E}{qs:Y}(h:YN r W cs qs):∀v∈cs,v.oneCell'=true:=by
 intro v b;obtain⟨k,i,rfl⟩:=List.mem_iff_getElem.1 b;have hl:=h.1;obtain⟨x,y,z,u,c,d,e,f,a⟩:=h.2 (k/4) Z;have g:=a.one;grind
theorem Dg.cells{W:G}(h:Dg r W b qs):∃cs,YN r W cs qs/\∀j u,cs[j]?=some u->W.cell? ⟨b,j,none⟩=some u:=by
 obtain⟨a,m,c⟩:=h;have p:qs.length*4<=a.size:=by
  cases o:qs.length with
  |zero=>omega
  |succ n=>
   obtain⟨x,y,z,u,_,_,_,d,_⟩:=c n Z;grind
 refine⟨a.toList.take (qs.length*4),⟨De,λj g=>?_⟩,λj u e=>?_⟩
 . obtain⟨x,y,z,u,i,k,l,d,f⟩:=c j g;refine⟨x,y,z,u,?_,?_,?_,?_,f⟩
   . grind
   . grind
   . grind
   grind
 grind[cell_of]
theorem RowK.owns{W:G}{e:Nat}{v:E}{cs:List E}(h:W.ownsRow e (Hj r) 4 v n cs)(i:YN r W cs qs)(hl:qs.length<=1099511627776):RowK r W v qs/\n=qs.length/\(v=C none 0 0\/∃g cap,v=C (some ⟨g,0,none⟩) n cap/\e<=g/\Dg r W g qs):=by
 obtain⟨A,l⟩:=h;have s:n=qs.length:=by have:=i.1;omega
 subst s;rcases l with⟨rfl,w⟩|⟨g,cap,k,rfl,o,hg,hle,q,B,t⟩
 . grind[RowK.nil]
 . have f:Dg r W g qs:=by
    refine⟨k,hg,λj p=>?_⟩;obtain⟨x,y,z,u,a,b,c,d,m⟩:=i.2 j p;rw[<-t]at a b c d;rw[CK Z,Array.getElem?_toList]at a b c d;exact⟨x,y,z,u,a,b,c,d,m⟩
   refine⟨⟨_,cap,rfl,hle,by unfold maxLen at q;omega,hl,AE ⟨g,rfl,f⟩⟩,rfl,AE ⟨g,cap,rfl,o,f⟩⟩
section
variable {V:World} {B:Nat} {t:TypeId} {x y z u:Value}
def Jo.ka(h:Jo V B t x y):V.cell? ⟨B,0,none⟩=some x/\V.cell? ⟨B,1,none⟩=some y:=⟨h.c0,h.c1⟩
def Jo.fa(h:Jo V B t x y):V.frozen? ⟨B,0,none⟩=false/\V.frozen? ⟨B,1,none⟩=false:=⟨h.f0,h.f1⟩
def Jr.kb(h:Jr V B t x y z u):V.cell? ⟨B,0,none⟩=some x/\V.cell? ⟨B,1,none⟩=some y/\V.cell? ⟨B,2,none⟩=some z/\V.cell? ⟨B,3,none⟩=some u:=⟨h.c0,h.c1,h.c2,h.c3⟩
def Jr.fb(h:Jr V B t x y z u):V.frozen? ⟨B,0,none⟩=false/\V.frozen? ⟨B,1,none⟩=false/\V.frozen? ⟨B,2,none⟩=false/\V.frozen? ⟨B,3,none⟩=false:=⟨h.f0,h.f1,h.f2,h.f3⟩
end
end
namespace M3
structure Dat where
 ty:TypeId
 has:World->Value->Prop
 noPoly:Bool
 below:∀ {V V':World} {v:Value},has V v->Bl V V'->has V' v
 keep:∀ {V V':World} {v:Value},has V v->(∀k v ds,Row k V v ds->Row k V' v ds)->(noPoly=true\/∀v qs,RowK true V v qs->RowK true V' v qs)->has V' v
def Dat.int(z:Int):Dat where
 ty:=36
 has V v:=Ji V v z
 noPoly:=true
 below h hb:=Ji.below h hb
 keep h hk _:=by
  obtain⟨a,l,c,e,b⟩:=h;exact⟨a,l,c,e,hk _ _ _ b⟩
def Dat.rat(q:Rat):Dat where
 ty:=38
 has V v:=Jg V v q
 noPoly:=true
 below h hb:=Jg.below h hb
 keep h hk _:=Yw.keep h hk
def Dat.pair(x y:Int):Dat where
 ty:=38
 has V v:=Yw V v x y
 noPoly:=true
 below h hb:=Yw.below h hb
 keep h hk _:=Yw.keep h hk
def Dat.rats(qs:Y):Dat where
 ty:=38
 has V v:=∃cs,v=I cs/\∀j,j<qs.length->∃x y z u,cs[j*4]?=some x/\cs[j*4+1]?=some y/\cs[j*4+2]?=some z/\cs[j*4+3]?=some u/\Dr true V (I #[x,y,z,u]) (cf qs j)
 noPoly:=true
 below h hb:=by
  obtain⟨cs,e,h⟩:=h;refine⟨cs,e,λj g=>?_⟩;obtain⟨x,y,z,u,a,b,c,d,f⟩:=h j g;exact⟨x,y,z,u,a,b,c,d,f.below hb⟩
 keep h hk _:=by
  obtain⟨cs,e,h⟩:=h;refine⟨cs,e,λj g=>?_⟩;obtain⟨x,y,z,u,a,b,c,d,f⟩:=h j g;exact⟨x,y,z,u,a,b,c,d,f.keep hk⟩
def Dat.poly(ps:Y):Dat where
 ty:=25
 has V v:=Jj V v ps
 noPoly:=false
 below h hb:=Jj.below h hb
 keep h _ hp:=by
  rcases hp with hp|hp
  . cases hp
  . obtain⟨u,e,a⟩:=h;exact⟨u,e,hp _ _ a⟩
def Dat.cell(t:TypeId)(x:E):Dat where
 ty:=t
 has _ v:=v=I #[x]/\Jv x=true
 noPoly:=true
 below h _:=h
 keep h _ _:=h
def Has(V:G)(v:E)(d:Dat):Prop:=d.has V v
def Has.below{V V':G}{v:E}{d:Dat}(h:Has V v d)(a:Bl V V'):Has V' v d:=d.below h a
def Has.alloc{V:G}{v:E}{d:Dat}(h:Has V v d)(o:Obj):Has (V.alloc o) v d:=h.below (Ba V o)
def Has.keep{V V':G}{v:E}{d:Dat}(h:Has V v d)(a:∀k v ds,Row k V v ds->Row k V' v ds)(hp:d.noPoly=true\/∀v qs,RowK true V v qs->RowK true V' v qs):Has V' v d:=d.keep h a hp
def Bx(V:G)(B:Nat)(t:TypeId)(cs:Array E):Prop:=V.heap[B]?=some (L cs t (0,0))
variable{cs:Array E}{d:Dat}{qs:Y}{x0:E}{V':G}
def Bx.lt{V:G}{B:Nat}{t:TypeId}(h:Bx V B t cs):B<V.heap.size:=(Ab.1 h).1
def Bx.below{V:G}{B:Nat}{t:TypeId}(h:Bx V B t cs)(a:Bl V V'):Bx V' B t cs:=(a.block B h.lt).trans h
def Bx.far{V:G}{B:Nat}{t:TypeId}(h:Bx V B t cs){p:Addr}(hp:B≠p.block)(u:E):Bx (V.setCell p u) B t cs:=(BR V p u B hp).trans h
def Bx.f{V:G}{B:Nat}{t:TypeId}(h:Bx V B t cs)(i:Nat):V.frozen? ⟨B,i,Option.none⟩=false:=by simp[World.frozen?,show V.heap[B]?=_ from h]
def Bx.all{V:G}{B:Nat}{t:TypeId}(h:Bx V B t cs):∀i,V.cell? ⟨B,i,Option.none⟩=cs[i]?:=λi=>by simp[World.cell?,show V.heap[B]?=_ from h]
def noPoly:List (Option (Nat × Dat))->Bool
 |[]=>true
 |some (_,d)::t=>d.noPoly&&noPoly t
 |Option.none::t=>noPoly t
theorem Nx{bs:List (Option (Nat × Dat))}(h:noPoly bs=true){i:Nat}{x:Nat × Dat}(e:bs[i]?=some (some x)):x.2.noPoly=true:=by
 induction bs generalizing i with
 |nil=>simp at e
 |cons b t a=>
  cases b with
  |none=>
   cases i with
   |zero=>simp at e
   |succ i=>exact a h (by simpa using e)
  |some y=>
   grind[noPoly]
def DS(w V:G)(bs:List (Option (Nat × Dat))):Prop:=
 (∀(i:Nat) B d,bs[i]?=some (some (B,d))->(∃cs,Bx V B d.ty cs/\Has V (I cs) d)/\w.heap.size<=B)/\
 (∀(i j:Nat) B d a,bs[i]?=some (some (B,d))->bs[j]?=some (some (B,a))->i=j)/\Bl w V
theorem DS.nil(w:G):DS w w []:=⟨λi B z h=>by simp at h,λi j B z a h=>by simp at h,BL _ w⟩
def DS.int{w V:G}{bs:List (Option (Nat × Dat))}(M:DS w V bs){i B:Nat}{z:Int}(h:bs[i]?=some (some (B,.int z))):∃s a l c,Jo V B 36 (H s) (C a l c)/\Ji V (I #[H s,C a l c]) z:=by
 obtain⟨⟨cs,b,d⟩,_⟩:=M.1 i B _ h;obtain⟨a,l,c,e,f⟩:=d;cases e;exact⟨_,a,l,c,b,a,l,c,rfl,f⟩
def DS.rat{w V:G}{bs:List (Option (Nat × Dat))}(M:DS w V bs){i B:Nat}{q:Rat}(h:bs[i]?=some (some (B,.rat q))):
 ∃s a l c t b k d,Jr V B 38 (H s) (C a l c) (H t) (C b k d)/\Jg V (I #[H s,C a l c,H t,C b k d]) q/\Ji V (I #[H s,C a l c]) q.num/\Ji V (I #[H t,C b k d]) (denZ q):=by
 obtain⟨⟨cs,m,f⟩,_⟩:=M.1 i B _ h;have n:=f;obtain⟨s,a,l,c,t,b,k,d,e,g,j⟩:=f;cases e;exact⟨s,a,l,c,t,b,k,d,m,n,g,j⟩
def DS.pair{w V:G}{bs:List (Option (Nat × Dat))}(M:DS w V bs){i B:Nat}{x y:Int}(h:bs[i]?=some (some (B,.pair x y))):
 ∃s a l c t b k d,Jr V B 38 (H s) (C a l c) (H t) (C b k d)/\Yw V (I #[H s,C a l c,H t,C b k d]) x y/\Ji V (I #[H s,C a l c]) x/\Ji V (I #[H t,C b k d]) y:=by
 obtain⟨⟨cs,m,f⟩,_⟩:=M.1 i B _ h;have n:=f;obtain⟨s,a,l,c,t,b,k,d,e,g,j⟩:=f;cases e;exact⟨s,a,l,c,t,b,k,d,m,n,g,j⟩
def DS.below{w V V':G}{bs:List (Option (Nat × Dat))}(M:DS w V bs)(a:Bl V V'):DS w V' bs:=
 ⟨λi B z h=>by
  obtain⟨⟨cs,b,c⟩,d⟩:=M.1 i B z h;exact⟨⟨cs,b.below a,c.below a⟩,d⟩,M.2.1,Bt M.2.2 a⟩
def DS.drew{w V:G}{bs:List (Option (Nat × Dat))}(M:DS w V bs):DS w V.drew bs:=M.below ((BL _ V).drew)
def DS.sub{w V:G}{bs cs:List (Option (Nat × Dat))}(M:DS w V bs)(f:Nat->Nat)(e:∀(i j:Nat),f i=f j->i=j)(h:∀(i:Nat) x,cs[i]?=some (some x)->bs[f i]?=some (some x)):DS w V cs:=
 ⟨λi B d a=>M.1 (f i) B d (h i _ a),λi j B d b a c=>e i j (M.2.1 (f i) (f j) B d b (h i _ a) (h j _ c)),M.2.2⟩
theorem DS.take{w V:G}{bs:List (Option (Nat × Dat))}(M:DS w V bs)(n:Nat):DS w V (bs.take n):=by
 refine M.sub id (λ_ _ h=>h) λi x h=>?_;grind
theorem DS.none{w V:G}{bs:List (Option (Nat × Dat))}(M:DS w V bs):DS w V (bs++[Option.none]):=by
 refine M.sub id (λ_ _ h=>h) λi x h=>?_;grind
theorem DS.fill{w V:G}{bs:List (Option (Nat × Dat))}(M:DS w V bs){i:Nat}(h:bs[i]?=some Option.none)(d:Dat)(o:Has V (I cs) d):
 DS w (V.alloc (L cs d.ty)) (bs.set i (some (V.heap.size,d))):=by
 have f:Bl V (V.alloc (L cs d.ty)):=Ba V _;have l:i<bs.length:=(Af.1 h).1;have e:=M.below f;have q:∀(j:Nat) B d,bs[j]?=some (some (B,d))->B<V.heap.size:=λj B d h=>by
  obtain⟨⟨_,b,_⟩,_⟩:=M.1 j B d h;exact b.lt
 refine⟨λj B m a=>?_,λj k B d1 n b g=>?_,e.2.2⟩
 . by_cases c:i=j
   . subst c;rw[List.getElem?_set_self l]at a;simp at a;obtain⟨rfl,rfl⟩:=a;exact⟨⟨cs,BV V _,o.below f⟩,M.2.2.size⟩
   . rw[Cs c]at a;exact e.1 j B m a
 . by_cases c:i=j<;>by_cases p:i=k
   . omega
   . grind
   . grind
   . rw[Cs c]at b;rw[Cs p]at g;exact M.2.1 j k B d1 n b g
def DS.push{w V:G}{bs:List (Option (Nat × Dat))}(M:DS w V bs)(d:Dat)(a:Has V (I cs) d):DS w (V.alloc (L cs d.ty)) (bs++[some (V.heap.size,d)]):=by
 have h:=M.none.fill (i:=bs.length) DQ d a;rwa[Sp]at h
def FB{w:G}{t:TypeId}{v:E}(h:Jv v=true:=by rfl):Has w (I #[v]) (.cell t v):=⟨rfl,h⟩
def GV{w:G}(a:TypeId)(d1:Dat){c1:Array E}(c:Has w (I c1) d1)(b:d1.ty=a:=by rfl):∃W,Hid (w.alloc (L c1 a)=W)/\Hid (DS w W [some (w.heap.size,d1)]):=by
 subst b;exact⟨_,Ja rfl,Ja ((DS.nil w).push d1 c)⟩
theorem Ss{w:G}(b:TypeId)(d1:Dat){c1:Array E}(f:Has w (I c1) d1)(c:TypeId)(a:Dat){c2:Array E}(g:Has w (I c2) a)(d:d1.ty=b:=by rfl)(e:a.ty=c:=by rfl):∃W,Hid ((w.alloc (L c1 b)).alloc (L c2 c)=W)/\Hid (DS w W [some (w.heap.size,d1),some (w.heap.size+1,a)]):=by
 subst d e;have M:=((DS.nil w).push d1 f).push a (g.alloc _);grind[A1,Ja]
theorem Su{w:G}(c:TypeId)(d1:Dat){c1:Array E}(j:Has w (I c1) d1)(d:TypeId)(a:Dat){c2:Array E}(k:Has w (I c2) a)(e:TypeId)(b:Dat){c3:Array E}(l:Has w (I c3) b)(f:d1.ty=c:=by rfl)(g:a.ty=d:=by rfl)(i:b.ty=e:=by rfl):∃W,Hid (((w.alloc (L c1 c)).alloc (L c2 d)).alloc (L c3 e)=W)/\Hid (DS w W [some (w.heap.size,d1),some (w.heap.size+1,a),some (w.heap.size+1+1,b)]):=by
 subst f g i;have M:=(((DS.nil w).push d1 j).push a (k.alloc _)).push b ((l.alloc _).alloc _);grind[A1,Ja]
theorem Ny{w:G}(d:TypeId)(d1:Dat){c1:Array E}(m:Has w (I c1) d1)(e:TypeId)(a:Dat){c2:Array E}(n:Has w (I c2) a)(f:TypeId)(b:Dat){c3:Array E}(o:Has w (I c3) b)(g:TypeId)(c:Dat){c4:Array E}(p:Has w (I c4) c)(i:d1.ty=d:=by rfl)(j:a.ty=e:=by rfl)(k:b.ty=f:=by rfl)(l:c.ty=g:=by rfl):∃W,Hid ((((w.alloc (L c1 d)).alloc (L c2 e)).alloc (L c3 f)).alloc (L c4 g)=W)/\Hid (DS w W [some (w.heap.size,d1),some (w.heap.size+1,a),some (w.heap.size+1+1,b),some (w.heap.size+1+1+1,c)]):=by
 subst i j k l;have M:=((((DS.nil w).push d1 m).push a (n.alloc _)).push b ((o.alloc _).alloc _)).push c (((p.alloc _).alloc _).alloc _);grind[A1,Ja]
theorem DS.repl{w V:G}{bs:List (Option (Nat × Dat))}(M:DS w V bs){i B:Nat}(h:bs[i]?=some (some (B,d)))(c:Dat)(A:Bx V' B c.ty cs)(D:Has V (I cs) c)
(o:∀k v ds,Row k V v ds->Row k V' v ds)(K:∀a t cs,a≠B->Bx V a t cs->Bx V' a t cs)(z:Bl w V')
(hp:noPoly bs=true\/∀v qs,RowK true V v qs->RowK true V' v qs)(P:c.noPoly=true\/∀v qs,RowK true V v qs->RowK true V' v qs):DS w V' (bs.set i (some (B,c))):=by
 have p:i<bs.length:=(Af.1 h).1;obtain⟨_,Q⟩:=M.1 i B d h;refine⟨λj a d1 b=>?_,λj k a d1 s x y=>?_,z⟩
 . by_cases m:i=j
   . subst m;rw[List.getElem?_set_self p]at b;simp at b;obtain⟨rfl,rfl⟩:=b;exact⟨⟨cs,A,D.keep o P⟩,Q⟩
   . rw[Cs m]at b;obtain⟨⟨r,g,l⟩,S⟩:=M.1 j a d1 b;have q:a≠B:=λe=>m (by rw[e]at b;exact M.2.1 i j B d d1 h b);exact⟨⟨r,K _ _ _ q g,l.keep o (hp.imp (λh=>Nx h b) id)⟩,S⟩
 . have n:∀(j:Nat) d1,(bs.set i (some (B,c)))[j]?=some (some (a,d1))->∃f,bs[j]?=some (some (a,f)):=λj d1 b=>by
    grind
   obtain⟨f,g⟩:=n j d1 x;obtain⟨u,l⟩:=n k s y;exact M.2.1 j k a f u g l
theorem Hl{V:G}{B:Nat}{t:TypeId}(h:Bx V B t cs){o:Nat}(e:cs[o]?=some x0)(m:Jv x0=true)(r:Bool)(p:t≠Hj r)(x:E)(v:E)(qs:Y)(d:RowK r V v qs):RowK r (V.setCell ⟨B,o,Option.none⟩ x) v qs:=by
 obtain⟨a,cap,ev,j,k,l,c⟩:=d;refine⟨a,cap,ev,j,k,l,?_⟩;rcases c with c|⟨b,g,f⟩
 . exact Az c
 . refine AE ⟨b,g,f.keep (BR V ⟨B,o,Option.none⟩ x b ?_) λ_ _ _ d=>Row.set d (cell_of h e) m _⟩;rintro rfl;obtain⟨n,i,_⟩:=f;rw[show V.heap[b]?=_ from h]at i;grind
def Sv{V:G}{B:Nat}{t:TypeId}{a:E}(q:Jo V B t x0 a){r:Bool}(b:t≠Hj r)(c:Jv x0=true)(d:Jv a=true)(x y:E):∀v qs,RowK r V v qs->RowK r ((V.setCell ⟨B,0,Option.none⟩ x).setCell ⟨B,1,Option.none⟩ y) v qs:=
 λv qs h=>Hl (cs:=#[x,a]) (q.set0 x) (o:=1) rfl d r b y v qs (Hl (cs:=#[x0,a]) q (o:=0) rfl c r b x v qs h)
def Nz{V:G}{B:Nat}{t:TypeId}{x y:E}(q:Jo V B t x y)(b:Jv x=true)(c:Jv y=true)(a d:E):∀k v ds,Row k V v ds->Row k ((V.setCell ⟨B,0,Option.none⟩ a).setCell ⟨B,1,Option.none⟩ d) v ds:=
 λ_ _ _ h=>Row.set (Row.set h q.c0 b _) (q.set0 a).c1 c _
def DS.putInt{w V:G}{bs:List (Option (Nat × Dat))}(M:DS w V bs){i B:Nat}{z0:Int}(h:bs[i]?=some (some (B,.int z0))){x y:E}{z:Int}(f:Ji V (I #[x,y]) z):
 DS w ((V.setCell ⟨B,0,Option.none⟩ x).setCell ⟨B,1,Option.none⟩ y) (bs.set i (some (B,.int z))):=by
 obtain⟨s,a,l,c,b,_⟩:=M.int h;obtain⟨_,e⟩:=M.1 i B _ h;exact M.repl h (.int z) (cs:=#[x,y]) ((b.set0 x).set1 y) f (Nz b rfl rfl x y) (λj t cs d g=>(g.far (p:=⟨B,0,Option.none⟩) d _).far (p:=⟨B,1,Option.none⟩) d _) ((M.2.2.setCell (p:=⟨B,0,Option.none⟩) e _).setCell (p:=⟨B,1,Option.none⟩) e _) (AE (Sv b DV rfl rfl x y)) (Az rfl)
def Sw{V:G}{B:Nat}(x y z u:E):∀b t cs,b≠B->Bx V b t cs->Bx (put4 V B x y z u) b t cs:=λ_ _ _ a g=>(((g.far (p:=⟨B,0,Option.none⟩) a _).far (p:=⟨B,1,Option.none⟩) a _).far (p:=⟨B,2,Option.none⟩) a _).far (p:=⟨B,3,Option.none⟩) a _
def DS.putRat{w V:G}{bs:List (Option (Nat × Dat))}(M:DS w V bs){i B:Nat}{q0:Rat}(h:bs[i]?=some (some (B,.rat q0))){x y z u:E}{q:Rat}(b:Jg V (I #[x,y,z,u]) q)(d:noPoly bs=true:=by rfl):
 DS w (put4 V B x y z u) (bs.set i (some (B,.rat q))):=by
 obtain⟨_,_,_,_,_,_,_,_,a,_⟩:=M.rat h;obtain⟨_,c⟩:=M.1 i B _ h;exact M.repl h (.rat q) (cs:=#[x,y,z,u]) (a.put x y z u) b (λ_ _ _ g=>Row.put4 g a rfl rfl rfl rfl _ _ _ _) (Sw x y z u) (Js M.2.2 c _ _ _ _) (Az d) (Az rfl)
def Has.set2{V:G}{v:E}(h:Has V v d){B:Nat}{t:TypeId}{x y:E}(q:Jo V B t x y)(e:Jv x=true)(f:Jv y=true)(a b:E)(c:d.noPoly=true:=by rfl):Has ((V.setCell ⟨B,0,Option.none⟩ a).setCell ⟨B,1,Option.none⟩ b) v d:=h.keep (Nz q e f a b) (Az c)
def Has.put4{V:G}{v:E}{d:Dat}(h:Has V v d){B:Nat}{t:TypeId}{x y z u:E}(q:Jr V B t x y z u)(b:Jv x=true)(c:Jv y=true)(e:Jv z=true)(f:Jv u=true)(j k l i:E)(a:d.noPoly=true:=by rfl):Has (Go.Proofs.YtcahejkcdcjjgaaGreatDoor.put4 V B j k l i) v d:=h.keep (λ_ _ _ g=>Row.put4 g q b c e f _ _ _ _) (Az a)
def DS.ne{w V:G}{bs:List (Option (Nat × Dat))}(M:DS w V bs)(i j:Nat){B a:Nat}{b:Dat}(h:bs[i]?=some (some (B,d)))(c:bs[j]?=some (some (a,b)))(f:i≠j):B≠a:=λe=>by
 subst e;exact f (M.2.1 i j B d b h c)
def DS.ge{w V:G}{bs:List (Option (Nat × Dat))}(M:DS w V bs)(i:Nat){B:Nat}(h:bs[i]?=some (some (B,d))):w.heap.size<=B:=(M.1 i B d h).2
def Es(V:G)(t:E)(d1 a:Dat):Prop:=∃u1 u2,t=.tuple #[u1,u2,H true]/\Has V u1 d1/\Has V u2 a
def Es.below{V V':G}{t:E}{d1 a:Dat}(h:Es V t d1 a)(b:Bl V V'):Es V' t d1 a:=by
 obtain⟨u1,u2,e,c,d⟩:=h;exact⟨u1,u2,e,c.below b,d.below b⟩
def Es.alloc{V:G}{t:E}{d1 a:Dat}(h:Es V t d1 a)(o:Obj):Es (V.alloc o) t d1 a:=by
 obtain⟨u1,u2,e,b,c⟩:=h;exact⟨u1,u2,e,b.alloc o,c.alloc o⟩
def Es.set2{V:G}{v:E}{d1 a:Dat}(h:Es V v d1 a){B:Nat}{t:TypeId}{x y:E}(q:Jo V B t x y)(d:Jv x=true)(f:Jv y=true)(b c:E)(j:d1.noPoly=true:=by rfl)(k:a.noPoly=true:=by rfl):Es ((V.setCell ⟨B,0,Option.none⟩ b).setCell ⟨B,1,Option.none⟩ c) v d1 a:=by
 obtain⟨u1,u2,e,g,i⟩:=h;exact⟨u1,u2,e,g.set2 q d f b c j,i.set2 q d f b c k⟩
def DS.rats{w V:G}{bs:List (Option (Nat × Dat))}(M:DS w V bs){i B:Nat}{qs:Y}(h:bs[i]?=some (some (B,.rats qs))):Dg true V B qs:=by
 obtain⟨⟨cs,b,a⟩,_⟩:=M.1 i B _ h;obtain⟨c,e,a⟩:=a;cases e;exact⟨cs,b,a⟩
theorem DS.putRats{w V:G}{bs:List (Option (Nat × Dat))}(M:DS w V bs){i B:Nat}(h:bs[i]?=some (some (B,.rats qs))){j:Nat}(o:j<qs.length){x y z u:E}{q:Rat}(Q:Jg V (I #[x,y,z,u]) q)(U:noPoly bs=true:=by rfl):
 DS w (putAt V B (j*4) x y z u) (bs.set i (some (B,.rats (qs.set j q)))):=by
 have n:=M.rats h;obtain⟨_,p⟩:=M.1 i B _ h;obtain⟨cs,c1,c2⟩:=Dg.set (r:=true) n o Q;have S:=n.putKeep o x y z u;have s:i<bs.length:=(Af.1 h).1;refine⟨λa c d1 b=>?_,λa k c d1 A K P=>?_,Nw M.2.2 p _ _ _ _⟩
 . by_cases l:i=a
   . subst l;rw[List.getElem?_set_self s]at b;simp at b;obtain⟨rfl,rfl⟩:=b;exact⟨⟨cs,c1,cs,rfl,c2⟩,p⟩
   . rw[Cs l]at b;obtain⟨⟨v,f,g⟩,T⟩:=M.1 a c d1 b;have t:c≠B:=λe=>l (by rw[e]at b;exact M.2.1 i a B _ d1 h b);exact⟨⟨v,(Hk t x y z u).trans f,g.keep S (Az (Nx U b))⟩,T⟩
 . have m:∀(a:Nat) d1,(bs.set i (some (B,.rats (qs.set j q))))[a]?=some (some (c,d1))->∃d,bs[a]?=some (some (c,d)):=λa d1 b=>by
    grind
   obtain⟨d,f⟩:=m a d1 K;obtain⟨D,g⟩:=m k A P;exact M.2.1 a k c d D f g
def DS.cell{w V:G}{bs:List (Option (Nat × Dat))}(M:DS w V bs){i B:Nat}{t:TypeId}{v:E}(h:bs[i]?=some (some (B,.cell t v))):Boxed V B t v/\Jv v=true:=by
 obtain⟨⟨cs,b,a⟩,_⟩:=M.1 i B _ h;obtain⟨e,a⟩:=a;cases e;exact⟨b,a⟩
def DS.poly{w V:G}{bs:List (Option (Nat × Dat))}(M:DS w V bs){i B:Nat}{ps:Y}(h:bs[i]?=some (some (B,.poly ps))):∃a l c,Boxed V B 25 (C a l c)/\RowK true V (C a l c) ps:=by
 obtain⟨⟨cs,d,b⟩,_⟩:=M.1 i B _ h;obtain⟨a,l,c,e⟩:=Jj.form b;cases e;exact⟨a,l,c,d,Jj.row b⟩
def Ld{V:G}{B:Nat}{t:TypeId}{x:E}(q:Boxed V B t x)(a:Jv x=true)(b:E):∀k v ds,Row k V v ds->Row k (V.setCell ⟨B,0,Option.none⟩ b) v ds:=
 λ_ _ _ h=>Row.set h q.cell a _
def DS.putPoly{w V:G}{bs:List (Option (Nat × Dat))}(M:DS w V bs){i B:Nat}{p0:Y}(h:bs[i]?=some (some (B,.poly p0))){x:E}{ps:Y}(e:Jj V (I #[x]) ps):
 DS w (V.setCell ⟨B,0,Option.none⟩ x) (bs.set i (some (B,.poly ps))):=by
 obtain⟨a,l,c,b,_⟩:=M.poly h;obtain⟨_,j⟩:=M.1 i B _ h;have d:∀v qs,RowK true V v qs->RowK true (V.setCell ⟨B,0,Option.none⟩ x) v qs:=Hl (cs:=#[C a l c]) b (o:=0) rfl rfl true DV x;exact M.repl h (.poly ps) (cs:=#[x]) (b.set x) e (Ld b rfl x) (λk t cs f g=>g.far (p:=⟨B,0,Option.none⟩) f _) (M.2.2.setCell (p:=⟨B,0,Option.none⟩) j _) (AE d) (AE d)
def DS.adopt{w V:G}{bs:List (Option (Nat × Dat))}(M:DS w V bs)(l:Bl V V'){g:Nat}(hg:V.heap.size<=g)(m:Dg true V' g qs):DS w V' (bs++[some (g,.rats qs)]):=by
 have e:=M.below l;have f:∀(j:Nat) B d,bs[j]?=some (some (B,d))->B<V.heap.size:=λj B d h=>by
  obtain⟨⟨_,a,_⟩,_⟩:=M.1 j B d h;exact a.lt
 have c:∀(j:Nat) x,(bs++[some (g,Dat.rats qs)])[j]?=some (some x)->bs[j]?=some (some x)\/(j=bs.length/\x=(g,.rats qs)):=λj x h=>by
  by_cases n:j<bs.length
  . rw[List.getElem?_append_left n]at h;exact Az h
  . rw[List.getElem?_append_right Z]at h;obtain⟨k,o⟩:=ex (j-bs.length);rw[o]at h;cases k with
    |zero=>simp at h;exact AE ⟨Z,h.symm⟩
    |succ k=>simp at h
 refine⟨λj B d h=>?_,λj k B d1 i a b=>?_,e.2.2⟩
 . rcases c j _ h with h|⟨_,h⟩
   . exact e.1 j B d h
   . cases h;obtain⟨cs,c1,c2⟩:=m;exact⟨⟨cs,c1,cs,rfl,c2⟩,At M.2.2.size hg⟩
 . rcases c j _ a with a|⟨p,a⟩<;>rcases c k _ b with b|⟨q,b⟩
   . exact M.2.1 j k B d1 i a b
   . cases b;have:=f j _ _ a;omega
   . cases a;have:=f k _ _ b;omega
   . omega
def Dat.eq(x:E):Dat where
 ty:=0
 has _ v:=v=x
 noPoly:=true
 below h _:=h
 keep h _ _:=h
def Dat.any:Dat where
 ty:=0
 has _ _:=True
 noPoly:=true
 below h _:=h
 keep h _ _:=h
def blk:E->Nat
 |N (some a)=>a.block
 |_=>0
def Dat.ptr:Dat where
 ty:=0
 has _ v:=v=N (some ⟨blk v,0,none⟩)
 noPoly:=true
 below h _:=h
 keep h _ _:=h
def Dat.tup1(d:Dat):Dat where
 ty:=0
 has V v:=∃u,v=.tuple #[u,H true]/\Has V u d
 noPoly:=d.noPoly
 below h hb:=by
  obtain⟨x,e,h⟩:=h;exact⟨x,e,h.below hb⟩
 keep h hk hp:=by
  obtain⟨x,e,h⟩:=h;exact⟨x,e,d.keep h hk hp⟩
def upd(f:Nat->E)(i:Nat)(u:E):Nat->E:=λj=>if j=i then u else f j
def more(D:Nat->Bool)(i:Nat):Nat->Bool:=λj=>j==i || D j
def Hs(ds:List Dat)(D:Nat->Bool)(V:G)(f:Nat->E):Prop:=∀k,D k=true->Has V (f k) (ds.getD k .any)
def Av(ds:List Dat)(dp:U)(V:G)(f:Nat->E):Prop:=∀k,k∈dp->Has V (f k) (ds.getD k .any)
def Fj(tab:List U)(i:Nat)(D:Nat->Bool)(l:Nat):Bool:=l != i&&((tab.getD i []).contains l || (!((tab.getD l []).contains i)&&D l))
def bl(tab:List U)(ws:U)(i:Nat)(D:Nat->Bool):List Bool:=ws.map (Fj tab i D)
section
variable {P:Program} {ops:Array Oper} {mk:(Nat->Value)->Act} {ds:List Dat} {ws:U} {J:List Bool->List Value->World->Prop} {tab:List U} {D:Nat->Bool} {f:Nat->Value} {V W:World} {dp:U} {i:Nat} {u x:Value} {o:Oper}
variable{d:Dat}{b:E}
theorem Hs.mv(h:Hs ds D V f)(m:∀d v,(d∈ds\/d=.any)->Has V v d->Has W v d):Hs ds D W f:=λk a=>m _ _ (by
 grind) (h k a)
theorem Hs.put(h:Hs ds D V f)(i:Nat)(c:Has V u (ds.getD i .any)):Hs ds (more D i) V (upd f i u):=λk b=>by
 unfold upd;by_cases a:k=i
 . subst a;rw[Br rfl];exact c
 . rw[Bk a];refine h k ?_;unfold more at b;grind
def Av.g(h:Av ds dp V f)(k:Nat)(a:k∈dp:=by decide):Has V (f k) (ds.getD k .any):=h k a
def Av.e(h:Av ds dp V f)(k:Nat)(e:ds.getD k .any=.eq x:=by rfl)(a:k∈dp:=by decide):f k=x:=by
 have:=h k a;rw[e]at this;exact this
def St(ds:List Dat)(ws:U)(J:List Bool->List E->G->Prop)(D:Nat->Bool)(f:Nat->E)(V:G):Prop:=Hs ds D V f/\J (ws.map D) (ws.map f) V
def c1{F:FuncId}{R:Ending->G->Prop}{a x:E}(h:a=x)(q:M P F #[x] V R):M P F #[a] V R:=by rw[h];exact q
def c2{F:FuncId}{R:Ending->G->Prop}{a x y:E}(h:a=x)(k:b=y)(q:M P F #[x,y] V R):M P F #[a,b] V R:=by rw[h,k];exact q
def c3{F:FuncId}{R:Ending->G->Prop}{a x y c z:E}(h:a=x)(k:b=y)(m:c=z)(q:M P F #[x,y,z] V R):M P F #[a,b,c] V R:=by rw[h,k,m];exact q
def Hs.e(h:Hs ds (λ_=>true) V f)(k:Nat)(e:ds.getD k .any=.eq x:=by rfl):f k=x:=by
 have:=h k rfl;rw[e]at this;exact this
def Hs.p(h:Hs ds (λ_=>true) V f)(k:Nat)(e:ds.getD k .any=.ptr:=by rfl):∃B,f k=N (some ⟨B,0,none⟩):=by
 have:=h k rfl;rw[e]at this;exact⟨_,this⟩
def Hs.g(h:Hs ds (λ_=>true) V f)(k:Nat)(e:ds.getD k .any=d:=by rfl):Has V (f k) d:=e ▸ h k rfl
def Sx{F:FuncId}{av:Array E}(q:M P F av V λe W=>∃u,e=.returned (.tuple #[u,H true])/\Has W u d/\Bl V W):M P F av V λe W=>∃u,e=.returned u/\Has W u (.tup1 d)/\Bl V W:=q.mono λ_ _ ⟨_,e,a,b⟩=>⟨_,e,⟨_,rfl,a⟩,b⟩
def rv{F:FuncId}{av:Array E}{x:E}(q:M P F av V λe W=>e=.returned x/\Bl V W):M P F av V λe W=>∃u,e=.returned u/\Has W u (.eq x)/\Bl V W:=q.mono λ_ _ ⟨e,a⟩=>⟨_,e,rfl,a⟩
def It{W:G}(h:∀d∈ds,∀V W v,Has V v d->Has W v d:=by repeat (first|exact List.forall_mem_nil _|refine List.forall_mem_cons.2 ⟨λ_ _ _ h=>h,?_⟩)):∀d v,(d∈ds\/d=.any)->Has V v d->Has W v d:=λd v a k=>by
 rcases a with a|rfl
 . exact h d a V W v k
 . exact k
def Out(P:Program)(o:Oper)(a:Act)(V:G)(K:Act->G->Prop):Prop:=
 (∃r u W,(execOp a.eval o).run P V=.ok r W/\(r=.value u\/(r=.skip/\u=R))/\K (a.put o.dst u) W)\/∃F av,(execOp a.eval o).run P V=.ok (.enter F av) V/\M P F av V λe W=>∃u,e=.returned u/\K (a.put o.dst u) W
def XZ:Oper->Bool
 |{ op:=.defer _,.. }=>true
 |_=>false
section
variable {Q:Exit->Act->World->Prop} {K:Act->World->Prop} {a:Act}
variable{n:Nat}
def Out.op(h:Out P o a V K)(f:ops[i]?=some o)(hg:Region.wanted o (yielded ops a.tmps)=true):wpOp P ops Q i K a V:=by
 unfold wpOp;rw[f];simp only[hg,if_true];refine Az ?_;unfold Oper.wp;rcases h with⟨r,u,W,c,g,b⟩|⟨F,av,c,d⟩
 . rw[c];rcases g with rfl|⟨rfl,rfl⟩
   . exact b
   . exact b
 . rw[c];refine d.mono ?_;rintro e W ⟨u,rfl,b⟩;exact b
def Hm(F:Fence):Prop:=F=.wide\/∃l,F=Fence.wide.inRound l
def Hm.calls{F:Fence}(h:Hm F){fn:FuncId}{av:Array E}{R:Ending->G->Prop}(a:M P fn av V R):CallsIn F n P fn av V R:=by
 rcases h with rfl|⟨l,rfl⟩
 . exact Be.2 a
 . exact(Be.2 a).inRound l
def Out.opIn{F:Fence}(hF:Hm F)(h:Out P o a V K)(q:ops[i]?=some o)(hg:Region.wanted o (yielded ops a.tmps)=true)(s:XZ o=false):wpOpIn F n P ops Q i K a V:=by
 unfold wpOpIn;rw[q];simp only[hg,if_true];unfold Oper.wpIn;refine⟨λf _=>(by rcases hF with rfl|⟨l,rfl⟩<;>trivial),?_⟩;rw[Oper.semAt_eq _ _ _ λc j=>by
  obtain⟨d,op,t,p,af,g⟩:=o;subst j;cases s]
 rcases h with⟨r,u,W,k,v,b⟩|⟨fn,av,k,j⟩
 . rw[k];rcases v with rfl|⟨rfl,rfl⟩
   . exact b
   . exact b
 . rw[k,Oper.uponIn_enter];refine⟨λm=>(by rcases hF with rfl|⟨l,rfl⟩<;>cases m),(hF.calls j).mono ?_⟩;rintro e W ⟨u,rfl,b⟩;exact b
end
def Does(P:Program)(ops:Array Oper)(i:Nat)(a:Act)(V:G)(K:Act->G->Prop):Prop:=∃o,ops[i]?=some o/\XZ o=false/\((Region.wanted o (yielded ops a.tmps)=true/\Out P o a V K)\/(Region.wanted o (yielded ops a.tmps)=false/\K (a.put o.dst R) V))
section
variable {Q:Exit->Act->World->Prop} {K K':Act->World->Prop} {a:Act}
def Does.op(h:Does P ops i a V K):wpOp P ops Q i K a V:=by
 obtain⟨o,b,_,⟨hg,h⟩|⟨hg,h⟩⟩:=h
 . exact h.op b hg
 . unfold wpOp;rw[b];simp only[hg,CN,if_false];exact h
def Does.opIn{F:Fence}{n:Nat}(hF:Hm F)(h:Does P ops i a V K):wpOpIn F n P ops Q i K a V:=by
 obtain⟨o,b,c,⟨hg,h⟩|⟨hg,h⟩⟩:=h
 . exact h.opIn hF b hg c
 . unfold wpOpIn;rw[b];simp only[hg,CN,if_false];exact⟨λf _=>(by rcases hF with rfl|⟨l,rfl⟩<;>trivial),h⟩
def Does.mono(h:Does P ops i a V K)(b:∀d V',K d V'->K' d V'):Does P ops i a V K':=by
 obtain⟨o,f,g,⟨hg,h⟩|⟨hg,h⟩⟩:=h
 . refine⟨o,f,g,Az ⟨hg,?_⟩⟩;rcases h with⟨r,u,W,c,l,h⟩|⟨F,av,c,k⟩
   . exact Az ⟨r,u,W,c,l,b _ _ h⟩
   . exact AE ⟨F,av,c,k.mono λe W ⟨u,j,h⟩=>⟨u,j,b _ _ h⟩⟩
 . exact⟨o,f,g,AE ⟨hg,b _ _ h⟩⟩
end
def Stp(P:Program)(ops:Array Oper)(mk:(Nat->E)->Act)(ds:List Dat)(ws:U)(J:List Bool->List E->G->Prop)(tab:List U)(i:Nat):Prop:=
 ∀D f V,Av ds (tab.getD i []) V f->Hs ds D V f->J (bl tab ws i D) (ws.map f) V->ws.map D=bl tab ws i D->
  Does P ops i (mk f) V (λa V'=>∃u,a=mk (upd f i u)/\St ds ws J (more D i) (upd f i u) V')
variable{args:(Nat->E)->Array E}{n:Nat}
theorem St.step(d:ws.contains i=false)(h:J (ws.map D) (ws.map f) V):J (ws.map (more D i)) (ws.map (upd f i u)) V:=by
 have c:∀l∈ws,l≠i:=λl hl e=>by
  grind
 have a:ws.map (more D i)=ws.map D:=Cl λl hl=>by unfold more;grind
 have b:ws.map (upd f i u)=ws.map f:=Cl λl hl=>Bk (c l hl);rw[a,b];exact h
def WR{R:Nat->Prop}(h:R 0)(t:∀i,i<n->R (i+1)):∀i,i<n+1->R i
 |0,_=>h
 |i+1,a=>t i (Nat.lt_of_succ_lt_succ a)
def Stp.end_{R:Nat->Prop}:∀i,i<0->R i:=λ_ h=>absurd h (Nat.not_lt_zero _)
def Stp.cl{F:FuncId}
(k:∀ {f V D},Av ds (tab.getD i []) V f->J (bl tab ws i D) (ws.map f) V->M P F (args f) V λe W=>∃u,e=.returned u/\Has W u (ds.getD i .any)/\Bl V W)
(hJ:∀b v V W,J b v V->Bl V W->J b v W:=by first|exact λ_ _ _ _ h a=>h.below a|exact λ_ _ _ _ h a=>⟨h.1.below a,h.2.below a⟩)(n:ops[i]?=some o:=by rfl)(hg:∀ {f V},Av ds (tab.getD i []) V f->Region.wanted o (yielded ops (mk f).tmps)=true:=by exact λ_=>rfl)(l:ws.contains i=false:=by rfl)
(r:∀f V,(execOp (mk f).eval o).run P V=.ok (.enter F (args f)) V:=by intro f V;kernel_rfl)(m:∀f u,(mk f).put o.dst u=mk (upd f i u):=by intro f u;kernel_rfl)(p:XZ o=false:=by rfl):Stp P ops mk ds ws J tab i:=λD f V g hs j a=>⟨o,n,p,Az ⟨hg g,AE ⟨F,args f,r f V,by
 refine(k g j).mono ?_;rintro e W ⟨u,rfl,q,c⟩;exact⟨u,rfl,u,m f u,(hs.mv λd v _ h=>h.below c).put i q,St.step l (hJ _ _ _ _ (by rw[a];exact j) c)⟩⟩⟩⟩
def Stp.ci{F:FuncId}(n:ops[i]?=some o)
(c:∀ {f V D},Av ds (tab.getD i []) V f->J (bl tab ws i D) (ws.map f) V->∃av,(execOp (mk f).eval o).run P V=.ok (.enter F av) V/\M P F av V λe W=>∃u,e=.returned u/\Has W u (ds.getD i .any)/\Bl V W)
(hJ:∀b v V W,J b v V->Bl V W->J b v W:=by first|exact λ_ _ _ _ h a=>h.below a|exact λ_ _ _ _ h a=>⟨h.1.below a,h.2.below a⟩)(hg:∀ {f V},Av ds (tab.getD i []) V f->Region.wanted o (yielded ops (mk f).tmps)=true:=by exact λ_=>rfl)(l:ws.contains i=false:=by rfl)
(m:∀f u,(mk f).put o.dst u=mk (upd f i u):=by intro f u;kernel_rfl)(p:XZ o=false:=by rfl):Stp P ops mk ds ws J tab i:=λD f V j hs k a=>by
 obtain⟨av,r,c⟩:=c j k;refine⟨o,n,p,Az ⟨hg j,AE ⟨F,av,r,c.mono ?_⟩⟩⟩;rintro e W ⟨u,rfl,q,g⟩;exact⟨u,rfl,u,m f u,(hs.mv λd v _ h=>h.below g).put i q,St.step l (hJ _ _ _ _ (by rw[a];exact k) g)⟩
def Stp.vl(g:ops[i]?=some o)(l:∀ {f V D},Av ds (tab.getD i []) V f->J (bl tab ws i D) (ws.map f) V->∃u,(execOp (mk f).eval o).run P V=.ok (.value u) V/\Has V u (ds.getD i .any))
(hg:∀ {f V},Av ds (tab.getD i []) V f->Region.wanted o (yielded ops (mk f).tmps)=true:=by exact λ_=>rfl)(d:ws.contains i=false:=by rfl)(e:∀f u,(mk f).put o.dst u=mk (upd f i u):=by intro f u;kernel_rfl)(j:XZ o=false:=by rfl):Stp P ops mk ds ws J tab i:=λD f V a hs b c=>by
 obtain⟨u,m,k⟩:=l a b;exact⟨o,g,j,Az ⟨hg a,Az ⟨_,u,V,m,Az rfl,u,e f u,hs.put i k,St.step d (by rw[c];exact b)⟩⟩⟩
def Stp.wr(m:ops[i]?=some o)(s:∀ {f V D},Av ds (tab.getD i []) V f->J (bl tab ws i D) (ws.map f) V->∃r u W,(execOp (mk f).eval o).run P V=.ok r W/\(r=.value u\/(r=.skip/\u=R))/\Has W u (ds.getD i .any)/\(∀d v,(d∈ds\/d=.any)->Has V v d->Has W v d)/\J (ws.map (more (Fj tab i D) i)) (ws.map (upd f i u)) W)
(hg:∀ {f V},Av ds (tab.getD i []) V f->Region.wanted o (yielded ops (mk f).tmps)=true:=by exact λ_=>rfl)(k:∀f u,(mk f).put o.dst u=mk (upd f i u):=by intro f u;kernel_rfl)(n:XZ o=false:=by rfl):Stp P ops mk ds ws J tab i:=λD f V a hs g c=>by
 obtain⟨r,u,W,t,p,q,j,hJ⟩:=s a g;have e:ws.map (more (Fj tab i D) i)=ws.map (more D i):=Cl λl hl=>by
  have b:=List.map_inj_left.1 c l hl;show(l==i || Fj tab i D l)=(l==i || D l);rw[<-b]
 rw[e]at hJ;exact⟨o,m,n,Az ⟨hg a,Az ⟨r,u,W,t,p,u,k f u,(hs.mv j).put i q,hJ⟩⟩⟩
def Stp.no(j:ops[i]?=some o)(hg:∀ {f V},Av ds (tab.getD i []) V f->Region.wanted o (yielded ops (mk f).tmps)=false)(c:∀V,Has V R (ds.getD i .any):=by exact λ_=>trivial)(d:ws.contains i=false:=by rfl)(g:∀f u,(mk f).put o.dst u=mk (upd f i u):=by intro f u;kernel_rfl)(k:XZ o=false:=by rfl):Stp P ops mk ds ws J tab i:=λD f V a hs e b=>
 ⟨o,j,k,AE ⟨hg a,R,g f R,hs.put i (c V),St.step d (by rw[b];exact e)⟩⟩
def Stp.cw{F:FuncId}
(g:∀ {f V D},Av ds (tab.getD i []) V f->J (bl tab ws i D) (ws.map f) V->M P F (args f) V λe W=>∃u,e=.returned u/\Has W u (ds.getD i .any)/\(∀d v,(d∈ds\/d=.any)->Has V v d->Has W v d)/\J (ws.map (more (Fj tab i D) i)) (ws.map (upd f i u)) W)
(n:ops[i]?=some o:=by rfl)(hg:∀ {f V},Av ds (tab.getD i []) V f->Region.wanted o (yielded ops (mk f).tmps)=true:=by exact λ_=>rfl)
(r:∀f V,(execOp (mk f).eval o).run P V=.ok (.enter F (args f)) V:=by intro f V;kernel_rfl)(m:∀f u,(mk f).put o.dst u=mk (upd f i u):=by intro f u;kernel_rfl)(p:XZ o=false:=by rfl):Stp P ops mk ds ws J tab i:=λD f V a hs j c=>⟨o,n,p,Az ⟨hg a,AE ⟨F,args f,r f V,by
 refine(g a j).mono ?_;rintro e W ⟨u,rfl,q,k,hJ⟩;have e:ws.map (more (Fj tab i D) i)=ws.map (more D i):=Cl λl hl=>by
  have b:=List.map_inj_left.1 c l hl;show(l==i || Fj tab i D l)=(l==i || D l);rw[<-b]
 rw[e]at hJ;exact⟨u,rfl,u,m f u,(hs.mv k).put i q,hJ⟩⟩⟩⟩
theorem Sy(b:∀l dp,tab[l]?=some dp->D l=true->∀k∈dp,D k=true)(c:∀k∈tab.getD i [],D k=true)(a:D i=false)(d:∀l∈ws,l<tab.length):ws.map D=bl tab ws i D:=Cl λl hl=>by
 grind[Fj]
def Hn(a:Act):List (Option Tmp)->Nat->(Nat->E)->Act
 |[],_,_=>a
 |d::ds,k,f=>Hn (a.put d (f k)) ds (k+1) f
def Iu(a:Act):Option (Option Tmp)->E
 |some (some t)=>a.tmps.getD t R
 |_=>R
def Le(a:Act):∀(ds:List (Option Tmp)) (k:Nat) (f:Nat->E),(∀j,j<ds.length->f (k+j)=Iu a ds[j]?)->Hn a ds k f=a
 |[],_,_,_=>rfl
 |d::ds,k,f,h=>by
  have e:a.put d (f k)=a:=by
   have c:f k=Iu a (some d):=h 0 (Nat.zero_lt_succ _);rw[c];cases d with
   |none=>rfl
   |some t=>
    show({ a with tmps:=a.tmps.setIfInBounds t (a.tmps.getD t R) }:Act)=a
    have:a.tmps.setIfInBounds t (a.tmps.getD t R)=a.tmps:=by
     apply Array.ext_getElem?;intro i;rw[Array.getElem?_setIfInBounds];by_cases b:t=i
     . subst b;by_cases hs:t<a.tmps.size
       . simp[hs]
       . simp[hs]
     . rw[Bk b]
    rw[this]
  show Hn (a.put d (f k)) ds (k+1) f=a;rw[e];exact Le a ds (k+1) f λj g=>by
   rw[Nat.add_right_comm,Nat.add_assoc];exact h (j+1) (Nat.succ_lt_succ g)
def Ef(ops:Array Oper)(a:Act)(f:Nat->E):Act:=Hn a (ops.toList.map Oper.dst) 0 f
def Sz{a:Act}{dp:U}{K:Act->G->Prop}(p:∀l dp,tab[l]?=some dp->D l=true->∀k∈dp,D k=true)(q:tab[i]?=some dp)(g:∀k∈dp,D k=true)(n:D i=false)(s:(ws.all λl=>decide (l<tab.length))=true)
(t:∀i,i<tab.length->Stp P ops (Ef ops a) ds ws J tab i)(c:St ds ws J D f V)(o:∀b V',(∃f,b=Ef ops a f/\St ds ws J (more D i) f V')->K b V'):Does P ops i (Ef ops a f) V K:=by
 have e:tab.getD i []=dp:=De
 have d:=Sy p (e ▸ g) n λl hl=>B3 (AA.1 s l hl);exact(t i (Af.1 q).1 D f V (λk r=>c.1 k (g k (by rw[<-e];exact r))) c.1 (by rw[<-d];exact c.2) d).mono λb V' ⟨u,j,m⟩=>o _ _ ⟨_,j,m⟩
def N0(e:(ws.all λl=>decide (l<tab.length))=true)(c:decide (ds.length<=tab.length)=true)(b:∀i,i<tab.length->D i=true)(a:St ds ws J D f V):Hs ds (λ_=>true) V f/\J (ws.map λ_=>true) (ws.map f) V:=by
 refine⟨λk _=>?_,?_⟩
 . by_cases d:k<tab.length
   . exact a.1 k (b k d)
   . have:=B3 c;rw[List.getD_eq_getElem?_getD,Cg Z];trivial
 . rw[Cl (g:=D) λl hl=>(b l (B3 (AA.1 e l hl))).symm];exact a.2
def GW(tab a:List U):Bool:=tab.length==a.length&&(List.range a.length).all λi=>(a.getD i []).all λk=>(tab.getD i []).contains k || (tab.getD i []).any λj=>decide (j<i)&&(a.getD j []).contains k
theorem N1{a:List U}(h:GW tab a=true)(i:Nat)(b:i<a.length)(k:Nat)(c:k∈a.getD i []):k∈tab.getD i []\/∃j,j<i/\j∈tab.getD i []/\k∈a.getD j []:=by
 have d:=AA.1 (AA.1 (Bool.and_eq_true_iff.1 h).2 i (List.mem_range.2 b)) k c;grind
theorem Iv{a:List U}(h:GW tab a=true):tab.length=a.length:=eq_of_beq (Bool.and_eq_true_iff.1 h).1
def getD_at{t:List U}{i:Nat}(h:i<t.length):t[i]?=some (t.getD i []):=De
theorem N2{a:List U}(h:GW tab a=true)(c:∀l dp,tab[l]?=some dp->D l=true->∀k∈dp,D k=true)(l:Nat):D l=true->∀k∈a.getD l [],D k=true:=by
 induction l using Nat.strongRecOn with
 |ind l e=>
  intro b k d;grind[Iv,N1]
theorem N3{b:List U}{a:Act}{dp:U}{K:Act->G->Prop}(h:GW tab b=true)(g:∀l dp,tab[l]?=some dp->D l=true->∀k∈dp,D k=true)(v:tab[i]?=some dp)(m:∀k∈dp,D k=true)(q:D i=false)(t:(ws.all λl=>decide (l<b.length))=true)
(u:∀i,i<b.length->Stp P ops (Ef ops a) ds ws J b i)(r:St ds ws J D f V)(s:∀d V',(∃f,d=Ef ops a f/\St ds ws J (more D i) f V')->K d V'):Does P ops i (Ef ops a f) V K:=by
 have hl:i<b.length:=by grind[Iv]
 have e:tab.getD i []=dp:=De
 refine Sz (λl dp hl p k n=>N2 h g l p k De) (getD_at hl) (λk n=>?_) q t u r s;rcases N1 h i hl k n with c|⟨j,_,c,o⟩
 . exact m k (e ▸ c)
 . exact N2 h g j (m j (e ▸ c)) k o
def Et{id:Nat}{a:Act}{w:G}{Q:Exit->Act->G->Prop}(v:P.follows .mixedOrders=true)(b:List U)(ds:List Dat)(ws:U)(J:List Bool->List E->G->Prop)
(start:J (ws.map λ_=>false) (ws.map λk=>Iu a (ops.toList.map Oper.dst)[k]?) w.drew)
(x:∀i,i<b.length->Stp P ops (Ef ops a) ds ws J b i)
(fin:∀f V,Hs ds (λ_=>true) V f->J (ws.map λ_=>true) (ws.map f) V->Q .normal (Ef ops a f) V)
(e:GW (Region.tabAfter .any ops) b=true:=by kernel_rfl)(u:Xf (Region.tabAfter .any ops)=true:=by kernel_rfl)(g:(ws.all λl=>decide (l<b.length))=true:=by rfl)(s:decide (ds.length<=b.length)=true:=by rfl):(Code.region id ops true).wp P Q a w:=by
 refine Jt v _ rfl u (λD m V=>∃f,m=Ef ops a f/\St ds ws J D f V) ⟨_,(Le a _ 0 _ λj _=>by rw[Ch]).symm,And.intro (λ_ h=>Bool.noConfusion h) start⟩ ?_ ?_
 . rintro D _ V i dp r d t p ⟨f,rfl,c⟩;exact(N3 e r d t p g x c λ_ _ h=>h).op
 . rintro D _ V q ⟨f,rfl,c⟩;obtain⟨n,o⟩:=N0 g s (λi d=>q i (by rw[Iv e];exact d)) c;exact fin f V n o
def Iw{F:Fence}{id:Nat}{a:Act}{w:G}{Q:Exit->Act->G->Prop}(hF:Hm F)(x:P.follows .mixedOrders=true)(b:List U)(ds:List Dat)(ws:U)(J:List Bool->List E->G->Prop)
(start:J (ws.map λ_=>false) (ws.map λk=>Iu a (ops.toList.map Oper.dst)[k]?) w.drew)
(y:∀i,i<b.length->Stp P ops (Ef ops a) ds ws J b i)
(fin:∀f V,Hs ds (λ_=>true) V f->J (ws.map λ_=>true) (ws.map f) V->Q .normal (Ef ops a f) V)
(e:GW (Region.tabAfter .any ops) b=true:=by kernel_rfl)(v:Xf (Region.tabAfter .any ops)=true:=by kernel_rfl)(g:(ws.all λl=>decide (l<b.length))=true:=by rfl)(t:decide (ds.length<=b.length)=true:=by rfl):(Code.region id ops true).wpIn F n P Q a w:=by
 refine Ym x _ rfl v (λD m V=>∃f,m=Ef ops a f/\St ds ws J D f V) ⟨_,(Le a _ 0 _ λj _=>by rw[Ch]).symm,And.intro (λ_ h=>Bool.noConfusion h) start⟩ ?_ ?_
 . rintro D _ V i dp s d u q ⟨f,rfl,c⟩;exact(N3 e s d u q g y c λ_ _ h=>h).opIn hF
 . rintro D _ V r ⟨f,rfl,c⟩;obtain⟨o,p⟩:=N0 g t (λi d=>r i (by rw[Iv e];exact d)) c;exact fin f V o p
def Db{p q:Prop}(k:q)(h:q->p:=by intro x;simp only[Ef,Hn,List.map_cons,List.map_nil,Act.put,List.setIfInBounds_toArray,List.set_cons_succ,List.set_cons_zero,Nat.reduceAdd];exact x):p:=h k
end
end M3
namespace M3
def Dat.ifq(q:Rat):Dat where
 ty:=0
 has V v:=∃u,v=.iface 38 u/\Jg V u q
 noPoly:=true
 below h hb:=by
  obtain⟨u,e,h⟩:=h;exact⟨u,e,h.below hb⟩
 keep h hk hp:=by
  obtain⟨u,e,h⟩:=h;exact⟨u,e,Dat.keep (.rat q) h hk hp⟩
section
variable {w V:World} {bs:List (Option (Nat × Dat))} {B:Nat} {ρ:Operand->Value} {x y:Operand} {dst:Option Tmp} {ty:TypeId} {ps:String} {af:Array Edge} {gd:Option (Nat × Bool)} {q q0:Rat} {z z0:Int} {p p0:Y} {v p1 u1:Value} {ds:List Dat} {T:World->Value->Prop}
variable{d:Dat}{qs:Y}{m:Nat}
def Eg(i:Nat)(M:DS w V bs)(h:bs[i]?=some (some (B,.rat q)):=by rfl)(hp:p1=N (some ⟨B,0,none⟩):=by rfl)(e:ρ x=p1:=by kernel_rfl):∃u,(execOp ρ { dst:=dst,op:=.load 38 x,type:=ty,pos:=ps,after:=af,guard:=gd }).run F V=.ok (.value u) V/\Has V u (.rat q):=by
 rw[hp]at e;obtain⟨s,a,l,c,t,b,k,d,n,r,_,_⟩:=M.rat h;obtain⟨f,g,j,m⟩:=n.kb;exact⟨_,by go_simp,r⟩
def GX(i:Nat)(M:DS w V bs)(h:bs[i]?=some (some (B,.int z)):=by rfl)(hp:p1=N (some ⟨B,0,none⟩):=by rfl)(b:ρ x=p1:=by kernel_rfl):∃u,(execOp ρ { dst:=dst,op:=.load 36 x,type:=ty,pos:=ps,after:=af,guard:=gd }).run F V=.ok (.value u) V/\Has V u (.int z):=by
 rw[hp]at b;obtain⟨s,a,l,c,n,r⟩:=M.int h;obtain⟨d,e⟩:=n.ka;exact⟨_,by go_simp,r⟩
def GY(i:Nat)(M:DS w V bs)(h:bs[i]?=some (some (B,.rat q)):=by rfl)(hp:p1=N (some ⟨B,0,none⟩):=by rfl)(e:ρ x=p1:=by kernel_rfl):∃u,(execOp ρ { dst:=dst,op:=.load 36 x,type:=ty,pos:=ps,after:=af,guard:=gd }).run F V=.ok (.value u) V/\Has V u (.int q.num):=by
 rw[hp]at e;obtain⟨s,a,l,c,t,b,k,d,n,_,r,_⟩:=M.rat h;obtain⟨f,g,j,m⟩:=n.kb;exact⟨_,by go_simp,r⟩
def Ho(i:Nat){a:WO}{l c:Nat}(M:DS w V bs)(h:bs[i]?=some (some (B,.cell 23 (C a l c))):=by rfl)(hp:p1=N (some ⟨B,0,none⟩):=by rfl)(b:ρ x=p1:=by kernel_rfl):∃u,(execOp ρ { dst:=dst,op:=.load 23 x,type:=ty,pos:=ps,after:=af,guard:=gd }).run F V=.ok (.value u) V/\Has V u (.eq (C a l c)):=by
 rw[hp]at b;have d:=(M.cell h).1.cell;exact⟨_,by go_simp,rfl⟩
def mv{y:E}(h:ρ x=y:=by kernel_rfl):∃u,(execOp ρ { dst:=dst,op:=.move x,type:=ty,pos:=ps,after:=af,guard:=gd }).run F V=.ok (.value u) V/\Has V u (.eq y):=⟨_,rfl,h⟩
def av{y:E}(h:ρ x=y:=by kernel_rfl):∃u,(execOp ρ { dst:=dst,op:=.assign x,type:=ty,pos:=ps,after:=af,guard:=gd }).run F V=.ok (.value u) V/\Has V u (.eq y):=⟨_,rfl,h⟩
def mw(a:Has V u1 d)(h:ρ x=u1:=by kernel_rfl):∃u,(execOp ρ { dst:=dst,op:=.move x,type:=ty,pos:=ps,after:=af,guard:=gd }).run F V=.ok (.value u) V/\Has V u d:=⟨_,rfl,h ▸ a⟩
def aw(a:Has V u1 d)(h:ρ x=u1:=by kernel_rfl):∃u,(execOp ρ { dst:=dst,op:=.assign x,type:=ty,pos:=ps,after:=af,guard:=gd }).run F V=.ok (.value u) V/\Has V u d:=⟨_,rfl,h ▸ a⟩
def Lf(i:Nat)(M:DS w V bs)(a:m<qs.length)(hp:p1=N (some ⟨B,m*4,none⟩))(h:bs[i]?=some (some (B,.rats qs)):=by rfl)(c:ρ x=p1:=by kernel_rfl):∃u,(execOp ρ { dst:=dst,op:=.load 38 x,type:=ty,pos:=ps,after:=af,guard:=gd }).run F V=.ok (.value u) V/\Has V u (.rat (cf qs m)):=by
 rw[hp]at c;obtain⟨j,k,l,n,d,e,f,g,b⟩:=(M.rats h).at a;exact⟨_,by go_simp,b⟩
def Wr(ρ:Operand->E)(o:Oper)(V:G)(ds:List Dat)(d:Dat)(T:G->E->Prop):Prop:=∃r u W,(execOp ρ o).run F V=.ok r W/\(r=.value u\/(r=.skip/\u=R))/\Has W u d/\(∀d v,(d∈ds\/d=.any)->Has V v d->Has W v d)/\T W u
def GB(i:Nat)(M:DS w V bs)(f:Has V u1 (.int z))(h:bs[i]?=some (some (B,.int z0)):=by rfl)(hp:p1=N (some ⟨B,0,none⟩):=by rfl)(j:ρ x=p1:=by kernel_rfl)(o:ρ y=u1:=by kernel_rfl)(g:ds.all Dat.noPoly=true:=by rfl)(hT:∀ {s a l c x y},Jo V B 36 (H s) (C a l c)->DS w ((V.setCell ⟨B,0,none⟩ x).setCell ⟨B,1,none⟩ y) (bs.set i (some (B,.int z)))->T ((V.setCell ⟨B,0,none⟩ x).setCell ⟨B,1,none⟩ y) R:=by exact λ_ m=>m):Wr ρ { dst:=none,op:=.store 36 x y,type:=ty,pos:=ps,after:=af,guard:=gd } V ds (.eq R) T:=by
 rw[hp]at j;obtain⟨s,a,l,c,n,r⟩:=M.int h;obtain⟨q,t⟩:=n.ka;obtain⟨f0,f1⟩:=n.fa;obtain⟨A,p,u,c1,e⟩:=Ji.form2 (show Ji V _ _ from f);rw[e]at f;rw[e]at o;exact⟨.skip,R,_,by go_simp,AE ⟨rfl,rfl⟩,rfl,λd v b k=>k.set2 n rfl rfl _ _ (by rcases b with b|rfl;exact AA.1 g d b;rfl),hT n (M.putInt h f)⟩
def N4(i:Nat)(M:DS w V bs)(g:Has V u1 (.rat q))(h:bs[i]?=some (some (B,.rat q0)):=by rfl)(hp:p1=N (some ⟨B,0,none⟩):=by rfl)(o:ρ x=p1:=by kernel_rfl)(p:ρ y=u1:=by kernel_rfl)(j:ds.all Dat.noPoly=true:=by rfl)(u:noPoly bs=true:=by rfl)(hT:∀ {s a l c t b k d x y x' y'},Jr V B 38 (H s) (C a l c) (H t) (C b k d)->DS w (put4 V B x y x' y') (bs.set i (some (B,.rat q)))->T (put4 V B x y x' y') R:=by exact λ_ m=>m):Wr ρ { dst:=none,op:=.store 38 x y,type:=ty,pos:=ps,after:=af,guard:=gd } V ds (.eq R) T:=by
 rw[hp]at o;obtain⟨s,a,l,c,t,b,k,d,n,r,_,_⟩:=M.rat h;obtain⟨D,K,P,Q⟩:=n.kb;obtain⟨f0,f1,f2,f3⟩:=n.fb;obtain⟨W,z,U,c1,X,A,S,d1,e⟩:=Jg.form (show Jg V _ _ from g);rw[e]at g;rw[e]at p;exact⟨.skip,R,_,by go_simp;rfl,AE ⟨rfl,rfl⟩,rfl,λd v f k=>k.put4 n rfl rfl rfl rfl _ _ _ _ (by rcases f with f|rfl;exact AA.1 j d f;rfl),hT n (M.putRat h g u)⟩
def Lg(i:Nat)(M:DS w V bs)(c:m<qs.length)(e:Has V u1 (.rat q))(hp:p1=N (some ⟨B,m*4,none⟩))(h:bs[i]?=some (some (B,.rats qs)):=by rfl)(f:ds.all Dat.noPoly=true:=by rfl)(j:noPoly bs=true:=by rfl)(g:ρ x=p1:=by kernel_rfl)(A:ρ y=u1:=by kernel_rfl)(hT:∀ {x y z u},Dg true V B qs->DS w (putAt V B (m*4) x y z u) (bs.set i (some (B,.rats (qs.set m q))))->T (putAt V B (m*4) x y z u) R:=by exact λ_ m=>m):Wr ρ { dst:=none,op:=.store 38 x y,type:=ty,pos:=ps,after:=af,guard:=gd } V ds (.eq R) T:=by
 rw[hp]at g;have a:=M.rats h;obtain⟨S,U,W,X,p,r,s,t,_⟩:=a.at c;have f0:=a.frozen (m*4);have f1:=a.frozen (m*4+1);have f2:=a.frozen (m*4+2);have f3:=a.frozen (m*4+3);obtain⟨P,l,K,n,Q,b9,D,o,rfl⟩:=Jg.form (show Jg V _ _ from e);exact⟨.skip,R,_,by go_simp;rfl,AE ⟨rfl,rfl⟩,rfl,λd v b k=>k.keep (a.putKeep c _ _ _ _) (Az (by rcases b with b|rfl;exact AA.1 f d b;rfl)),hT a (M.putRats h c e j)⟩
def GC(i:Nat)(M:DS w V bs)(h:bs[i]?=some none:=by rfl)(hT:∀ {o},DS w (V.alloc o) (bs.set i (some (V.heap.size,.int 0)))->T (V.alloc o) (N (some ⟨V.heap.size,0,none⟩)):=by exact λm=>m):Wr ρ { dst:=dst,op:=.alloc 36,type:=ty,pos:=ps,after:=af,guard:=gd } V ds .ptr T:=
 ⟨_,N (some ⟨V.heap.size,0,none⟩),_,by go_simp;exact rfl,Az rfl,rfl,λ_ _ _ k=>k.alloc _,hT (M.fill h (.int 0) (EB V))⟩
def S0(i:Nat)(M:DS w V bs)(h:bs[i]?=some none:=by rfl)(hT:∀ {o},DS w (V.alloc o) (bs.set i (some (V.heap.size,.rat 0)))->T (V.alloc o) (N (some ⟨V.heap.size,0,none⟩)):=by exact λm=>m):Wr ρ { dst:=dst,op:=.alloc 38,type:=ty,pos:=ps,after:=af,guard:=gd } V ds .ptr T:=
 ⟨_,N (some ⟨V.heap.size,0,none⟩),_,by go_simp;exact rfl,Az rfl,rfl,λ_ _ _ k=>k.alloc _,hT (M.fill h (.rat 0) (XK V))⟩
def nb(b:List Bool)(v:List E)(a l:Nat)(d0 d1:Dat):Option (Nat × Dat):=if b.getD a false then some (blk (v.getD a R),if b.getD l false then d1 else d0)else none
def mi(a:Has V u1 (.rat q))(b:ρ x=u1:=by kernel_rfl):∃u,(execOp ρ { dst:=dst,op:=.makeInterface 38 x,type:=ty,pos:=ps,after:=af,guard:=gd }).run F V=.ok (.value u) V/\Has V u (.ifq q):=⟨.iface 38 u1,by go_simp,u1,rfl,a⟩
def TA(h:Has V p1 (.tup1 d))(b:ρ x=p1:=by kernel_rfl):∃u,(execOp ρ { dst:=dst,op:=.extract x 0,type:=ty,pos:=ps,after:=af,guard:=gd }).run F V=.ok (.value u) V/\Has V u d:=by
 obtain⟨u,e,a⟩:=h;rw[e]at b;exact⟨_,by go_simp,a⟩
def TB(h:Has V p1 (.tup1 d))(a:ρ x=p1:=by kernel_rfl):∃u,(execOp ρ { dst:=dst,op:=.extract x 1,type:=ty,pos:=ps,after:=af,guard:=gd }).run F V=.ok (.value u) V/\Has V u (.eq (H true)):=by
 obtain⟨u,e,b⟩:=h;rw[e]at a;exact⟨_,by go_simp,rfl⟩
end
def FI{p q:Prop}(k:p)(h:p->q:=by intro x;simp only[nb,List.map_cons,List.map_nil,List.getD_cons_zero,List.getD_cons_succ,if_true,blk]at x;exact x):q:=h k
end M3
def Yk.alloc{W:G}{v:E}{z:Int}(h:Yk W v z)(o:Obj):Yk (W.alloc o) v z:=h.below (Ba W o)
def Yk.form{W:G}{v:E}{z:Int}(h:Yk W v z):∃a l cap,v=I #[C a l cap,H (decide (z<0))]:=by
 obtain⟨a,l,cap,e,_⟩:=h;exact⟨a,l,cap,e⟩
def Yk.box{W:G}{R:Nat}{t:TypeId}{u0 u1 x0 x1 v:E}{z:Int}(h:Yk W v z)(q:Jo W R t u0 u1)(c:Jv u0=true)(d:Jv u1=true):Yk ((W.setCell ⟨R,0,none⟩ x0).setCell ⟨R,1,none⟩ x1) v z:=by
 obtain⟨a,l,cap,e,b⟩:=h;exact⟨a,l,cap,e,Row.set (Row.set b q.c0 c _) (u0:=u1) (q.set0 x0).c1 d _⟩
def N5(va vb:E)(x y:Int)(w:G)(g:Ji w va x)(hb:Ji w vb y)(ah:(Jc O x.natAbs).length<1099511627776)(ai:(Jc O y.natAbs).length<1099511627776):
 M F 88 #[va,vb] w λe d=>∃u,e=.returned u/\Ji d u (x-y)/\Bl w d:=by
 obtain⟨a,la,B,rfl⟩:=g.form;obtain⟨b,lb,f,e0,i⟩:=hb;cases e0;obtain⟨s,hs⟩:=ex (decide (x<0));obtain⟨t,q⟩:=ex (decide (y<0));rw[hs]at g ⊢;rw[q];clear hs;obtain⟨W0,m⟩:=ex (((w.alloc (L #[H s,C a la B] 36)).alloc (L #[H t,C b lb f] 36)).alloc (L #[H false,C none 0 0] 36));obtain⟨l,b0,j,k⟩:=Id m;have A:(if(!t)=true then -(y.natAbs:Int)else y.natAbs)=-y:=by
  rw[<-q];by_cases h:y<0
  . simp only[h,decide_true,Bool.not_true,CN,if_false];omega
  . simp only[h,decide_false,Bool.not_false,if_true];omega
 have HN:=Ja (λ(V:G) (h:Bl W0 V)=>show M F 112 #[H (!t),C b lb f] V λe d=>∃u,e=.returned u/\Ji d u (-y)/\Bl V d by
  have D:=GS (!t) (C b lb f) y.natAbs V (UN.below (UN.below i l) h);rw[A]at D;exact D)
 have HS:=Ja λ(V:G) (u:E) (h:Bl W0 V) (i:Ji V u (-y))=>LL _ u x (-y) V ((g.below l).below h) i ah (by rw[Int.natAbs_neg];exact ai);clear g i A q;go_enter func88,ntmps88
 go_wp2_with fail
 try rw[m]
 clear m;have c:Bl W0 W0.drew:=(BL _ W0).drew;obtain⟨K,P⟩:=b0.cp;obtain⟨Q,S⟩:=j.cp;have aj:¬(w.heap.size=w.heap.size+1+1):=Z
 go_region_held3 (λd=>d.cell? ⟨w.heap.size,0,none⟩=some (H s)/\d.cell? ⟨w.heap.size,1,none⟩=some (C a la B)/\d.cell? ⟨w.heap.size+1,0,none⟩=some (H t)/\d.cell? ⟨w.heap.size+1,1,none⟩=some (C b lb f)) (refine⟨?_,?_,?_,?_⟩<;>(first|(go_keep;done)|((repeat rw[JO Z]);simp[*];done)))
  (first
   |(go_at_call 112;refine(HN.o _ c).mono ?_;rintro e w1 ⟨u1,rfl,r,ad⟩;obtain⟨na,nl,nc,rfl⟩:=r.form;obtain⟨s1,n⟩:=ex (decide (-y<0));rw[n]at r;rw[n];clear n;have c:=Bt c ad;obtain⟨K,P⟩:=(b0.below c).cp;obtain⟨Q,S⟩:=(j.below c).cp)
   |(go_at_call 81;refine(HS.o _ _ c r).mono ?_;rintro e w2 ⟨u2,rfl,z,ae⟩;obtain⟨U,X,W,rfl⟩:=z.form;obtain⟨T,o⟩:=ex (decide (x+-y<0));rw[o]at z;rw[o];clear o;have c:=Bt c ae;obtain⟨K,P⟩:=(b0.below c).cp;obtain⟨Q,S⟩:=(j.below c).cp;obtain⟨r0,r1⟩:=(k.below c).cp;obtain⟨f0,f1⟩:=(k.below c).fp))
 all_goals go_wp2_with fail
 have Qc:=Bt l c;have Qb:=z.box (k.below c) rfl rfl (x0:=H T) (x1:=C U X W);exact BM (v:=I #[H T,C U X W]) (by simp[results,results88,go_sem,r0,r1]) rfl ⟨_,rfl,by rw[Int.sub_eq_add_neg];exact Qb,(Qc.setCell (p:=⟨_,0,none⟩) so _).setCell (p:=⟨_,1,none⟩) so _⟩
def TC(a:WO)(la j:Nat)(b:WO)(lb k m n:Nat)(w:G)(y:la+lb<=1099511627776)
(d:Row .u64 w (C a la j) (Jc O m))(f:Row .u64 w (C b lb k) (Jc O n)):
 M F 118 #[C a la j,C b lb k] w λe s=>∃u,e=.returned u/\UN s u (m*n)/\Bl w s:=by
 have q:=GT (la+lb) Z w;rw[show((la+lb:Nat):Int)=(la:Int)+(lb:Int)from by omega]at q;obtain⟨c,g⟩:∃c,c=w.alloc (L (cellsOf .u64 (WT (la+lb) 0)).toArray 163):=⟨_,rfl⟩;have i:Bl w c:=by rw[g];exact Ba w _
 have o:DU c w.heap.size (WT (la+lb) 0):=by rw[g];exact DU.made (BV w _)
 rw[<-g]at q;have t:=Ja (Rr w.heap.size (la+lb) (la+lb) (WT (la+lb) 0) a la j b lb k m n c o (λx z=>by rw[CJ z];unfold O;omega) De (Aa _) Z y (Row.below d i) (Row.below f i)
  (λp e l=>by have:=F5 d e l;omega) λp e l=>by have:=F5 f e l;omega)
 have A:=(Jn d).2.1;have B:=(Jn d).2.2.1;have D:=(Jn f).2.1;have K:=(Jn f).2.2.1;clear g o d f;go_enter func118,ntmps118
 go_wp2_with(go_at_call 153;refine t.o.mono ?_;rintro e S ⟨u,rfl,⟨r,v⟩,_,_⟩;obtain⟨P,Q,rfl⟩:=UN.form r)
 go_ret;exact⟨_,rfl,r,below_grown i v (Aa _)⟩
def YH(U W:E)(x y:Int)(w:G)(ha:Ji w U x)(hb:Ji w W y)(hl:(Jc O x.natAbs).length+(Jc O y.natAbs).length<=1099511627776):
 M F 85 #[U,W] w λe g=>∃u,e=.returned u/\Ji g u (x*y)/\Bl w g:=by
 obtain⟨a,la,m,o,j⟩:=ha;cases o;obtain⟨b,lb,n,o,B⟩:=hb;cases o;have Qc:=j.len;have Qd:=B.len;obtain⟨s,hs⟩:=ex (decide (x<0));obtain⟨t,z⟩:=ex (decide (y<0));have D:(if(!(s==t))=true then -((x.natAbs*y.natAbs:Nat):Int)else((x.natAbs*y.natAbs:Nat):Int))=x*y:=by
  rw[<-hs,<-z,<-Int.natAbs_mul];rcases Int.lt_trichotomy x 0 with d|d|d<;>rcases Int.lt_trichotomy y 0 with f|f|f
  . have:=Int.mul_pos_of_neg_of_neg d f;simp[d,f];omega
  . subst f;simp
  . have:=Int.mul_neg_of_neg_of_pos d f;have i:¬y<0:=Z
    simp[d,i];omega
  . subst d;simp
  . subst d;simp
  . subst d;simp
  . have:=Int.mul_neg_of_pos_of_neg d f;have i:¬x<0:=Z
    simp[f,i];omega
  . subst f;simp
  . have:=Int.mul_pos d f;have i:¬x<0:=Z
    have h2:¬y<0:=Z
    simp[i,h2];omega
 rw[hs,z];obtain⟨W0,r⟩:=ex (((w.alloc (L #[H s,C a la m] 36)).alloc (L #[H t,C b lb n] 36)).alloc (L #[H false,C none 0 0] 36));obtain⟨q,b0,k,l⟩:=Id r;have HT:=Ja λ(V:G) (h:Bl W0 V)=>TC a la m b lb n _ _ V Z (UN.below (UN.below j q) h) (UN.below (UN.below B q) h);have X:=Ja (λ(V:G) (u:E) (j:UN V u (x.natAbs*y.natAbs))=>show M F 112 #[H (!(s==t)),u] V λe g=>∃u,e=.returned u/\Ji g u (x*y)/\Bl V g by
  have i:=GS (!(s==t)) u _ V j;rw[D]at i;exact i)
 clear j B D hs z Qc Qd hl;go_enter func85,ntmps85
 go_wp2_with fail
 try rw[r]
 clear r;have c:Bl W0 W0.drew:=(BL _ W0).drew;obtain⟨P,Q⟩:=b0.cp;obtain⟨S,T⟩:=k.cp;have ah:¬(w.heap.size=w.heap.size+1+1):=Z
 go_region_held3 (λg=>g.cell? ⟨w.heap.size,0,none⟩=some (H s)/\g.cell? ⟨w.heap.size,1,none⟩=some (C a la m)/\g.cell? ⟨w.heap.size+1,0,none⟩=some (H t)/\g.cell? ⟨w.heap.size+1,1,none⟩=some (C b lb n)) (refine⟨?_,?_,?_,?_⟩<;>(first|(go_keep;done)|((repeat rw[JO Z]);simp[*];done)))
  (first
   |(go_at_call 118;refine(HT.o _ c).mono ?_;rintro e w1 ⟨u1,rfl,K,ad⟩;obtain⟨na,nc,rfl⟩:=UN.form K;have c:=Bt c ad;obtain⟨P,Q⟩:=(b0.below c).cp;obtain⟨S,T⟩:=(k.below c).cp)
   |(go_at_call 112;refine(X.o _ _ K).mono ?_;rintro e w2 ⟨u2,rfl,A,ae⟩;obtain⟨sa,sl,sc,rfl⟩:=A.form;obtain⟨s2,v⟩:=ex (decide (x*y<0));rw[v]at A;rw[v];clear v;have c:=Bt c ae;obtain⟨P,Q⟩:=(b0.below c).cp;obtain⟨S,T⟩:=(k.below c).cp;obtain⟨r0,r1⟩:=(l.below c).cp;obtain⟨f0,f1⟩:=(l.below c).fp))
 all_goals go_wp2_with fail
 have Qe:=Bt q c;have Qa:=A.box (l.below c) rfl rfl (x0:=H s2) (x1:=C sa sl sc);exact BM (by simp[results,results85,go_sem,r0,r1]) rfl ⟨_,rfl,Qa,(Qe.setCell (p:=⟨_,0,none⟩) so _).setCell (p:=⟨_,1,none⟩) so _⟩
section
def Dt(W:G)(b:Nat)(xs:U):Prop:=∃a:List E,W.heap[b]?=some (L (cellsOf .i64 xs++a).toArray 3 (0,0))
variable{xs:U}{b c k:Nat}
theorem Dt.lt{W:G}(h:Dt W b xs):b<W.heap.size:=by obtain⟨_,h⟩:=h;grind
theorem Dt.cell{W:G}{b:Nat}{xs:U}(h:Dt W b xs){j:Nat}(a:j<xs.length):W.cell? ⟨b,j,none⟩=some (.int .i64 (xs[j]?.getD 0:Nat)):=by
 obtain⟨c,h⟩:=h;grind[cellsOf,World.cell?]
def Dt.frozen{W:G}{b:Nat}{xs:U}(h:Dt W b xs)(j:Nat):W.frozen? ⟨b,j,none⟩=false:=by obtain⟨_,h⟩:=h;simp[World.frozen?,h]
def Dt.of_block{W W':G}(h:Dt W b xs)(e:W'.heap[b]?=W.heap[b]?):Dt W' b xs:=by obtain⟨a,h⟩:=h;exact⟨a,e.trans h⟩
def Dt.kept{W W':G}{row:Option Nat}(h:Dt W b xs)(hg:W.grownBy W' row)(a:some b≠row):Dt W' b xs:=h.of_block (hg.block b h.lt a)
def Dt.below{W W':G}(h:Dt W b xs)(a:Bl W W'):Dt W' b xs:=h.of_block (a.block b h.lt)
def Dt.alloc{W:G}{b:Nat}{xs:U}(h:Dt W b xs)(o:Obj):Dt (W.alloc o) b xs:=h.below (Ba W o)
theorem Dt.set{W:G}{b:Nat}{xs:U}(h:Dt W b xs)(j v:Nat):Dt (W.setCell ⟨b,j,none⟩ (.int .i64 (v:Nat))) b (xs.set j v):=by
 obtain⟨c,h⟩:=h;obtain⟨g,f⟩:=Ab.1 h;have e:∃a,(cellsOf .i64 xs++c).set j (.int .i64 (v:Nat))=cellsOf .i64 (xs.set j v)++a:=by
  rcases AJ j xs.length with d|d
  . exact⟨c,by grind[cellsOf,List.map_set]⟩
  . grind[Mh,Cr]
 obtain⟨a,e⟩:=e;refine⟨a,?_⟩;show(W.heap.modify b _)[b]?=_;grind
def Dt.made{W:G}(h:W.heap[b]?=some (L (cellsOf .i64 xs).toArray 3 (0,0))):Dt W b xs:=⟨[],by rw[CH];exact h⟩
def Dt.row{W:G}(h:Dt W b xs)(a len cap:Nat)(f:a+len<=xs.length)(g:len<=cap)(d:cap<=9223372036854775807)(i:len<=1099511627776):Row .i64 W (C (some ⟨b,a,none⟩) len cap) ((xs.drop a).take len):=by
 have e:((xs.drop a).take len).length=len:=by rw[Aj,AW];omega
 refine⟨_,cap,by rw[e],Z,d,Z,AE ⟨b,a,rfl,(by obtain⟨k,h⟩:=h;exact⟨_,_,h⟩),λj c=>?_⟩⟩;rw[e]at c;rw[h.cell Z,CK c,List.getElem?_drop]
theorem Lh(B:Nat):∀(D:U) (j d:Nat),j<D.length->val B (D.set j d)+B^j*D[j]?.getD 0=val B D+B^j*d
 |[],_,_,h=>by cases h
 |x::D,0,d,_=>by simp[val];omega
 |x::D,j+1,d,h=>by
  have a:=Lh B D j d (by simpa using h);grind[val]
def N6(B n:Nat):val B (WT n 0)=0:=by
 induction n with
 |zero=>rfl
 |succ n a=>rw[Co,val,a];simp
def DR.set{B:Nat}{D:U}(h:DR B D)(j:Nat){d:Nat}(b:d<B):DR B (D.set j d):=λx c=>by
 rcases List.mem_or_eq_of_mem_set c with a|a
 . exact h x a
 . rw[a];exact b
def Hp(a bs:U)(i:Nat)(D:U):Prop:=
 D.length=a.length+bs.length+1/\DR 10000 D/\val 10000 D=val 10000 (a.take i)*val 10000 bs
def FV(a bs:U)(i k c:Nat)(D:U):Prop:=
 D.length=a.length+bs.length+1/\DR 10000 D/\c<10000/\
  val 10000 D+10000^(i+k)*c=val 10000 (a.take i)*val 10000 bs+10000^i*(a[i]?.getD 0*val 10000 (bs.take k))
theorem Hp.start(a bs:U):Hp a bs 0 (WT (a.length+bs.length+1) 0):=
 ⟨AC,λx b=>by grind,by rw[N6];simp[val]⟩
theorem FV.total{a bs:U}{i:Nat}{D:U}(h:FV a bs i k c D)(d:bs.length<=k):val 10000 D+10000^(i+k)*c=val 10000 (a.take (i+1))*val 10000 bs:=by
 obtain⟨_,_,_,b⟩:=h;grind[Ad,Jk]
def FV.done{a bs:U}{i:Nat}{D:U}(h:FV a bs i k 0 D)(b:bs.length<=k):Hp a bs (i+1) D:=by
 have:=h.total b;exact⟨h.1,h.2.1,Z⟩
def FV.over{a bs:U}{i:Nat}{D:U}(h:FV a bs i k c D)(g:DR 10000 a)(j:DR 10000 bs)(n:i<a.length)(o:bs.length<k):c=0:=by
 have l:=h.total Z;have d:=JY (g.take (i+1));have e:=JY j;rw[Aj,Cq Z]at d;have f:val 10000 (a.take (i+1))*val 10000 bs<10000^(i+1)*10000^bs.length:=Nat.mul_lt_mul'' d e;rw[<-Cu]at f;have m:10000^(i+1+bs.length)<=10000^(i+k):=Am Z Z;rcases A5 c with b|b
 . exact b
 . have:=Au (10000^(i+k)) b;omega
theorem FV.step{a bs:U}{i:Nat}{D:U}(h:FV a bs i k c D)(d:DR 10000 a)(e:DR 10000 bs)(m:i+k<D.length)(c1:Nat)(l:c1=c+D[i+k]?.getD 0+a[i]?.getD 0*bs[k]?.getD 0):
 FV a bs i (k+1) (c1/10000) (D.set (i+k) (c1%10000)):=by
 obtain⟨f,b,g,j⟩:=h;have x1:=d.getD Z i;have n:=e.getD Z k;have o:=b.getD Z (i+k);have p:a[i]?.getD 0*bs[k]?.getD 0<=9999*9999:=Nat.mul_le_mul Z Z;refine⟨De,b.set _ (AY _ Z),Z,?_⟩;grind[Lh,Jk,A0]
theorem Hp.fin{a bs D:U}{m n:Nat}(h:Hp a bs a.length D)(d:a=Jc 10000 m)(e:bs=Jc 10000 n):Jw D=Jc 10000 (m*n):=by
 obtain⟨_,b,c⟩:=h;grind[JP,Jl]
theorem JF{P:Program}{ops:Array Oper}{Q:Exit->Act->G->Prop}{i:Nat}{o:Oper}{K:Act->G->Prop}{a:Act}{w:G}(b:ops[i]?=some o)(c:Region.wanted o (yielded ops a.tmps)=true)
(h:∀K':Act->G->Prop,(∀a w,K a w->K' a w)->o.wp P a w K' Q):wpOp P ops Q i K a w:=by
 grind[wpOp]
def EL{p q:Prop}(k:q)(h:Hid q->p:=by intro x;refine JF rfl rfl λK a=>?_;go_simp;refine a _ _ ?_;(repeat apply Exists.intro);refine ⟨rfl,?_⟩;exact x.o):p:=h k
end
namespace M3
section
variable {P:Program} {ops:Array Oper} {ds:List Dat} {ws:U} {J:List Bool->List Value->World->Prop} {f:Nat->Value} {V:World}
def yb:E->Option Bool
 |H b=>some b
 |_=>none
def TD{b:Bool}{P Q a Q':Prop}(h:if b=true then P else Q)(hp:P->a)(c:Q->Q'):if b=true then a else Q':=by
 cases b
 . exact c h
 . exact hp h
def Yd{o:Oper}{mk:(Nat->E)->Act}{dp:U}{x:E}(k:Nat)(b:Bool)(h:Av ds dp V f)(c:Region.wanted o (yielded ops (mk f).tmps)=(yb (f k)==some b):=by kernel_rfl)(e:ds.getD k .any=.eq x:=by rfl)(a:k∈dp:=by decide):Region.wanted o (yielded ops (mk f).tmps)=(yb x==some b):=by
 rw[c,h.e k e a]
end
end M3

