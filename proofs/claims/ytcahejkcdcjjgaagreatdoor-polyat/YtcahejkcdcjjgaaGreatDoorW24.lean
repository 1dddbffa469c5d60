import Derived.Test.YtcahejkcdcjjgaaGreatDoorW20
import Derived.Test.YtcahejkcdcjjgaaGreatDoorW15
import Derived.Test.YtcahejkcdcjjgaaGreatDoorW16
import Derived.Test.YtcahejkcdcjjgaaGreatDoorW06
import Derived.Test.YtcahejkcdcjjgaaGreatDoorW23
set_option linter.all false
open Go renaming Value->E,World->G,Calls->M,undef->R
open Go.Value renaming slice->C,bool->F,agg->I,pointer->N
open Go.Obj renaming cells->H
open Go.Proofs.Tryz renaming prog->L
set_option maxRecDepth 99999
set_option maxHeartbeats 0
namespace Go.Proofs.YtcahejkcdcjjgaaGreatDoor
open List renaming replicate->Zw
open Proofs.Tryz
open Go.RowKit Go.Shelf
attribute [local go_sem] Oper.semAt_some
def DE:=@Value.agg.injEq
def Bh:=@of_decide_eq_true
def Td(a:Zu)(cap:Nat)(w:G):
 M L 60 #[I #[F false,C a 0 cap]] w λe b=>e=.returned (.string ⟨#[48]⟩)/\Bl w b:=by
 have b0:=Ji.new w 36 (F false) (C a 0 cap);have c:=b0.c1;go_enter func60,ntmps60
 go_wp2;go_ret;exact⟨rfl,Ba w _⟩
def Te(s:Bool)(a:Zu)(l cap:Nat)(T:ByteArray)(w:G)(hl:0<l)(hT:T.size<=100000000000000)
(c:∀V,Bl w V->M L 101 #[C a l cap] V λe b=>e=.returned (.string T)/\Bl V b):
 M L 60 #[I #[F s,C a l cap]] w λe b=>e=.returned (.string (if s then(⟨#[45]⟩:ByteArray)++T else T))/\Bl w b:=by
 have b0:=Ji.new w 36 (F s) (C a l cap);have d:Bl w (w.alloc (H #[F s,C a l cap] 36)):=Ba w _;obtain⟨j,k⟩:=b0.cp;have i:¬l=0:=O
 have f:=Z c;clear c;cases s;all_goals
  go_enter func60,ntmps60
  go_wp2_with(go_at_call 101;refine(f.o _ d).mono ?_;rintro e m ⟨rfl,g⟩)
  go_ret;exact⟨DJ,Bt d g⟩
theorem X9(n:Nat):(Y0 n).length<=20*(Jb Y n).length+1:=by
 unfold Y0;split
 . simp
 . rw[Mn];have a:n<Y^(Jb Y n).length:=by
    grind[J7,Jm,Jd,Jn]
   have b:Y^(Jb Y n).length<=10^(20*(Jb Y n).length):=by
    rw[Nat.pow_mul];exact CS uo _
   have:=JE (B:=10) O (Ao a b);omega
theorem Lj(v:E)(z:Int)(w:G)(h:Jl w v z)(j:Lib.TabIs L w "internal/strconv.uint64pow10" .u64 Lib.pow10Tab):
 M L 60 #[v] w λe f=>e=.returned (.string ⟨(YL z).toArray⟩)/\Bl w f:=by
 obtain⟨a,l,cap,rfl,b⟩:=h;have hl:=b.len;by_cases c:z.natAbs=0
 . have k:z=0:=O
   subst k;have i:l=0:=by rw[hl];simp[Jv]
   subst i;exact Td a cap w
 . have g:0<l:=by rw[hl];exact K6.2 c
   refine(Te _ a l cap ⟨(Y0 z.natAbs).toArray⟩ w g (by
    have m:=X9 z.natAbs;have n:=(Jq b).2.2.2.1;show(Y0 z.natAbs).toArray.size<=_;grind) λV d=>So a l cap z.natAbs V (Row.below b d) c (JX j d)).mono ?_
   rintro e f ⟨rfl,o⟩;grind[YL,Ik]
def Jl.set{W:G}{v:E}{z:Int}(h:Jl W v z){p:Addr}{u0:E}(hp:W.cell? p=some u0)(b:Jw u0=true)(u:E):Jl (W.setCell p u) v z:=by
 obtain⟨a,l,cap,e,c⟩:=h;exact⟨a,l,cap,e,Row.set c hp b u⟩
def Jl.form{W:G}{v:E}{z:Int}(h:Jl W v z):∃a l cap,v=I #[F (decide (z<0)),C a l cap]:=by
 obtain⟨a,l,cap,e,_⟩:=h;exact⟨a,l,cap,e⟩
def Jl.alloc{W:G}{v:E}{z:Int}(h:Jl W v z)(o:Obj):Jl (W.alloc o) v z:=h.below (Ba W o)
def Jl.drew{W:G}{v:E}{z:Int}(h:Jl W v z):Jl W.drew v z:=h
def Jl.box{W:G}{R:Nat}{t:TypeId}{u0 u1 x0 x1 v:E}{z:Int}(h:Jl W v z)(q:Ji W R t u0 u1)(c:Jw u0=true)(d:Jw u1=true):Jl ((W.setCell ⟨R,0,none⟩ x0).setCell ⟨R,1,none⟩ x1) v z:=by
 obtain⟨a,l,cap,e,b⟩:=h;exact⟨a,l,cap,e,Row.set (Row.set b q.c0 c _) (u0:=u1) (q.set0 x0).c1 d _⟩
def JA(W:G)(B:Nat)(t:TypeId)(x y z u:E):Prop:=W.heap[B]?=some (H #[x,y,z,u] t (0,0))
section
variable {W W':World} {B:Nat} {t:TypeId} {x y z u:Value}
def JA.lt(h:JA W B t x y z u):B<W.heap.size:=(Ab.1 h).1
def JA.c0(h:JA W B t x y z u):W.cell? ⟨B,0,none⟩=some x:=by simp[World.cell?,show W.heap[B]?=_ from h]
def JA.c1(h:JA W B t x y z u):W.cell? ⟨B,1,none⟩=some y:=by simp[World.cell?,show W.heap[B]?=_ from h]
def JA.cp(h:JA W B t x y z u):type_of% (And.intro h.c0 h.c1):=⟨h.c0,h.c1⟩
def JA.c2(h:JA W B t x y z u):W.cell? ⟨B,2,none⟩=some z:=by simp[World.cell?,show W.heap[B]?=_ from h]
def JA.c3(h:JA W B t x y z u):W.cell? ⟨B,3,none⟩=some u:=by simp[World.cell?,show W.heap[B]?=_ from h]
def JA.cq(h:JA W B t x y z u):type_of% (And.intro h.c0 (And.intro h.c1 (And.intro h.c2 h.c3))):=⟨h.c0,h.c1,h.c2,h.c3⟩
def JA.f0(h:JA W B t x y z u):W.frozen? ⟨B,0,none⟩=false:=by simp[World.frozen?,show W.heap[B]?=_ from h]
def JA.f1(h:JA W B t x y z u):W.frozen? ⟨B,1,none⟩=false:=by simp[World.frozen?,show W.heap[B]?=_ from h]
def JA.fp(h:JA W B t x y z u):type_of% (And.intro h.f0 h.f1):=⟨h.f0,h.f1⟩
def JA.f2(h:JA W B t x y z u):W.frozen? ⟨B,2,none⟩=false:=by simp[World.frozen?,show W.heap[B]?=_ from h]
def JA.f3(h:JA W B t x y z u):W.frozen? ⟨B,3,none⟩=false:=by simp[World.frozen?,show W.heap[B]?=_ from h]
def JA.fq(h:JA W B t x y z u):type_of% (And.intro h.f0 (And.intro h.f1 (And.intro h.f2 h.f3))):=⟨h.f0,h.f1,h.f2,h.f3⟩
def JA.new(W:G)(t:TypeId)(x y z u:E):JA (W.alloc (H #[x,y,z,u] t)) W.heap.size t x y z u:=BC W _
def JA.below(h:JA W B t x y z u)(a:Bl W W'):JA W' B t x y z u:=(a.block B h.lt).trans h
def JA.alloc(h:JA W B t x y z u)(o:Obj):JA (W.alloc o) B t x y z u:=h.below (Ba W o)
def JA.drew(h:JA W B t x y z u):JA W.drew B t x y z u:=h
theorem JA.set0(h:JA W B t x y z u)(v:E):JA (W.setCell ⟨B,0,none⟩ v) B t v y z u:=by
 obtain⟨b,a⟩:=Ab.1 h;show(W.heap.modify B _)[B]?=_;grind
theorem JA.set1(h:JA W B t x y z u)(v:E):JA (W.setCell ⟨B,1,none⟩ v) B t x v z u:=by
 obtain⟨b,a⟩:=Ab.1 h;show(W.heap.modify B _)[B]?=_;grind
theorem JA.set2(h:JA W B t x y z u)(v:E):JA (W.setCell ⟨B,2,none⟩ v) B t x y v u:=by
 obtain⟨b,a⟩:=Ab.1 h;show(W.heap.modify B _)[B]?=_;grind
theorem JA.set3(h:JA W B t x y z u)(v:E):JA (W.setCell ⟨B,3,none⟩ v) B t x y z v:=by
 obtain⟨b,a⟩:=Ab.1 h;show(W.heap.modify B _)[B]?=_;grind
def JA.far(h:JA W B t x y z u){p:Addr}(hp:B≠p.block)(v:E):JA (W.setCell p v) B t x y z u:=(BE W p v B hp).trans h
end
def put4(W:G)(B:Nat)(x y z u:E):G:=(((W.setCell ⟨B,0,none⟩ x).setCell ⟨B,1,none⟩ y).setCell ⟨B,2,none⟩ z).setCell ⟨B,3,none⟩ u
def JA.put{W:G}{B:Nat}{t:TypeId}{x y z u:E}(h:JA W B t x y z u)(b c d a:E):JA (put4 W B b c d a) B t b c d a:=(((h.set0 b).set1 c).set2 d).set3 a
def JA.putFar{W:G}{B C:Nat}{t:TypeId}{x y z u:E}(h:JA W B t x y z u)(a:B≠C)(c d e b:E):JA (put4 W C c d e b) B t x y z u:=(((h.far a c).far a d).far a e).far a b
def Ji.putFar{W:G}{B C:Nat}{t:TypeId}{x y:E}(h:Ji W B t x y)(a:B≠C)(c d e b:E):Ji (put4 W C c d e b) B t x y:=(((h.far a c).far a d).far a e).far a b
def Jo{n B:Nat}{w W:G}(h:Below n w W)(a:n<=B)(x y z u:E):Below n w (put4 W B x y z u):=(((h.setCell (p:=⟨B,0,none⟩) a _).setCell (p:=⟨B,1,none⟩) a _).setCell (p:=⟨B,2,none⟩) a _).setCell (p:=⟨B,3,none⟩) a _
def Row.put4{k:IntKind}{W:G}{v:E}{ds:Ja}(h:Row k W v ds){B:Nat}{t:TypeId}{x y z u:E}(q:JA W B t x y z u)(d:Jw x=true)(e:Jw y=true)(f:Jw z=true)(g:Jw u=true)(a b c i:E):Row k (put4 W B a b c i) v ds:=
 Row.set (Row.set (Row.set (Row.set h q.c0 d _) (q.set0 a).c1 e _) ((q.set0 a).set1 b).c2 f _) (((q.set0 a).set1 b).set2 c).c3 g _
def Jl.put4{W:G}{v:E}{i:Int}(h:Jl W v i){B:Nat}{t:TypeId}{x y z u:E}(q:JA W B t x y z u)(c:Jw x=true)(d:Jw y=true)(f:Jw z=true)(g:Jw u=true)(k m n j:E):Jl (put4 W B k m n j) v i:=by
 obtain⟨a,l,cap,e,b⟩:=h;exact⟨a,l,cap,e,Row.put4 b q c d f g _ _ _ _⟩
def Jr.put4{W:G}{v:E}{i:Int}(h:Jr W v i){B:Nat}{t:TypeId}{x y z u:E}(q:JA W B t x y z u)(c:Jw x=true)(d:Jw y=true)(f:Jw z=true)(g:Jw u=true)(k m n j:E):Jr (put4 W B k m n j) v i:=by
 obtain⟨a,l,cap,e,b⟩:=h;exact⟨a,l,cap,e,Row.put4 b q c d f g _ _ _ _⟩
def Jk(W:G)(v:E)(q:Rat):Prop:=∃s a l c t b k d,v=I #[F s,C a l c,F t,C b k d]/\Jl W (I #[F s,C a l c]) q.num/\Jl W (I #[F t,C b k d]) (denZ q)
def Jk.below{W W':G}{v:E}{q:Rat}(h:Jk W v q)(f:Bl W W'):Jk W' v q:=by
 obtain⟨s,a,l,c,t,b,k,d,e,g,i⟩:=h;exact⟨s,a,l,c,t,b,k,d,e,g.below f,i.below f⟩
def Jk.put4{W:G}{v:E}{p:Rat}(h:Jk W v p){B:Nat}{t:TypeId}{x y z u:E}(q:JA W B t x y z u)(f:Jw x=true)(g:Jw y=true)(i:Jw z=true)(j:Jw u=true)(r w A o:E):Jk (put4 W B r w A o) v p:=by
 obtain⟨s,a,l,c,t,b,k,d,e,m,n⟩:=h;exact⟨s,a,l,c,t,b,k,d,e,m.put4 q f g i j _ _ _ _,n.put4 q f g i j _ _ _ _⟩
def Jj(W:G)(v:E)(q:Rat):Prop:=∃a l c s b k d t,v=I #[C a l c,F s,C b k d,F t]/\Jr W (I #[C a l c,F s]) q.num/\Jr W (I #[C b k d,F t]) (q.den:Int)
def Jj.below{W W':G}{v:E}{q:Rat}(h:Jj W v q)(f:Bl W W'):Jj W' v q:=by
 obtain⟨s,a,l,c,t,b,k,d,e,g,i⟩:=h;exact⟨s,a,l,c,t,b,k,d,e,g.below f,i.below f⟩
def Jj.put4{W:G}{v:E}{p:Rat}(h:Jj W v p){B:Nat}{t:TypeId}{x y z u:E}(q:JA W B t x y z u)(f:Jw x=true)(g:Jw y=true)(i:Jw z=true)(j:Jw u=true)(r w A o:E):Jj (put4 W B r w A o) v p:=by
 obtain⟨s,a,l,c,t,b,k,d,e,m,n⟩:=h;exact⟨s,a,l,c,t,b,k,d,e,m.put4 q f g i j _ _ _ _,n.put4 q f g i j _ _ _ _⟩
section
def YP(W:G)(v:E)(x y:Int):Prop:=∃s a l c t b k d,v=I #[F s,C a l c,F t,C b k d]/\Jl W (I #[F s,C a l c]) x/\Jl W (I #[F t,C b k d]) y
variable{cs:Array E}{r:Bool}{qs:K}{b j n:Nat}{m:Nat × Nat}{V':G}
def Jk.pair{W:G}{v:E}{q:Rat}(h:Jk W v q):YP W v q.num (denZ q):=h
theorem YP.form{W:G}{v:E}{x y:Int}(h:YP W v x y):∃s a l c t b k d,v=I #[F s,C a l c,F t,C b k d]:=by
 obtain⟨s,a,l,c,t,b,k,d,e,_⟩:=h;grind
def YP.below{W W':G}{v:E}{x y:Int}(h:YP W v x y)(f:Bl W W'):YP W' v x y:=by
 obtain⟨s,a,l,c,t,b,k,d,e,g,i⟩:=h;exact⟨s,a,l,c,t,b,k,d,e,g.below f,i.below f⟩
def YP.keep{V:G}{v:E}{x y:Int}(h:YP V v x y)(f:∀k v ds,Row k V v ds->Row k V' v ds):YP V' v x y:=by
 obtain⟨s,a,l,c,t,b,k,d,e,⟨g,p,c1,j,n⟩,⟨i,q,c2,m,o⟩⟩:=h;exact⟨s,a,l,c,t,b,k,d,e,⟨g,p,c1,j,f _ _ _ n⟩,⟨i,q,c2,m,f _ _ _ o⟩⟩
def Jj.keep{V:G}{v:E}{q:Rat}(h:Jj V v q)(f:∀k v ds,Row k V v ds->Row k V' v ds):Jj V' v q:=by
 obtain⟨s,a,l,c,t,b,k,d,e,⟨g,p,c1,j,n⟩,⟨i,r,c2,m,o⟩⟩:=h;exact⟨s,a,l,c,t,b,k,d,e,⟨g,p,c1,j,f _ _ _ n⟩,⟨i,r,c2,m,f _ _ _ o⟩⟩
theorem Tf{α:Type}(l:List α)(x y:α):(l++[x]).set l.length y=l++[y]:=by
 grind
theorem Jl.form2{W:G}{v:E}{z:Int}(h:Jl W v z):∃s a l c,v=I #[F s,C a l c]:=by
 obtain⟨a,l,c,e,_⟩:=h;grind
theorem Jr.form2{W:G}{v:E}{z:Int}(h:Jr W v z):∃a l c s,v=I #[C a l c,F s]:=by
 obtain⟨a,l,c,e,_⟩:=h;grind
theorem Jk.form{W:G}{v:E}{q:Rat}(h:Jk W v q):∃s a l c t b k d,v=I #[F s,C a l c,F t,C b k d]:=by
 obtain⟨s,a,l,c,t,b,k,d,e,_⟩:=h;grind
theorem Jj.form{W:G}{v:E}{q:Rat}(h:Jj W v q):∃a l c s b k d t,v=I #[C a l c,F s,C b k d,F t]:=by
 obtain⟨s,a,l,c,t,b,k,d,e,_⟩:=h;grind
theorem EN(W:G):Jl W (I #[F false,C Option.none 0 0]) 0:=
 ⟨Option.none,0,0,DJ,by grind[UN,Jv,Row.nil]⟩
theorem N9(W:G):Jr W (I #[C Option.none 0 0,F false]) 0:=
 ⟨Option.none,0,0,DJ,by grind[RN,Jv,Row.nil]⟩
def D9(W:G):Jk W (I #[F false,C Option.none 0 0,F false,C Option.none 0 0]) 0:=⟨_,_,_,_,_,_,_,_,rfl,EN W,EN W⟩
def Dk(r:Bool)(W:G)(v:E)(q:Rat):Prop:=match r with|true=>Jk W v q|false=>Jj W v q
def Dj(r:Bool):TypeId:=match r with|true=>38|false=>49
def Dk.below{r:Bool}{W W':G}{v:E}{q:Rat}(h:Dk r W v q)(a:Bl W W'):Dk r W' v q:=by
 cases r with
 |true=>exact Jk.below h a
 |false=>exact Jj.below h a
def Dk.keep{r:Bool}{W W':G}{v:E}{q:Rat}(h:Dk r W v q)(a:∀k v ds,Row k W v ds->Row k W' v ds):Dk r W' v q:=by
 cases r with
 |true=>exact YP.keep h a
 |false=>exact Jj.keep h a
def Dk.form{W:G}{v:E}{q:Rat}(h:Dk r W v q):∃x y z u,v=I #[x,y,z,u]/\Jw x=true/\Jw y=true/\Jw z=true/\Jw u=true:=by
 cases r with
 |true=>
  obtain⟨s,a,l,c,t,b,k,d,e,_⟩:=(show Jk W v q from h);exact⟨_,_,_,_,e,rfl,rfl,rfl,rfl⟩
 |false=>
  obtain⟨s,a,l,c,t,b,k,d,e,_⟩:=(show Jj W v q from h);exact⟨_,_,_,_,e,rfl,rfl,rfl,rfl⟩
theorem Dk.no{W:G}{x y z u:E}{q:Rat}(h:Dk r W (I #[x,y,z,u]) q):Jw x=true/\Jw y=true/\Jw z=true/\Jw u=true:=by
 obtain⟨g,i,j,f,e,a,b,c,d⟩:=h.form;grind
theorem Dk.one{W:G}{x y z u:E}{q:Rat}(h:Dk r W (I #[x,y,z,u]) q):∀v∈[x,y,z,u],v.oneCell'=true:=by
 cases r with
 |true=>
  obtain⟨s,a,l,c,t,b,k,d,e,_⟩:=(show Jk W _ q from h);cases e;intro v f;simp at f;rcases f with rfl|rfl|rfl|rfl<;>rfl
 |false=>
  obtain⟨s,a,l,c,t,b,k,d,e,_⟩:=(show Jj W _ q from h);cases e;intro v f;simp at f;rcases f with rfl|rfl|rfl|rfl<;>rfl
def De(r:Bool)(W:G)(b:Nat)(qs:K):Prop:=
 ∃cs:Array E,W.heap[b]?=some (H cs (Dj r) (0,0))/\∀j,j<qs.length->∃x y z u,cs[j*4]?=some x/\cs[j*4+1]?=some y/\cs[j*4+2]?=some z/\cs[j*4+3]?=some u/\Dk r W (I #[x,y,z,u]) (cf qs j)
theorem De.lt{W:G}(h:De r W b qs):b<W.heap.size:=by obtain⟨cs,h,_⟩:=h;grind
def De.below{r:Bool}{W W':G}{b:Nat}{qs:K}(h:De r W b qs)(a:Bl W W'):De r W' b qs:=by
 have hl:=h.lt;obtain⟨cs,g,i⟩:=h;refine⟨cs,(a.block b hl).trans g,λj l=>?_⟩;obtain⟨x,y,z,u,c,d,e,f,k⟩:=i j l;exact⟨x,y,z,u,c,d,e,f,k.below a⟩
def De.keep{r:Bool}{W W':G}{b:Nat}{qs:K}(h:De r W b qs)(l:W'.heap[b]?=W.heap[b]?)(n:∀k v ds,Row k W v ds->Row k W' v ds):De r W' b qs:=by
 obtain⟨cs,f,g⟩:=h;refine⟨cs,l.trans f,λj m=>?_⟩;obtain⟨x,y,z,u,a,c,d,e,i⟩:=g j m;exact⟨x,y,z,u,a,c,d,e,i.keep n⟩
def De.alloc{r:Bool}{W:G}{b:Nat}{qs:K}(h:De r W b qs)(o:Obj):De r (W.alloc o) b qs:=h.below (Ba W o)
theorem De.take{r:Bool}{W:G}{b:Nat}{qs:K}(h:De r W b qs)(n:Nat):De r W b (qs.take n):=by
 obtain⟨cs,a,c⟩:=h;refine⟨cs,a,λj d=>?_⟩;rw[Ai]at d;obtain⟨x,y,z,u,e,f,g,i,k⟩:=c j O;grind[Kh]
theorem De.at{W:G}(h:De r W b qs)(d:j<qs.length):
 ∃x y z u,W.cell? ⟨b,j*4,none⟩=some x/\W.cell? ⟨b,j*4+1,none⟩=some y/\W.cell? ⟨b,j*4+2,none⟩=some z/\W.cell? ⟨b,j*4+3,none⟩=some u/\Dk r W (I #[x,y,z,u]) (cf qs j):=by
 obtain⟨cs,a,c⟩:=h;grind[World.cell?]
def De.frozen{r:Bool}{W:G}{b:Nat}{qs:K}(h:De r W b qs)(o:Nat):W.frozen? ⟨b,o,none⟩=false:=by obtain⟨cs,a,_⟩:=h;simp[World.frozen?,a]
def putAt(W:G)(b o:Nat)(x y z u:E):G:=(((W.setCell ⟨b,o,none⟩ x).setCell ⟨b,o+1,none⟩ y).setCell ⟨b,o+2,none⟩ z).setCell ⟨b,o+3,none⟩ u
theorem JJ{W:G}{o:Nat}{t:TypeId}(h:W.heap[b]?=some (H cs t m))(v:E):(W.setCell ⟨b,o,none⟩ v).heap[b]?=some (H (cs.setIfInBounds o v) t m):=by
 obtain⟨c,a⟩:=Ab.1 h;show(W.heap.modify b _)[b]?=_;grind
def Tg{W:G}{o:Nat}{t:TypeId}(h:W.heap[b]?=some (H cs t m))(x y z u:E):(putAt W b o x y z u).heap[b]?=some (H ((((cs.setIfInBounds o x).setIfInBounds (o+1) y).setIfInBounds (o+2) z).setIfInBounds (o+3) u) t m):=
 JJ (JJ (JJ (JJ h x) y) z) u
def Lk{W:G}{o B:Nat}(a:B≠b)(x y z u:E):(putAt W b o x y z u).heap[B]?=W.heap[B]?:=
 (BE _ _ _ B a).trans ((BE _ _ _ B a).trans ((BE _ _ _ B a).trans (BE _ _ _ B a)))
def OA{o:Nat}{w W:G}(h:Below n w W)(a:n<=b)(x y z u:E):Below n w (putAt W b o x y z u):=
 (((h.setCell (p:=⟨b,o,none⟩) a _).setCell (p:=⟨b,o+1,none⟩) a _).setCell (p:=⟨b,o+2,none⟩) a _).setCell (p:=⟨b,o+3,none⟩) a _
theorem cell_of{W:G}{o:Nat}{t:TypeId}{x:E}(h:W.heap[b]?=some (H cs t m))(e:cs[o]?=some x):W.cell? ⟨b,o,none⟩=some x:=by simp[World.cell?,h,e]
def Th{W:G}{o:Nat}{t:TypeId}{x0 a z0 u0:E}(h:W.heap[b]?=some (H cs t m))(c:cs[o]?=some x0)(d:cs[o+1]?=some a)(e:cs[o+2]?=some z0)(f:cs[o+3]?=some u0)
(i:Jw x0=true)(j:Jw a=true)(l:Jw z0=true)(n:Jw u0=true)(x y z u:E):∀k v ds,Row k W v ds->Row k (putAt W b o x y z u) v ds:=λk v ds g=>by
 have c1:((cs.setIfInBounds o x))[o+1]?=some a:=by rw[Ad O];exact d
 have c2:(((cs.setIfInBounds o x).setIfInBounds (o+1) y))[o+2]?=some z0:=by rw[Ad O,Ad O];exact e
 have c3:((((cs.setIfInBounds o x).setIfInBounds (o+1) y).setIfInBounds (o+2) z))[o+3]?=some u0:=by rw[Ad O,Ad O,Ad O];exact f
 exact Row.set (Row.set (Row.set (Row.set g (cell_of h c) i _) (cell_of (JJ h x) c1) j _) (cell_of (JJ (JJ h x) y) c2) l _) (cell_of (JJ (JJ (JJ h x) y) z) c3) n _
def De.putKeep{W:G}(h:De r W b qs)(l:j<qs.length)(x y z u:E):∀k v ds,Row k W v ds->Row k (putAt W b (j*4) x y z u) v ds:=by
 obtain⟨cs,f,g⟩:=h;obtain⟨x0,q,z0,u0,a,c,d,e,i⟩:=g j l;obtain⟨m,n,o,p⟩:=i.no;exact Th f a c d e m n o p x y z u
theorem De.set{r:Bool}{W:G}{b:Nat}{qs:List Rat}(h:De r W b qs){j:Nat}(a:j<qs.length){x y z u:E}{q:Rat}(v:Dk r W (I #[x,y,z,u]) q):De r (putAt W b (j*4) x y z u) b (qs.set j q):=by
 have f:=h.putKeep a x y z u;obtain⟨cs,s,c⟩:=h;obtain⟨x0,Q,z0,u0,m,n,o,p,B⟩:=c j a;refine⟨_,Tg s x y z u,λi d=>?_⟩;rw[CM]at d;have g:=(Ab.1 m).1;have D:=(Ab.1 n).1;have K:=(Ab.1 o).1;have P:=(Ab.1 p).1;by_cases e:i=j
 . subst e;refine⟨x,y,z,u,?_,?_,?_,?_,?_⟩
   . rw[Ad O,Ad O,Ad O,Array.getElem?_setIfInBounds_self_of_lt g]
   . grind[Ad,Array.getElem?_setIfInBounds_self_of_lt]
   . grind
   . grind
   . rw[XS _ _ _ _ a,BL rfl];exact v.keep f
 . obtain⟨x1,w,A,u1,d0,d1,k,l,t⟩:=c i d;refine⟨x1,w,A,u1,?_,?_,?_,?_,?_⟩
   . rw[Ad O,Ad O,Ad O,Ad O];exact d0
   . rw[Ad O,Ad O,Ad O,Ad O];exact d1
   . rw[Ad O,Ad O,Ad O,Ad O];exact k
   . rw[Ad O,Ad O,Ad O,Ad O];exact l
   . rw[XS _ _ _ _ a,BH e];exact t.keep f
def RowK(r:Bool)(W:G)(v:E)(qs:K):Prop:=
 ∃a cap,v=C a qs.length cap/\qs.length<=cap/\cap<=9223372036854775807/\qs.length<=1099511627776/\(qs=[]\/∃b,a=some ⟨b,0,none⟩/\De r W b qs)
def RowK.below{r:Bool}{W W':G}{v:E}{qs:K}(h:RowK r W v qs)(k:Bl W W'):RowK r W' v qs:=by
 obtain⟨a,cap,e,f,g,i,c⟩:=h;refine⟨a,cap,e,f,g,i,?_⟩;rcases c with c|⟨b,d,j⟩
 . exact Ar c
 . exact Ax ⟨b,d,j.below k⟩
theorem RowK.nil(r:Bool)(W:G):RowK r W (C none 0 0) []:=⟨none,0,rfl,Aa _,O,DJ,Ar rfl⟩
def De.row{W:G}(h:De r W b qs){cap:Nat}(d:n<=qs.length)(c:n<=cap)(a:cap<=9223372036854775807)(hl:n<=1099511627776):RowK r W (C (some ⟨b,0,none⟩) n cap) (qs.take n):=by
 have e:(qs.take n).length=n:=by rw[Ai];omega
 exact⟨_,cap,by rw[e],O,a,O,Ax ⟨b,rfl,h.take n⟩⟩
theorem RowK.open{W:G}{v:E}(h:RowK r W v qs):∃a cap,v=C a qs.length cap/\qs.length<=cap/\cap<=9223372036854775807/\qs.length<=1099511627776/\
 Hid (∀j,j<qs.length->∃b,a=some ⟨b,0,none⟩/\De r W b qs):=by
 obtain⟨a,cap,e,c,d,f,g⟩:=h;refine⟨a,cap,e,c,d,f,λj i=>?_⟩;grind
def RowK.take{r:Bool}{W:G}{a:Zu}{l cap:Nat}{qs:K}(h:RowK r W (C a l cap) qs){n:Nat}(o:n<=l):RowK r W (C a n cap) (qs.take n):=by
 obtain⟨i,j,e,k,f,m,c⟩:=h;cases e;have e:(qs.take n).length=n:=by rw[Ai];omega
 refine⟨a,cap,by rw[e],O,f,O,?_⟩;rcases c with c|⟨b,d,g⟩
 . left;rw[c];simp
 . exact Ax ⟨b,d,g.take n⟩
def JB(W:G)(v:E)(ps:K):Prop:=∃u,v=I #[u]/\RowK true W u ps
def JB.below{W W':G}{v:E}{ps:K}(h:JB W v ps)(b:Bl W W'):JB W' v ps:=by
 obtain⟨u,e,a⟩:=h;exact⟨u,e,a.below b⟩
def RowK.form{W:G}{v:E}(h:RowK r W v qs):∃a l c,v=C a l c:=by
 obtain⟨a,cap,e,_⟩:=h;exact⟨a,_,cap,e⟩
def JB.form{W:G}{v:E}{ps:K}(h:JB W v ps):∃a l c,v=I #[C a l c]:=by
 obtain⟨u,e,b⟩:=h;obtain⟨a,l,c,rfl⟩:=b.form;exact⟨a,l,c,e⟩
def JB.row{W:G}{a:Zu}{l c:Nat}{ps:K}(h:JB W (I #[C a l c]) ps):RowK true W (C a l c) ps:=by
 obtain⟨u,e,b⟩:=h;cases e;exact b
structure Sqs(qs:K):Prop where
 all:∀i,Sq (cf qs i)
def Sqs.at(h:Sqs qs)(i:Nat):Sq (cf qs i):=h.all i
theorem Sqs.of(h:∀i,Sq (cf qs i)):Sqs qs:=⟨h⟩
def YI(r:Bool)(W:G)(cs:List E)(qs:K):Prop:=
 cs.length=qs.length*4/\∀j,j<qs.length->∃x y z u,cs[j*4]?=some x/\cs[j*4+1]?=some y/\cs[j*4+2]?=some z/\cs[j*4+3]?=some u/\Dk r W (I #[x,y,z,u]) (cf qs j)
theorem YI.nil(r:Bool)(W:G):YI r W [] []:=⟨rfl,λj a=>by simp at a⟩
def YI.below{r:Bool}{W W':G}{cs:List E}{qs:K}(h:YI r W cs qs)(f:Bl W W'):YI r W' cs qs:=by
 refine⟨h.1,λj g=>?_⟩;obtain⟨x,y,z,u,a,b,c,d,e⟩:=h.2 j g;exact⟨x,y,z,u,a,b,c,d,e.below f⟩
def YI.keep{r:Bool}{W W':G}{cs:List E}{qs:K}(h:YI r W cs qs)(g:∀k v ds,Row k W v ds->Row k W' v ds):YI r W' cs qs:=by
 refine⟨h.1,λj f=>?_⟩;obtain⟨x,y,z,u,a,b,c,d,e⟩:=h.2 j f;exact⟨x,y,z,u,a,b,c,d,e.keep g⟩
theorem YI.one{r:Bool}{W:G}{cs:List E}{qs:K}(h:YI r W cs qs):∀v∈cs,v.oneCell'=true:=by
 intro v b;obtain⟨k,i,rfl⟩:=List.mem_iff_getElem.1 b;have hl:=h.1;obtain⟨x,y,z,u,c,d,e,f,a⟩:=h.2 (k/4) O;have g:=a.one;grind
theorem YI.snoc{W:G}{cs:List E}(h:YI r W cs qs){x y z u:E}{q:Rat}(d:Dk r W (I #[x,y,z,u]) q):YI r W (cs++[x,y,z,u]) (qs++[q]):=by
 have hl:=h.1;refine⟨by simp;omega,λj b=>?_⟩;rw[AE,List.length_singleton]at b;by_cases c:j<qs.length
 . obtain⟨m,n,o,l,e,f,g,i,k⟩:=h.2 j c;grind[Kg]
 . have a:j=qs.length:=O
   subst a;refine⟨x,y,z,u,?_,?_,?_,?_,?_⟩
   . grind
   . grind
   . grind
   . grind
   . rw[Kg,BL rfl];exact d
theorem De.cells{W:G}(h:De r W b qs):∃cs,YI r W cs qs/\∀j u,cs[j]?=some u->W.cell? ⟨b,j,none⟩=some u:=by
 obtain⟨a,m,c⟩:=h;have p:qs.length*4<=a.size:=by
  cases o:qs.length with
  |zero=>omega
  |succ n=>
   obtain⟨x,y,z,u,_,_,_,d,_⟩:=c n O;grind
 refine⟨a.toList.take (qs.length*4),⟨DY,λj g=>?_⟩,λj u e=>?_⟩
 . obtain⟨x,y,z,u,i,k,l,d,f⟩:=c j g;refine⟨x,y,z,u,?_,?_,?_,?_,f⟩
   . grind
   . grind
   . grind
   grind
 grind[cell_of]
theorem RowK.owns{W:G}{e:Nat}{v:E}{cs:List E}(h:W.ownsRow e (Dj r) 4 v n cs)(i:YI r W cs qs)(hl:qs.length<=1099511627776):RowK r W v qs/\n=qs.length/\(v=C none 0 0\/∃g cap,v=C (some ⟨g,0,none⟩) n cap/\e<=g/\De r W g qs):=by
 obtain⟨A,l⟩:=h;have s:n=qs.length:=by have:=i.1;omega
 subst s;rcases l with⟨rfl,w⟩|⟨g,cap,k,rfl,o,hg,hle,q,B,t⟩
 . grind[RowK.nil]
 . have f:De r W g qs:=by
    refine⟨k,hg,λj p=>?_⟩;obtain⟨x,y,z,u,a,b,c,d,m⟩:=i.2 j p;rw[<-t]at a b c d;rw[Cj O,CK]at a b c d;exact⟨x,y,z,u,a,b,c,d,m⟩
   refine⟨⟨_,cap,rfl,hle,by unfold maxLen at q;omega,hl,Ax ⟨g,rfl,f⟩⟩,rfl,Ax ⟨g,cap,rfl,o,f⟩⟩
section
variable {V:World} {B:Nat} {t:TypeId} {x y z u:Value}
def Ji.ka(h:Ji V B t x y):V.cell? ⟨B,0,none⟩=some x/\V.cell? ⟨B,1,none⟩=some y:=⟨h.c0,h.c1⟩
def Ji.fa(h:Ji V B t x y):V.frozen? ⟨B,0,none⟩=false/\V.frozen? ⟨B,1,none⟩=false:=⟨h.f0,h.f1⟩
def JA.kb(h:JA V B t x y z u):V.cell? ⟨B,0,none⟩=some x/\V.cell? ⟨B,1,none⟩=some y/\V.cell? ⟨B,2,none⟩=some z/\V.cell? ⟨B,3,none⟩=some u:=⟨h.c0,h.c1,h.c2,h.c3⟩
def JA.fb(h:JA V B t x y z u):V.frozen? ⟨B,0,none⟩=false/\V.frozen? ⟨B,1,none⟩=false/\V.frozen? ⟨B,2,none⟩=false/\V.frozen? ⟨B,3,none⟩=false:=⟨h.f0,h.f1,h.f2,h.f3⟩
end
end
namespace M3
structure Dat where
 ty:TypeId
 has:World->Value->Prop
 noPoly:Bool
 below:∀ {V V':World} {v:Value},has V v->Bl V V'->has V' v
 keep:∀ {V V':World} {v:Value},has V v->(∀k v ds,Row k V v ds->Row k V' v ds)->(noPoly=true\/∀v qs,RowK true V v qs->RowK true V' v qs)->has V' v
def Dat.int(z:Int):Dat where
 ty:=36
 has V v:=Jl V v z
 noPoly:=true
 below h hb:=Jl.below h hb
 keep h hk _:=by
  obtain⟨a,l,c,e,b⟩:=h;exact⟨a,l,c,e,hk _ _ _ b⟩
def Dat.rat(q:Rat):Dat where
 ty:=38
 has V v:=Jk V v q
 noPoly:=true
 below h hb:=Jk.below h hb
 keep h hk _:=YP.keep h hk
def Dat.big(z:Int):Dat where
 ty:=47
 has V v:=Jr V v z
 noPoly:=true
 below h hb:=Jr.below h hb
 keep h hk _:=by
  obtain⟨a,l,c,e,b⟩:=h;exact⟨a,l,c,e,hk _ _ _ b⟩
def Dat.ref(q:Rat):Dat where
 ty:=49
 has V v:=Jj V v q
 noPoly:=true
 below h hb:=Jj.below h hb
 keep h hk _:=Jj.keep h hk
def Dat.zref:Dat where
 ty:=49
 has _ v:=v=I #[C none 0 0,F false,C none 0 0,F false]
 noPoly:=true
 below h _:=h
 keep h _ _:=h
def Dat.pair(x y:Int):Dat where
 ty:=38
 has V v:=YP V v x y
 noPoly:=true
 below h hb:=YP.below h hb
 keep h hk _:=YP.keep h hk
def Dat.rats(qs:K):Dat where
 ty:=38
 has V v:=∃cs,v=I cs/\∀j,j<qs.length->∃x y z u,cs[j*4]?=some x/\cs[j*4+1]?=some y/\cs[j*4+2]?=some z/\cs[j*4+3]?=some u/\Dk true V (I #[x,y,z,u]) (cf qs j)
 noPoly:=true
 below h hb:=by
  obtain⟨cs,e,h⟩:=h;refine⟨cs,e,λj g=>?_⟩;obtain⟨x,y,z,u,a,b,c,d,f⟩:=h j g;exact⟨x,y,z,u,a,b,c,d,f.below hb⟩
 keep h hk _:=by
  obtain⟨cs,e,h⟩:=h;refine⟨cs,e,λj g=>?_⟩;obtain⟨x,y,z,u,a,b,c,d,f⟩:=h j g;exact⟨x,y,z,u,a,b,c,d,f.keep hk⟩
def Dat.cell(t:TypeId)(x:E):Dat where
 ty:=t
 has _ v:=v=I #[x]/\Jw x=true
 noPoly:=true
 below h _:=h
 keep h _ _:=h
def Has(V:G)(v:E)(d:Dat):Prop:=d.has V v
def Has.below{V V':G}{v:E}{d:Dat}(h:Has V v d)(a:Bl V V'):Has V' v d:=d.below h a
def Has.alloc{V:G}{v:E}{d:Dat}(h:Has V v d)(o:Obj):Has (V.alloc o) v d:=h.below (Ba V o)
def Has.keep{V V':G}{v:E}{d:Dat}(h:Has V v d)(a:∀k v ds,Row k V v ds->Row k V' v ds)(hp:d.noPoly=true\/∀v qs,RowK true V v qs->RowK true V' v qs):Has V' v d:=d.keep h a hp
def Bx(V:G)(B:Nat)(t:TypeId)(cs:Array E):Prop:=V.heap[B]?=some (H cs t (0,0))
variable{cs:Array E}{r:Bool}{d:Dat}{x0:E}{V':G}
def Bx.lt{V:G}{B:Nat}{t:TypeId}(h:Bx V B t cs):B<V.heap.size:=(Ab.1 h).1
def Bx.below{V:G}{B:Nat}{t:TypeId}(h:Bx V B t cs)(a:Bl V V'):Bx V' B t cs:=(a.block B h.lt).trans h
def Bx.far{V:G}{B:Nat}{t:TypeId}(h:Bx V B t cs){p:Addr}(hp:B≠p.block)(u:E):Bx (V.setCell p u) B t cs:=(BE V p u B hp).trans h
def Bx.f{V:G}{B:Nat}{t:TypeId}(h:Bx V B t cs)(i:Nat):V.frozen? ⟨B,i,Option.none⟩=false:=by simp[World.frozen?,show V.heap[B]?=_ from h]
def Bx.all{V:G}{B:Nat}{t:TypeId}(h:Bx V B t cs):∀i,V.cell? ⟨B,i,Option.none⟩=cs[i]?:=λi=>by simp[World.cell?,show V.heap[B]?=_ from h]
def noPoly:List (Option (Nat × Dat))->Bool
 |[]=>true
 |some (_,d)::t=>d.noPoly&&noPoly t
 |Option.none::t=>noPoly t
theorem OB{bs:List (Option (Nat × Dat))}(h:noPoly bs=true){i:Nat}{x:Nat × Dat}(e:bs[i]?=some (some x)):x.2.noPoly=true:=by
 induction bs generalizing i with
 |nil=>simp at e
 |cons b t a=>
  cases b with
  |none=>
   cases i with
   |zero=>simp at e
   |succ i=>exact a h (by simpa using e)
  |some y=>
   grind[noPoly]
def DL(w V:G)(bs:List (Option (Nat × Dat))):Prop:=
 (∀(i:Nat) B d,bs[i]?=some (some (B,d))->(∃cs,Bx V B d.ty cs/\Has V (I cs) d)/\w.heap.size<=B)/\
 (∀(i j:Nat) B d a,bs[i]?=some (some (B,d))->bs[j]?=some (some (B,a))->i=j)/\Bl w V
theorem DL.nil(w:G):DL w w []:=⟨λi B z h=>by simp at h,λi j B z a h=>by simp at h,BB _ w⟩
def DL.int{w V:G}{bs:List (Option (Nat × Dat))}(M:DL w V bs){i B:Nat}{z:Int}(h:bs[i]?=some (some (B,.int z))):∃s a l c,Ji V B 36 (F s) (C a l c)/\Jl V (I #[F s,C a l c]) z:=by
 obtain⟨⟨cs,b,d⟩,_⟩:=M.1 i B _ h;obtain⟨a,l,c,e,f⟩:=d;cases e;exact⟨_,a,l,c,b,a,l,c,rfl,f⟩
def DL.big{w V:G}{bs:List (Option (Nat × Dat))}(M:DL w V bs){i B:Nat}{z:Int}(h:bs[i]?=some (some (B,.big z))):∃a l c s,Ji V B 47 (C a l c) (F s)/\Jr V (I #[C a l c,F s]) z:=by
 obtain⟨⟨cs,b,d⟩,_⟩:=M.1 i B _ h;obtain⟨a,l,c,e,f⟩:=d;cases e;exact⟨a,l,c,_,b,a,l,c,rfl,f⟩
def DL.rat{w V:G}{bs:List (Option (Nat × Dat))}(M:DL w V bs){i B:Nat}{q:Rat}(h:bs[i]?=some (some (B,.rat q))):
 ∃s a l c t b k d,JA V B 38 (F s) (C a l c) (F t) (C b k d)/\Jk V (I #[F s,C a l c,F t,C b k d]) q/\Jl V (I #[F s,C a l c]) q.num/\Jl V (I #[F t,C b k d]) (denZ q):=by
 obtain⟨⟨cs,m,f⟩,_⟩:=M.1 i B _ h;have n:=f;obtain⟨s,a,l,c,t,b,k,d,e,g,j⟩:=f;cases e;exact⟨s,a,l,c,t,b,k,d,m,n,g,j⟩
def DL.pair{w V:G}{bs:List (Option (Nat × Dat))}(M:DL w V bs){i B:Nat}{x y:Int}(h:bs[i]?=some (some (B,.pair x y))):
 ∃s a l c t b k d,JA V B 38 (F s) (C a l c) (F t) (C b k d)/\YP V (I #[F s,C a l c,F t,C b k d]) x y/\Jl V (I #[F s,C a l c]) x/\Jl V (I #[F t,C b k d]) y:=by
 obtain⟨⟨cs,m,f⟩,_⟩:=M.1 i B _ h;have n:=f;obtain⟨s,a,l,c,t,b,k,d,e,g,j⟩:=f;cases e;exact⟨s,a,l,c,t,b,k,d,m,n,g,j⟩
def DL.ref{w V:G}{bs:List (Option (Nat × Dat))}(M:DL w V bs){i B:Nat}{q:Rat}(h:bs[i]?=some (some (B,.ref q))):
 ∃a l c s b k d t,JA V B 49 (C a l c) (F s) (C b k d) (F t)/\Jj V (I #[C a l c,F s,C b k d,F t]) q/\Jr V (I #[C a l c,F s]) q.num/\Jr V (I #[C b k d,F t]) (q.den:Int):=by
 obtain⟨⟨cs,m,f⟩,_⟩:=M.1 i B _ h;have n:=f;obtain⟨s,a,l,c,t,b,k,d,e,g,j⟩:=f;cases e;exact⟨s,a,l,c,t,b,k,d,m,n,g,j⟩
def DL.below{w V V':G}{bs:List (Option (Nat × Dat))}(M:DL w V bs)(a:Bl V V'):DL w V' bs:=
 ⟨λi B z h=>by
  obtain⟨⟨cs,b,c⟩,d⟩:=M.1 i B z h;exact⟨⟨cs,b.below a,c.below a⟩,d⟩,M.2.1,Bt M.2.2 a⟩
def DL.drew{w V:G}{bs:List (Option (Nat × Dat))}(M:DL w V bs):DL w V.drew bs:=M.below ((BB _ V).drew)
def DL.sub{w V:G}{bs cs:List (Option (Nat × Dat))}(M:DL w V bs)(f:Nat->Nat)(e:∀(i j:Nat),f i=f j->i=j)(h:∀(i:Nat) x,cs[i]?=some (some x)->bs[f i]?=some (some x)):DL w V cs:=
 ⟨λi B d a=>M.1 (f i) B d (h i _ a),λi j B d b a c=>e i j (M.2.1 (f i) (f j) B d b (h i _ a) (h j _ c)),M.2.2⟩
theorem DL.take{w V:G}{bs:List (Option (Nat × Dat))}(M:DL w V bs)(n:Nat):DL w V (bs.take n):=by
 refine M.sub id (λ_ _ h=>h) λi x h=>?_;grind
theorem DL.none{w V:G}{bs:List (Option (Nat × Dat))}(M:DL w V bs):DL w V (bs++[Option.none]):=by
 refine M.sub id (λ_ _ h=>h) λi x h=>?_;grind
theorem DL.fill{w V:G}{bs:List (Option (Nat × Dat))}(M:DL w V bs){i:Nat}(h:bs[i]?=some Option.none)(d:Dat)(o:Has V (I cs) d):
 DL w (V.alloc (H cs d.ty)) (bs.set i (some (V.heap.size,d))):=by
 have f:Bl V (V.alloc (H cs d.ty)):=Ba V _;have l:i<bs.length:=(Ag.1 h).1;have e:=M.below f;have q:∀(j:Nat) B d,bs[j]?=some (some (B,d))->B<V.heap.size:=λj B d h=>by
  obtain⟨⟨_,b,_⟩,_⟩:=M.1 j B d h;exact b.lt
 refine⟨λj B m a=>?_,λj k B d1 n b g=>?_,e.2.2⟩
 . by_cases c:i=j
   . subst c;rw[CV l]at a;simp at a;obtain⟨rfl,rfl⟩:=a;exact⟨⟨cs,BC V _,o.below f⟩,M.2.2.size⟩
   . rw[CA c]at a;exact e.1 j B m a
 . by_cases c:i=j<;>by_cases p:i=k
   . omega
   . grind
   . grind
   . rw[CA c]at b;rw[CA p]at g;exact M.2.1 j k B d1 n b g
def DL.push{w V:G}{bs:List (Option (Nat × Dat))}(M:DL w V bs)(d:Dat)(a:Has V (I cs) d):DL w (V.alloc (H cs d.ty)) (bs++[some (V.heap.size,d)]):=by
 have h:=M.none.fill (i:=bs.length) DJ d a;rwa[Tf]at h
def Ll{w:G}{t:TypeId}{v:E}(h:Jw v=true:=by rfl):Has w (I #[v]) (.cell t v):=⟨rfl,h⟩
def Ew{w:G}(a:TypeId)(d1:Dat){c1:Array E}(c:Has w (I c1) d1)(b:d1.ty=a:=by rfl):∃W,Hid (w.alloc (H c1 a)=W)/\Hid (DL w W [some (w.heap.size,d1)]):=by
 subst b;exact⟨_,Z rfl,Z ((DL.nil w).push d1 c)⟩
theorem Lm{w:G}(b:TypeId)(d1:Dat){c1:Array E}(f:Has w (I c1) d1)(c:TypeId)(a:Dat){c2:Array E}(g:Has w (I c2) a)(d:d1.ty=b:=by rfl)(e:a.ty=c:=by rfl):∃W,Hid ((w.alloc (H c1 b)).alloc (H c2 c)=W)/\Hid (DL w W [some (w.heap.size,d1),some (w.heap.size+1,a)]):=by
 subst d e;have M:=((DL.nil w).push d1 f).push a (g.alloc _);grind[A1,Z]
theorem I7{w:G}(c:TypeId)(d1:Dat){c1:Array E}(j:Has w (I c1) d1)(d:TypeId)(a:Dat){c2:Array E}(k:Has w (I c2) a)(e:TypeId)(b:Dat){c3:Array E}(l:Has w (I c3) b)(f:d1.ty=c:=by rfl)(g:a.ty=d:=by rfl)(i:b.ty=e:=by rfl):∃W,Hid (((w.alloc (H c1 c)).alloc (H c2 d)).alloc (H c3 e)=W)/\Hid (DL w W [some (w.heap.size,d1),some (w.heap.size+1,a),some (w.heap.size+1+1,b)]):=by
 subst f g i;have M:=(((DL.nil w).push d1 j).push a (k.alloc _)).push b ((l.alloc _).alloc _);grind[A1,Z]
theorem DL.repl{w V:G}{bs:List (Option (Nat × Dat))}(M:DL w V bs){i B:Nat}(h:bs[i]?=some (some (B,d)))(c:Dat)(A:Bx V' B c.ty cs)(D:Has V (I cs) c)
(o:∀k v ds,Row k V v ds->Row k V' v ds)(K:∀a t cs,a≠B->Bx V a t cs->Bx V' a t cs)(z:Bl w V')
(hp:noPoly bs=true\/∀v qs,RowK true V v qs->RowK true V' v qs)(P:c.noPoly=true\/∀v qs,RowK true V v qs->RowK true V' v qs):DL w V' (bs.set i (some (B,c))):=by
 have p:i<bs.length:=(Ag.1 h).1;obtain⟨_,Q⟩:=M.1 i B d h;refine⟨λj a d1 b=>?_,λj k a d1 s x y=>?_,z⟩
 . by_cases m:i=j
   . subst m;rw[CV p]at b;simp at b;obtain⟨rfl,rfl⟩:=b;exact⟨⟨cs,A,D.keep o P⟩,Q⟩
   . rw[CA m]at b;obtain⟨⟨r,g,l⟩,S⟩:=M.1 j a d1 b;have q:a≠B:=λe=>m (by rw[e]at b;exact M.2.1 i j B d d1 h b);exact⟨⟨r,K _ _ _ q g,l.keep o (hp.imp (λh=>OB h b) id)⟩,S⟩
 . have n:∀(j:Nat) d1,(bs.set i (some (B,c)))[j]?=some (some (a,d1))->∃f,bs[j]?=some (some (a,f)):=λj d1 b=>by
    grind
   obtain⟨f,g⟩:=n j d1 x;obtain⟨u,l⟩:=n k s y;exact M.2.1 j k a f u g l
theorem XO{V:G}{B:Nat}{t:TypeId}(h:Bx V B t cs){o:Nat}(e:cs[o]?=some x0)(m:Jw x0=true)(r:Bool)(p:t≠Dj r)(x:E)(v:E)(qs:K)(d:RowK r V v qs):RowK r (V.setCell ⟨B,o,Option.none⟩ x) v qs:=by
 obtain⟨a,cap,ev,j,k,l,c⟩:=d;refine⟨a,cap,ev,j,k,l,?_⟩;rcases c with c|⟨b,g,f⟩
 . exact Ar c
 . refine Ax ⟨b,g,f.keep (BE V ⟨B,o,Option.none⟩ x b ?_) λ_ _ _ d=>Row.set d (cell_of h e) m _⟩;rintro rfl;obtain⟨n,i,_⟩:=f;rw[show V.heap[b]?=_ from h]at i;grind
def OC{V:G}{B:Nat}{t:TypeId}{a:E}(q:Ji V B t x0 a)(b:t≠Dj r)(c:Jw x0=true)(d:Jw a=true)(x y:E):∀v qs,RowK r V v qs->RowK r ((V.setCell ⟨B,0,Option.none⟩ x).setCell ⟨B,1,Option.none⟩ y) v qs:=
 λv qs h=>XO (cs:=#[x,a]) (q.set0 x) (o:=1) rfl d r b y v qs (XO (cs:=#[x0,a]) q (o:=0) rfl c r b x v qs h)
def OD{V:G}{B:Nat}{t:TypeId}{b z0 u0:E}(q:JA V B t x0 b z0 u0)(a:t≠Dj r)(c:Jw x0=true)(d:Jw b=true)(e:Jw z0=true)(f:Jw u0=true)(x y z u:E):∀v qs,RowK r V v qs->RowK r (put4 V B x y z u) v qs:=
 λv qs h=>XO (cs:=#[x,y,z,u0]) (((q.set0 x).set1 y).set2 z) (o:=3) rfl f r a u v qs (XO (cs:=#[x,y,z0,u0]) ((q.set0 x).set1 y) (o:=2) rfl e r a z v qs (XO (cs:=#[x,b,z0,u0]) (q.set0 x) (o:=1) rfl d r a y v qs (XO (cs:=#[x0,b,z0,u0]) q (o:=0) rfl c r a x v qs h)))
def Ln{V:G}{B:Nat}{t:TypeId}{x y:E}(q:Ji V B t x y)(b:Jw x=true)(c:Jw y=true)(a d:E):∀k v ds,Row k V v ds->Row k ((V.setCell ⟨B,0,Option.none⟩ a).setCell ⟨B,1,Option.none⟩ d) v ds:=
 λ_ _ _ h=>Row.set (Row.set h q.c0 b _) (q.set0 a).c1 c _
def DL.putInt{w V:G}{bs:List (Option (Nat × Dat))}(M:DL w V bs){i B:Nat}{z0:Int}(h:bs[i]?=some (some (B,.int z0))){x y:E}{z:Int}(f:Jl V (I #[x,y]) z):
 DL w ((V.setCell ⟨B,0,Option.none⟩ x).setCell ⟨B,1,Option.none⟩ y) (bs.set i (some (B,.int z))):=by
 obtain⟨s,a,l,c,b,_⟩:=M.int h;obtain⟨_,e⟩:=M.1 i B _ h;exact M.repl h (.int z) (cs:=#[x,y]) ((b.set0 x).set1 y) f (Ln b rfl rfl x y) (λj t cs d g=>(g.far (p:=⟨B,0,Option.none⟩) d _).far (p:=⟨B,1,Option.none⟩) d _) ((M.2.2.setCell (p:=⟨B,0,Option.none⟩) e _).setCell (p:=⟨B,1,Option.none⟩) e _) (Ax (OC b DP rfl rfl x y)) (Ar rfl)
def DL.putBig{w V:G}{bs:List (Option (Nat × Dat))}(M:DL w V bs){i B:Nat}{z0:Int}(h:bs[i]?=some (some (B,.big z0))){x y:E}{z:Int}(f:Jr V (I #[x,y]) z):
 DL w ((V.setCell ⟨B,0,Option.none⟩ x).setCell ⟨B,1,Option.none⟩ y) (bs.set i (some (B,.big z))):=by
 obtain⟨a,l,c,s,b,_⟩:=M.big h;obtain⟨_,e⟩:=M.1 i B _ h;exact M.repl h (.big z) (cs:=#[x,y]) ((b.set0 x).set1 y) f (Ln b rfl rfl x y) (λj t cs d g=>(g.far (p:=⟨B,0,Option.none⟩) d _).far (p:=⟨B,1,Option.none⟩) d _) ((M.2.2.setCell (p:=⟨B,0,Option.none⟩) e _).setCell (p:=⟨B,1,Option.none⟩) e _) (Ax (OC b DP rfl rfl x y)) (Ar rfl)
def Lo{V:G}{B:Nat}(x y z u:E):∀b t cs,b≠B->Bx V b t cs->Bx (put4 V B x y z u) b t cs:=λ_ _ _ a g=>(((g.far (p:=⟨B,0,Option.none⟩) a _).far (p:=⟨B,1,Option.none⟩) a _).far (p:=⟨B,2,Option.none⟩) a _).far (p:=⟨B,3,Option.none⟩) a _
def DL.putRat{w V:G}{bs:List (Option (Nat × Dat))}(M:DL w V bs){i B:Nat}{q0:Rat}(h:bs[i]?=some (some (B,.rat q0))){x y z u:E}{q:Rat}(b:Jk V (I #[x,y,z,u]) q)(d:noPoly bs=true:=by rfl):
 DL w (put4 V B x y z u) (bs.set i (some (B,.rat q))):=by
 obtain⟨_,_,_,_,_,_,_,_,a,_⟩:=M.rat h;obtain⟨_,c⟩:=M.1 i B _ h;exact M.repl h (.rat q) (cs:=#[x,y,z,u]) (a.put x y z u) b (λ_ _ _ g=>Row.put4 g a rfl rfl rfl rfl _ _ _ _) (Lo x y z u) (Jo M.2.2 c _ _ _ _) (Ar d) (Ar rfl)
def DL.putRef{w V:G}{bs:List (Option (Nat × Dat))}(M:DL w V bs){i B:Nat}{q0:Rat}(h:bs[i]?=some (some (B,.ref q0))){x y z u:E}{q:Rat}(b:Jj V (I #[x,y,z,u]) q):
 DL w (put4 V B x y z u) (bs.set i (some (B,.ref q))):=by
 obtain⟨_,_,_,_,_,_,_,_,a,_⟩:=M.ref h;obtain⟨_,c⟩:=M.1 i B _ h;exact M.repl h (.ref q) (cs:=#[x,y,z,u]) (a.put x y z u) b (λ_ _ _ g=>Row.put4 g a rfl rfl rfl rfl _ _ _ _) (Lo x y z u) (Jo M.2.2 c _ _ _ _) (Ax (OD a DP rfl rfl rfl rfl x y z u)) (Ar rfl)
def DL.zref{w V:G}{bs:List (Option (Nat × Dat))}(M:DL w V bs){i B:Nat}(h:bs[i]?=some (some (B,.zref))):JA V B 49 (C Option.none 0 0) (F false) (C Option.none 0 0) (F false):=by
 obtain⟨⟨cs,a,b⟩,_⟩:=M.1 i B _ h;cases(show Value.agg cs=_ from b);exact a
def DL.putZref{w V:G}{bs:List (Option (Nat × Dat))}(M:DL w V bs){i B:Nat}(h:bs[i]?=some (some (B,.zref))){x y z u:E}{q:Rat}(b:Jj V (I #[x,y,z,u]) q):
 DL w (put4 V B x y z u) (bs.set i (some (B,.ref q))):=by
 have a:=M.zref h;obtain⟨_,c⟩:=M.1 i B _ h;exact M.repl h (.ref q) (cs:=#[x,y,z,u]) (a.put x y z u) b (λ_ _ _ g=>Row.put4 g a rfl rfl rfl rfl _ _ _ _) (Lo x y z u) (Jo M.2.2 c _ _ _ _) (Ax (OD a DP rfl rfl rfl rfl x y z u)) (Ar rfl)
def Has.set2{V:G}{v:E}(h:Has V v d){B:Nat}{t:TypeId}{x y:E}(q:Ji V B t x y)(e:Jw x=true)(f:Jw y=true)(a b:E)(c:d.noPoly=true:=by rfl):Has ((V.setCell ⟨B,0,Option.none⟩ a).setCell ⟨B,1,Option.none⟩ b) v d:=h.keep (Ln q e f a b) (Ar c)
def Has.put4{V:G}{v:E}{d:Dat}(h:Has V v d){B:Nat}{t:TypeId}{x y z u:E}(q:JA V B t x y z u)(b:Jw x=true)(c:Jw y=true)(e:Jw z=true)(f:Jw u=true)(j k l i:E)(a:d.noPoly=true:=by rfl):Has (Go.Proofs.YtcahejkcdcjjgaaGreatDoor.put4 V B j k l i) v d:=h.keep (λ_ _ _ g=>Row.put4 g q b c e f _ _ _ _) (Ar a)
def DL.ne{w V:G}{bs:List (Option (Nat × Dat))}(M:DL w V bs)(i j:Nat){B a:Nat}{b:Dat}(h:bs[i]?=some (some (B,d)))(c:bs[j]?=some (some (a,b)))(f:i≠j):B≠a:=λe=>by
 subst e;exact f (M.2.1 i j B d b h c)
def DL.ge{w V:G}{bs:List (Option (Nat × Dat))}(M:DL w V bs)(i:Nat){B:Nat}(h:bs[i]?=some (some (B,d))):w.heap.size<=B:=(M.1 i B d h).2
def Er(V:G)(t:E)(d1 a:Dat):Prop:=∃u1 u2,t=.tuple #[u1,u2,F true]/\Has V u1 d1/\Has V u2 a
def Er.below{V V':G}{t:E}{d1 a:Dat}(h:Er V t d1 a)(b:Bl V V'):Er V' t d1 a:=by
 obtain⟨u1,u2,e,c,d⟩:=h;exact⟨u1,u2,e,c.below b,d.below b⟩
def Er.alloc{V:G}{t:E}{d1 a:Dat}(h:Er V t d1 a)(o:Obj):Er (V.alloc o) t d1 a:=by
 obtain⟨u1,u2,e,b,c⟩:=h;exact⟨u1,u2,e,b.alloc o,c.alloc o⟩
def Er.set2{V:G}{v:E}{d1 a:Dat}(h:Er V v d1 a){B:Nat}{t:TypeId}{x y:E}(q:Ji V B t x y)(d:Jw x=true)(f:Jw y=true)(b c:E)(j:d1.noPoly=true:=by rfl)(k:a.noPoly=true:=by rfl):Er ((V.setCell ⟨B,0,Option.none⟩ b).setCell ⟨B,1,Option.none⟩ c) v d1 a:=by
 obtain⟨u1,u2,e,g,i⟩:=h;exact⟨u1,u2,e,g.set2 q d f b c j,i.set2 q d f b c k⟩
def DL.rats{w V:G}{bs:List (Option (Nat × Dat))}(M:DL w V bs){i B:Nat}{qs:K}(h:bs[i]?=some (some (B,.rats qs))):De true V B qs:=by
 obtain⟨⟨cs,b,a⟩,_⟩:=M.1 i B _ h;obtain⟨c,e,a⟩:=a;cases e;exact⟨cs,b,a⟩
theorem DL.putRats{w V:G}{bs:List (Option (Nat × Dat))}(M:DL w V bs){i B:Nat}{qs:List Rat}(h:bs[i]?=some (some (B,.rats qs))){j:Nat}(o:j<qs.length){x y z u:E}{q:Rat}(Q:Jk V (I #[x,y,z,u]) q)(U:noPoly bs=true:=by rfl):
 DL w (putAt V B (j*4) x y z u) (bs.set i (some (B,.rats (qs.set j q)))):=by
 have n:=M.rats h;obtain⟨_,p⟩:=M.1 i B _ h;obtain⟨cs,c1,c2⟩:=De.set (r:=true) n o Q;have S:=n.putKeep o x y z u;have s:i<bs.length:=(Ag.1 h).1;refine⟨λa c d1 b=>?_,λa k c d1 A K P=>?_,OA M.2.2 p _ _ _ _⟩
 . by_cases l:i=a
   . subst l;rw[CV s]at b;simp at b;obtain⟨rfl,rfl⟩:=b;exact⟨⟨cs,c1,cs,rfl,c2⟩,p⟩
   . rw[CA l]at b;obtain⟨⟨v,f,g⟩,T⟩:=M.1 a c d1 b;have t:c≠B:=λe=>l (by rw[e]at b;exact M.2.1 i a B _ d1 h b);exact⟨⟨v,(Lk t x y z u).trans f,g.keep S (Ar (OB U b))⟩,T⟩
 . have m:∀(a:Nat) d1,(bs.set i (some (B,.rats (qs.set j q))))[a]?=some (some (c,d1))->∃d,bs[a]?=some (some (c,d)):=λa d1 b=>by
    grind
   obtain⟨d,f⟩:=m a d1 K;obtain⟨D,g⟩:=m k A P;exact M.2.1 a k c d D f g
def DL.cell{w V:G}{bs:List (Option (Nat × Dat))}(M:DL w V bs){i B:Nat}{t:TypeId}{v:E}(h:bs[i]?=some (some (B,.cell t v))):Boxed V B t v/\Jw v=true:=by
 obtain⟨⟨cs,b,a⟩,_⟩:=M.1 i B _ h;obtain⟨e,a⟩:=a;cases e;exact⟨b,a⟩
def OE{V:G}{B:Nat}{t:TypeId}{x:E}(q:Boxed V B t x)(a:Jw x=true)(b:E):∀k v ds,Row k V v ds->Row k (V.setCell ⟨B,0,Option.none⟩ b) v ds:=
 λ_ _ _ h=>Row.set h q.cell a _
def Dat.eq(x:E):Dat where
 ty:=0
 has _ v:=v=x
 noPoly:=true
 below h _:=h
 keep h _ _:=h
def Dat.any:Dat where
 ty:=0
 has _ _:=True
 noPoly:=true
 below h _:=h
 keep h _ _:=h
def blk:E->Nat
 |N (some a)=>a.block
 |_=>0
def Dat.ptr:Dat where
 ty:=0
 has _ v:=v=N (some ⟨blk v,0,none⟩)
 noPoly:=true
 below h _:=h
 keep h _ _:=h
def upd(f:Nat->E)(i:Nat)(u:E):Nat->E:=λj=>if j=i then u else f j
def more(D:Nat->Bool)(i:Nat):Nat->Bool:=λj=>j==i || D j
def Hs(ds:List Dat)(D:Nat->Bool)(V:G)(f:Nat->E):Prop:=∀k,D k=true->Has V (f k) (ds.getD k .any)
def Av(ds:List Dat)(dp:Ja)(V:G)(f:Nat->E):Prop:=∀k,k∈dp->Has V (f k) (ds.getD k .any)
def Fj(tab:List Ja)(i:Nat)(D:Nat->Bool)(l:Nat):Bool:=l != i&&((tab.getD i []).contains l || (!((tab.getD l []).contains i)&&D l))
def bl(tab:List Ja)(ws:Ja)(i:Nat)(D:Nat->Bool):List Bool:=ws.map (Fj tab i D)
section
variable {P:Program} {ops:Array Oper} {mk:(Nat->Value)->Act} {ds:List Dat} {ws:Ja} {J:List Bool->List Value->World->Prop} {tab:List Ja} {D:Nat->Bool} {f:Nat->Value} {V W:World} {dp:Ja} {i:Nat} {u x:Value} {o:Oper}
variable{b:E}
theorem Hs.mv(h:Hs ds D V f)(m:∀d v,(d∈ds\/d=.any)->Has V v d->Has W v d):Hs ds D W f:=λk a=>m _ _ (by
 grind) (h k a)
theorem Hs.put(h:Hs ds D V f)(i:Nat)(c:Has V u (ds.getD i .any)):Hs ds (more D i) V (upd f i u):=λk b=>by
 unfold upd;by_cases a:k=i
 . subst a;rw[BL rfl];exact c
 . rw[BH a];refine h k ?_;unfold more at b;grind
def Av.g(h:Av ds dp V f)(k:Nat)(a:k∈dp:=by decide):Has V (f k) (ds.getD k .any):=h k a
def Av.e(h:Av ds dp V f)(k:Nat)(e:ds.getD k .any=.eq x:=by rfl)(a:k∈dp:=by decide):f k=x:=by
 have:=h k a;rw[e]at this;exact this
def St(ds:List Dat)(ws:Ja)(J:List Bool->List E->G->Prop)(D:Nat->Bool)(f:Nat->E)(V:G):Prop:=Hs ds D V f/\J (ws.map D) (ws.map f) V
def c1{F:FuncId}{R:Ending->G->Prop}{a x:E}(h:a=x)(q:M P F #[x] V R):M P F #[a] V R:=by rw[h];exact q
def c2{F:FuncId}{R:Ending->G->Prop}{a x y:E}(h:a=x)(k:b=y)(q:M P F #[x,y] V R):M P F #[a,b] V R:=by rw[h,k];exact q
def c3{F:FuncId}{R:Ending->G->Prop}{a x y c z:E}(h:a=x)(k:b=y)(m:c=z)(q:M P F #[x,y,z] V R):M P F #[a,b,c] V R:=by rw[h,k,m];exact q
def Hs.e(h:Hs ds (λ_=>true) V f)(k:Nat)(e:ds.getD k .any=.eq x:=by rfl):f k=x:=by
 have:=h k rfl;rw[e]at this;exact this
def Hs.p(h:Hs ds (λ_=>true) V f)(k:Nat)(e:ds.getD k .any=.ptr:=by rfl):∃B,f k=N (some ⟨B,0,none⟩):=by
 have:=h k rfl;rw[e]at this;exact⟨_,this⟩
def Hs.g{d:Dat}(h:Hs ds (λ_=>true) V f)(k:Nat)(e:ds.getD k .any=d:=by rfl):Has V (f k) d:=e ▸ h k rfl
def rv{F:FuncId}{av:Array E}{x:E}(q:M P F av V λe W=>e=.returned x/\Bl V W):M P F av V λe W=>∃u,e=.returned u/\Has W u (.eq x)/\Bl V W:=q.mono λ_ _ ⟨e,a⟩=>⟨_,e,rfl,a⟩
def I8{W:G}(h:∀d∈ds,∀V W v,Has V v d->Has W v d:=by repeat (first|exact List.forall_mem_nil _|refine List.forall_mem_cons.2 ⟨λ_ _ _ h=>h,?_⟩)):∀d v,(d∈ds\/d=.any)->Has V v d->Has W v d:=λd v a k=>by
 rcases a with a|rfl
 . exact h d a V W v k
 . exact k
def Out(P:Program)(o:Oper)(a:Act)(V:G)(K:Act->G->Prop):Prop:=
 (∃r u W,(execOp a.eval o).run P V=.ok r W/\(r=.value u\/(r=.skip/\u=R))/\K (a.put o.dst u) W)\/∃F av,(execOp a.eval o).run P V=.ok (.enter F av) V/\M P F av V λe W=>∃u,e=.returned u/\K (a.put o.dst u) W
def Fk:Oper->Bool
 |{ op:=.defer _,.. }=>true
 |_=>false
section
variable {Q:Exit->Act->World->Prop} {K:Act->World->Prop} {a:Act}
variable{n:Nat}
def Out.op(h:Out P o a V K)(f:ops[i]?=some o)(hg:Region.wanted o (yielded ops a.tmps)=true):wpOp P ops Q i K a V:=by
 unfold wpOp;rw[f];simp only[hg,if_true];refine Ar ?_;unfold Oper.wp;rcases h with⟨r,u,W,c,g,b⟩|⟨F,av,c,d⟩
 . rw[c];rcases g with rfl|⟨rfl,rfl⟩
   . exact b
   . exact b
 . rw[c];refine d.mono ?_;rintro e W ⟨u,rfl,b⟩;exact b
def Hq(F:Fence):Prop:=F=.wide\/∃l,F=Fence.wide.inRound l
def Hq.calls{F:Fence}(h:Hq F){fn:FuncId}{av:Array E}{R:Ending->G->Prop}(a:M P fn av V R):CallsIn F n P fn av V R:=by
 rcases h with rfl|⟨l,rfl⟩
 . exact BK.2 a
 . exact(BK.2 a).inRound l
def Out.opIn{F:Fence}(hF:Hq F)(h:Out P o a V K)(q:ops[i]?=some o)(hg:Region.wanted o (yielded ops a.tmps)=true)(s:Fk o=false):wpOpIn F n P ops Q i K a V:=by
 unfold wpOpIn;rw[q];simp only[hg,if_true];unfold Oper.wpIn;refine⟨λf _=>(by rcases hF with rfl|⟨l,rfl⟩<;>trivial),?_⟩;rw[Oper.semAt_eq _ _ _ λc j=>by
  obtain⟨d,op,t,p,af,g⟩:=o;subst j;cases s]
 rcases h with⟨r,u,W,k,v,b⟩|⟨fn,av,k,j⟩
 . rw[k];rcases v with rfl|⟨rfl,rfl⟩
   . exact b
   . exact b
 . rw[k,Oper.uponIn_enter];refine⟨λm=>(by rcases hF with rfl|⟨l,rfl⟩<;>cases m),(hF.calls j).mono ?_⟩;rintro e W ⟨u,rfl,b⟩;exact b
end
def Does(P:Program)(ops:Array Oper)(i:Nat)(a:Act)(V:G)(K:Act->G->Prop):Prop:=∃o,ops[i]?=some o/\Fk o=false/\((Region.wanted o (yielded ops a.tmps)=true/\Out P o a V K)\/(Region.wanted o (yielded ops a.tmps)=false/\K (a.put o.dst R) V))
section
variable {Q:Exit->Act->World->Prop} {K K':Act->World->Prop} {a:Act}
def Does.op(h:Does P ops i a V K):wpOp P ops Q i K a V:=by
 obtain⟨o,b,_,⟨hg,h⟩|⟨hg,h⟩⟩:=h
 . exact h.op b hg
 . unfold wpOp;rw[b];simp only[hg,Cy,if_false];exact h
def Does.opIn{F:Fence}{n:Nat}(hF:Hq F)(h:Does P ops i a V K):wpOpIn F n P ops Q i K a V:=by
 obtain⟨o,b,c,⟨hg,h⟩|⟨hg,h⟩⟩:=h
 . exact h.opIn hF b hg c
 . unfold wpOpIn;rw[b];simp only[hg,Cy,if_false];exact⟨λf _=>(by rcases hF with rfl|⟨l,rfl⟩<;>trivial),h⟩
def Does.mono(h:Does P ops i a V K)(b:∀d V',K d V'->K' d V'):Does P ops i a V K':=by
 obtain⟨o,f,g,⟨hg,h⟩|⟨hg,h⟩⟩:=h
 . refine⟨o,f,g,Ar ⟨hg,?_⟩⟩;rcases h with⟨r,u,W,c,l,h⟩|⟨F,av,c,k⟩
   . exact Ar ⟨r,u,W,c,l,b _ _ h⟩
   . exact Ax ⟨F,av,c,k.mono λe W ⟨u,j,h⟩=>⟨u,j,b _ _ h⟩⟩
 . exact⟨o,f,g,Ax ⟨hg,b _ _ h⟩⟩
end
def Stp(P:Program)(ops:Array Oper)(mk:(Nat->E)->Act)(ds:List Dat)(ws:Ja)(J:List Bool->List E->G->Prop)(tab:List Ja)(i:Nat):Prop:=
 ∀D f V,Av ds (tab.getD i []) V f->Hs ds D V f->J (bl tab ws i D) (ws.map f) V->ws.map D=bl tab ws i D->
  Does P ops i (mk f) V (λa V'=>∃u,a=mk (upd f i u)/\St ds ws J (more D i) (upd f i u) V')
variable{args:(Nat->E)->Array E}{n:Nat}
theorem St.step(d:ws.contains i=false)(h:J (ws.map D) (ws.map f) V):J (ws.map (more D i)) (ws.map (upd f i u)) V:=by
 have c:∀l∈ws,l≠i:=λl hl e=>by
  grind
 have a:ws.map (more D i)=ws.map D:=Cp λl hl=>by unfold more;grind
 have b:ws.map (upd f i u)=ws.map f:=Cp λl hl=>BH (c l hl);rw[a,b];exact h
def No{R:Nat->Prop}(h:R 0)(t:∀i,i<n->R (i+1)):∀i,i<n+1->R i
 |0,_=>h
 |i+1,a=>t i (Nat.lt_of_succ_lt_succ a)
def Stp.end_{R:Nat->Prop}:∀i,i<0->R i:=λ_ h=>absurd h (Nat.not_lt_zero _)
def Stp.cl{F:FuncId}
(k:∀ {f V D},Av ds (tab.getD i []) V f->J (bl tab ws i D) (ws.map f) V->M P F (args f) V λe W=>∃u,e=.returned u/\Has W u (ds.getD i .any)/\Bl V W)
(hJ:∀b v V W,J b v V->Bl V W->J b v W:=by first|exact λ_ _ _ _ h a=>h.below a|exact λ_ _ _ _ h a=>⟨h.1.below a,h.2.below a⟩)(n:ops[i]?=some o:=by rfl)(hg:∀ {f V},Av ds (tab.getD i []) V f->Region.wanted o (yielded ops (mk f).tmps)=true:=by exact λ_=>rfl)(l:ws.contains i=false:=by rfl)
(r:∀f V,(execOp (mk f).eval o).run P V=.ok (.enter F (args f)) V:=by intro f V;kernel_rfl)(m:∀f u,(mk f).put o.dst u=mk (upd f i u):=by intro f u;kernel_rfl)(p:Fk o=false:=by rfl):Stp P ops mk ds ws J tab i:=λD f V g hs j a=>⟨o,n,p,Ar ⟨hg g,Ax ⟨F,args f,r f V,by
 refine(k g j).mono ?_;rintro e W ⟨u,rfl,q,c⟩;exact⟨u,rfl,u,m f u,(hs.mv λd v _ h=>h.below c).put i q,St.step l (hJ _ _ _ _ (by rw[a];exact j) c)⟩⟩⟩⟩
def Stp.ci{F:FuncId}(n:ops[i]?=some o)
(c:∀ {f V D},Av ds (tab.getD i []) V f->J (bl tab ws i D) (ws.map f) V->∃av,(execOp (mk f).eval o).run P V=.ok (.enter F av) V/\M P F av V λe W=>∃u,e=.returned u/\Has W u (ds.getD i .any)/\Bl V W)
(hJ:∀b v V W,J b v V->Bl V W->J b v W:=by first|exact λ_ _ _ _ h a=>h.below a|exact λ_ _ _ _ h a=>⟨h.1.below a,h.2.below a⟩)(hg:∀ {f V},Av ds (tab.getD i []) V f->Region.wanted o (yielded ops (mk f).tmps)=true:=by exact λ_=>rfl)(l:ws.contains i=false:=by rfl)
(m:∀f u,(mk f).put o.dst u=mk (upd f i u):=by intro f u;kernel_rfl)(p:Fk o=false:=by rfl):Stp P ops mk ds ws J tab i:=λD f V j hs k a=>by
 obtain⟨av,r,c⟩:=c j k;refine⟨o,n,p,Ar ⟨hg j,Ax ⟨F,av,r,c.mono ?_⟩⟩⟩;rintro e W ⟨u,rfl,q,g⟩;exact⟨u,rfl,u,m f u,(hs.mv λd v _ h=>h.below g).put i q,St.step l (hJ _ _ _ _ (by rw[a];exact k) g)⟩
def Stp.vl(g:ops[i]?=some o)(l:∀ {f V D},Av ds (tab.getD i []) V f->J (bl tab ws i D) (ws.map f) V->∃u,(execOp (mk f).eval o).run P V=.ok (.value u) V/\Has V u (ds.getD i .any))
(hg:∀ {f V},Av ds (tab.getD i []) V f->Region.wanted o (yielded ops (mk f).tmps)=true:=by exact λ_=>rfl)(d:ws.contains i=false:=by rfl)(e:∀f u,(mk f).put o.dst u=mk (upd f i u):=by intro f u;kernel_rfl)(j:Fk o=false:=by rfl):Stp P ops mk ds ws J tab i:=λD f V a hs b c=>by
 obtain⟨u,m,k⟩:=l a b;exact⟨o,g,j,Ar ⟨hg a,Ar ⟨_,u,V,m,Ar rfl,u,e f u,hs.put i k,St.step d (by rw[c];exact b)⟩⟩⟩
def Stp.wr(m:ops[i]?=some o)(s:∀ {f V D},Av ds (tab.getD i []) V f->J (bl tab ws i D) (ws.map f) V->∃r u W,(execOp (mk f).eval o).run P V=.ok r W/\(r=.value u\/(r=.skip/\u=R))/\Has W u (ds.getD i .any)/\(∀d v,(d∈ds\/d=.any)->Has V v d->Has W v d)/\J (ws.map (more (Fj tab i D) i)) (ws.map (upd f i u)) W)
(hg:∀ {f V},Av ds (tab.getD i []) V f->Region.wanted o (yielded ops (mk f).tmps)=true:=by exact λ_=>rfl)(k:∀f u,(mk f).put o.dst u=mk (upd f i u):=by intro f u;kernel_rfl)(n:Fk o=false:=by rfl):Stp P ops mk ds ws J tab i:=λD f V a hs g c=>by
 obtain⟨r,u,W,t,p,q,j,hJ⟩:=s a g;have e:ws.map (more (Fj tab i D) i)=ws.map (more D i):=Cp λl hl=>by
  have b:=List.map_inj_left.1 c l hl;show(l==i || Fj tab i D l)=(l==i || D l);rw[<-b]
 rw[e]at hJ;exact⟨o,m,n,Ar ⟨hg a,Ar ⟨r,u,W,t,p,u,k f u,(hs.mv j).put i q,hJ⟩⟩⟩
def Stp.no(j:ops[i]?=some o)(hg:∀ {f V},Av ds (tab.getD i []) V f->Region.wanted o (yielded ops (mk f).tmps)=false)(c:∀V,Has V R (ds.getD i .any):=by exact λ_=>trivial)(d:ws.contains i=false:=by rfl)(g:∀f u,(mk f).put o.dst u=mk (upd f i u):=by intro f u;kernel_rfl)(k:Fk o=false:=by rfl):Stp P ops mk ds ws J tab i:=λD f V a hs e b=>
 ⟨o,j,k,Ax ⟨hg a,R,g f R,hs.put i (c V),St.step d (by rw[b];exact e)⟩⟩
def Stp.cw{F:FuncId}
(g:∀ {f V D},Av ds (tab.getD i []) V f->J (bl tab ws i D) (ws.map f) V->M P F (args f) V λe W=>∃u,e=.returned u/\Has W u (ds.getD i .any)/\(∀d v,(d∈ds\/d=.any)->Has V v d->Has W v d)/\J (ws.map (more (Fj tab i D) i)) (ws.map (upd f i u)) W)
(n:ops[i]?=some o:=by rfl)(hg:∀ {f V},Av ds (tab.getD i []) V f->Region.wanted o (yielded ops (mk f).tmps)=true:=by exact λ_=>rfl)
(r:∀f V,(execOp (mk f).eval o).run P V=.ok (.enter F (args f)) V:=by intro f V;kernel_rfl)(m:∀f u,(mk f).put o.dst u=mk (upd f i u):=by intro f u;kernel_rfl)(p:Fk o=false:=by rfl):Stp P ops mk ds ws J tab i:=λD f V a hs j c=>⟨o,n,p,Ar ⟨hg a,Ax ⟨F,args f,r f V,by
 refine(g a j).mono ?_;rintro e W ⟨u,rfl,q,k,hJ⟩;have e:ws.map (more (Fj tab i D) i)=ws.map (more D i):=Cp λl hl=>by
  have b:=List.map_inj_left.1 c l hl;show(l==i || Fj tab i D l)=(l==i || D l);rw[<-b]
 rw[e]at hJ;exact⟨u,rfl,u,m f u,(hs.mv k).put i q,hJ⟩⟩⟩⟩
theorem Ti(b:∀l dp,tab[l]?=some dp->D l=true->∀k∈dp,D k=true)(c:∀k∈tab.getD i [],D k=true)(a:D i=false)(d:∀l∈ws,l<tab.length):ws.map D=bl tab ws i D:=Cp λl hl=>by
 grind[Fj]
def Hr(a:Act):List (Option Tmp)->Nat->(Nat->E)->Act
 |[],_,_=>a
 |d::ds,k,f=>Hr (a.put d (f k)) ds (k+1) f
def I9(a:Act):Option (Option Tmp)->E
 |some (some t)=>a.tmps.getD t R
 |_=>R
def Lp(a:Act):∀(ds:List (Option Tmp)) (k:Nat) (f:Nat->E),(∀j,j<ds.length->f (k+j)=I9 a ds[j]?)->Hr a ds k f=a
 |[],_,_,_=>rfl
 |d::ds,k,f,h=>by
  have e:a.put d (f k)=a:=by
   have c:f k=I9 a (some d):=h 0 (Nat.zero_lt_succ _);rw[c];cases d with
   |none=>rfl
   |some t=>
    show({ a with tmps:=a.tmps.setIfInBounds t (a.tmps.getD t R) }:Act)=a
    have:a.tmps.setIfInBounds t (a.tmps.getD t R)=a.tmps:=by
     apply Array.ext_getElem?;intro i;rw[Array.getElem?_setIfInBounds];by_cases b:t=i
     . subst b;by_cases hs:t<a.tmps.size
       . simp[hs]
       . simp[hs]
     . rw[BH b]
    rw[this]
  show Hr (a.put d (f k)) ds (k+1) f=a;rw[e];exact Lp a ds (k+1) f λj g=>by
   rw[Nat.add_right_comm,Nat.add_assoc];exact h (j+1) (Nat.succ_lt_succ g)
def Eh(ops:Array Oper)(a:Act)(f:Nat->E):Act:=Hr a (ops.toList.map Oper.dst) 0 f
def Tj{a:Act}{dp:Ja}{K:Act->G->Prop}(p:∀l dp,tab[l]?=some dp->D l=true->∀k∈dp,D k=true)(q:tab[i]?=some dp)(g:∀k∈dp,D k=true)(n:D i=false)(s:(ws.all λl=>decide (l<tab.length))=true)
(t:∀i,i<tab.length->Stp P ops (Eh ops a) ds ws J tab i)(c:St ds ws J D f V)(o:∀b V',(∃f,b=Eh ops a f/\St ds ws J (more D i) f V')->K b V'):Does P ops i (Eh ops a f) V K:=by
 have e:tab.getD i []=dp:=DY
 have d:=Ti p (e ▸ g) n λl hl=>Bh (AH.1 s l hl);exact(t i (Ag.1 q).1 D f V (λk r=>c.1 k (g k (by rw[<-e];exact r))) c.1 (by rw[<-d];exact c.2) d).mono λb V' ⟨u,j,m⟩=>o _ _ ⟨_,j,m⟩
def OG(e:(ws.all λl=>decide (l<tab.length))=true)(c:decide (ds.length<=tab.length)=true)(b:∀i,i<tab.length->D i=true)(a:St ds ws J D f V):Hs ds (λ_=>true) V f/\J (ws.map λ_=>true) (ws.map f) V:=by
 refine⟨λk _=>?_,?_⟩
 . by_cases d:k<tab.length
   . exact a.1 k (b k d)
   . have:=Bh c;rw[List.getD_eq_getElem?_getD,AU O];trivial
 . rw[Cp (g:=D) λl hl=>(b l (Bh (AH.1 e l hl))).symm];exact a.2
def Gc(tab a:List Ja):Bool:=tab.length==a.length&&(List.range a.length).all λi=>(a.getD i []).all λk=>(tab.getD i []).contains k || (tab.getD i []).any λj=>decide (j<i)&&(a.getD j []).contains k
theorem OH{a:List Ja}(h:Gc tab a=true)(i:Nat)(b:i<a.length)(k:Nat)(c:k∈a.getD i []):k∈tab.getD i []\/∃j,j<i/\j∈tab.getD i []/\k∈a.getD j []:=by
 have d:=AH.1 (AH.1 (Bool.and_eq_true_iff.1 h).2 i (List.mem_range.2 b)) k c;grind
theorem Jx{a:List Ja}(h:Gc tab a=true):tab.length=a.length:=eq_of_beq (Bool.and_eq_true_iff.1 h).1
def getD_at{t:List Ja}{i:Nat}(h:i<t.length):t[i]?=some (t.getD i []):=DY
theorem OI{a:List Ja}(h:Gc tab a=true)(c:∀l dp,tab[l]?=some dp->D l=true->∀k∈dp,D k=true)(l:Nat):D l=true->∀k∈a.getD l [],D k=true:=by
 induction l using Nat.strongRecOn with
 |ind l e=>
  intro b k d;grind[Jx,OH]
theorem OJ{b:List Ja}{a:Act}{dp:Ja}{K:Act->G->Prop}(h:Gc tab b=true)(g:∀l dp,tab[l]?=some dp->D l=true->∀k∈dp,D k=true)(v:tab[i]?=some dp)(m:∀k∈dp,D k=true)(q:D i=false)(t:(ws.all λl=>decide (l<b.length))=true)
(u:∀i,i<b.length->Stp P ops (Eh ops a) ds ws J b i)(r:St ds ws J D f V)(s:∀d V',(∃f,d=Eh ops a f/\St ds ws J (more D i) f V')->K d V'):Does P ops i (Eh ops a f) V K:=by
 have hl:i<b.length:=by grind[Jx]
 have e:tab.getD i []=dp:=DY
 refine Tj (λl dp hl p k n=>OI h g l p k DY) (getD_at hl) (λk n=>?_) q t u r s;rcases OH h i hl k n with c|⟨j,_,c,o⟩
 . exact m k (e ▸ c)
 . exact OI h g j (m j (e ▸ c)) k o
def Es{id:Nat}{a:Act}{w:G}{Q:Exit->Act->G->Prop}(v:P.follows .mixedOrders=true)(b:List Ja)(ds:List Dat)(ws:Ja)(J:List Bool->List E->G->Prop)
(start:J (ws.map λ_=>false) (ws.map λk=>I9 a (ops.toList.map Oper.dst)[k]?) w.drew)
(x:∀i,i<b.length->Stp P ops (Eh ops a) ds ws J b i)
(fin:∀f V,Hs ds (λ_=>true) V f->J (ws.map λ_=>true) (ws.map f) V->Q .normal (Eh ops a f) V)
(e:Gc (Region.tabAfter .any ops) b=true:=by kernel_rfl)(u:XA (Region.tabAfter .any ops)=true:=by kernel_rfl)(g:(ws.all λl=>decide (l<b.length))=true:=by rfl)(s:decide (ds.length<=b.length)=true:=by rfl):(Code.region id ops true).wp P Q a w:=by
 refine JF v _ rfl u (λD m V=>∃f,m=Eh ops a f/\St ds ws J D f V) ⟨_,(Lp a _ 0 _ λj _=>by rw[Cn]).symm,CE (λ_ h=>Bool.noConfusion h) start⟩ ?_ ?_
 . rintro D _ V i dp r d t p ⟨f,rfl,c⟩;exact(OJ e r d t p g x c λ_ _ h=>h).op
 . rintro D _ V q ⟨f,rfl,c⟩;obtain⟨n,o⟩:=OG g s (λi d=>q i (by rw[Jx e];exact d)) c;exact fin f V n o
def Tk{F:Fence}{id:Nat}{a:Act}{w:G}{Q:Exit->Act->G->Prop}(hF:Hq F)(x:P.follows .mixedOrders=true)(b:List Ja)(ds:List Dat)(ws:Ja)(J:List Bool->List E->G->Prop)
(start:J (ws.map λ_=>false) (ws.map λk=>I9 a (ops.toList.map Oper.dst)[k]?) w.drew)
(y:∀i,i<b.length->Stp P ops (Eh ops a) ds ws J b i)
(fin:∀f V,Hs ds (λ_=>true) V f->J (ws.map λ_=>true) (ws.map f) V->Q .normal (Eh ops a f) V)
(e:Gc (Region.tabAfter .any ops) b=true:=by kernel_rfl)(v:XA (Region.tabAfter .any ops)=true:=by kernel_rfl)(g:(ws.all λl=>decide (l<b.length))=true:=by rfl)(t:decide (ds.length<=b.length)=true:=by rfl):(Code.region id ops true).wpIn F n P Q a w:=by
 refine YE x _ rfl v (λD m V=>∃f,m=Eh ops a f/\St ds ws J D f V) ⟨_,(Lp a _ 0 _ λj _=>by rw[Cn]).symm,CE (λ_ h=>Bool.noConfusion h) start⟩ ?_ ?_
 . rintro D _ V i dp s d u q ⟨f,rfl,c⟩;exact(OJ e s d u q g y c λ_ _ h=>h).opIn hF
 . rintro D _ V r ⟨f,rfl,c⟩;obtain⟨o,p⟩:=OG g t (λi d=>r i (by rw[Jx e];exact d)) c;exact fin f V o p
def DX{p q:Prop}(k:q)(h:q->p:=by intro x;simp only[Eh,Hr,List.map_cons,List.map_nil,Act.put,List.setIfInBounds_toArray,List.set_cons_succ,List.set_cons_zero,Nat.reduceAdd];exact x):p:=h k
end
end M3
namespace M3
def Dat.ifq(q:Rat):Dat where
 ty:=0
 has V v:=∃u,v=.iface 38 u/\Jk V u q
 noPoly:=true
 below h hb:=by
  obtain⟨u,e,h⟩:=h;exact⟨u,e,h.below hb⟩
 keep h hk hp:=by
  obtain⟨u,e,h⟩:=h;exact⟨u,e,Dat.keep (.rat q) h hk hp⟩
section
variable {w V:World} {bs:List (Option (Nat × Dat))} {B:Nat} {ρ:Operand->Value} {x y:Operand} {dst:Option Tmp} {ty:TypeId} {ps:String} {af:Array Edge} {gd:Option (Nat × Bool)} {q q0:Rat} {z z0:Int} {p p0:K} {v p1 u1:Value} {ds:List Dat} {T:World->Value->Prop}
variable{d:Dat}{qs:K}{m:Nat}
def Ex(i:Nat)(M:DL w V bs)(h:bs[i]?=some (some (B,.rat q)):=by rfl)(hp:p1=N (some ⟨B,0,none⟩):=by rfl)(e:ρ x=p1:=by kernel_rfl):∃u,(execOp ρ { dst:=dst,op:=.load 38 x,type:=ty,pos:=ps,after:=af,guard:=gd }).run L V=.ok (.value u) V/\Has V u (.rat q):=by
 rw[hp]at e;obtain⟨s,a,l,c,t,b,k,d,n,r,_,_⟩:=M.rat h;obtain⟨f,g,j,m⟩:=n.kb;exact⟨_,by go_simp,r⟩
def Gd(i:Nat)(M:DL w V bs)(h:bs[i]?=some (some (B,.int z)):=by rfl)(hp:p1=N (some ⟨B,0,none⟩):=by rfl)(b:ρ x=p1:=by kernel_rfl):∃u,(execOp ρ { dst:=dst,op:=.load 36 x,type:=ty,pos:=ps,after:=af,guard:=gd }).run L V=.ok (.value u) V/\Has V u (.int z):=by
 rw[hp]at b;obtain⟨s,a,l,c,n,r⟩:=M.int h;obtain⟨d,e⟩:=n.ka;exact⟨_,by go_simp,r⟩
def Ge(i:Nat)(M:DL w V bs)(h:bs[i]?=some (some (B,.rat q)):=by rfl)(hp:p1=N (some ⟨B,0,none⟩):=by rfl)(e:ρ x=p1:=by kernel_rfl):∃u,(execOp ρ { dst:=dst,op:=.load 36 x,type:=ty,pos:=ps,after:=af,guard:=gd }).run L V=.ok (.value u) V/\Has V u (.int q.num):=by
 rw[hp]at e;obtain⟨s,a,l,c,t,b,k,d,n,_,r,_⟩:=M.rat h;obtain⟨f,g,j,m⟩:=n.kb;exact⟨_,by go_simp,r⟩
def mv{y:E}(h:ρ x=y:=by kernel_rfl):∃u,(execOp ρ { dst:=dst,op:=.move x,type:=ty,pos:=ps,after:=af,guard:=gd }).run L V=.ok (.value u) V/\Has V u (.eq y):=⟨_,rfl,h⟩
def av{y:E}(h:ρ x=y:=by kernel_rfl):∃u,(execOp ρ { dst:=dst,op:=.assign x,type:=ty,pos:=ps,after:=af,guard:=gd }).run L V=.ok (.value u) V/\Has V u (.eq y):=⟨_,rfl,h⟩
def mw(a:Has V u1 d)(h:ρ x=u1:=by kernel_rfl):∃u,(execOp ρ { dst:=dst,op:=.move x,type:=ty,pos:=ps,after:=af,guard:=gd }).run L V=.ok (.value u) V/\Has V u d:=⟨_,rfl,h ▸ a⟩
def aw(a:Has V u1 d)(h:ρ x=u1:=by kernel_rfl):∃u,(execOp ρ { dst:=dst,op:=.assign x,type:=ty,pos:=ps,after:=af,guard:=gd }).run L V=.ok (.value u) V/\Has V u d:=⟨_,rfl,h ▸ a⟩
def Tl(i:Nat)(M:DL w V bs)(a:m<qs.length)(hp:p1=N (some ⟨B,m*4,none⟩))(h:bs[i]?=some (some (B,.rats qs)):=by rfl)(c:ρ x=p1:=by kernel_rfl):∃u,(execOp ρ { dst:=dst,op:=.load 38 x,type:=ty,pos:=ps,after:=af,guard:=gd }).run L V=.ok (.value u) V/\Has V u (.rat (cf qs m)):=by
 rw[hp]at c;obtain⟨j,k,l,n,d,e,f,g,b⟩:=(M.rats h).at a;exact⟨_,by go_simp,b⟩
def Wr(ρ:Operand->E)(o:Oper)(V:G)(ds:List Dat)(d:Dat)(T:G->E->Prop):Prop:=∃r u W,(execOp ρ o).run L V=.ok r W/\(r=.value u\/(r=.skip/\u=R))/\Has W u d/\(∀d v,(d∈ds\/d=.any)->Has V v d->Has W v d)/\T W u
def F8(i:Nat)(M:DL w V bs)(f:Has V u1 (.int z))(h:bs[i]?=some (some (B,.int z0)):=by rfl)(hp:p1=N (some ⟨B,0,none⟩):=by rfl)(j:ρ x=p1:=by kernel_rfl)(o:ρ y=u1:=by kernel_rfl)(g:ds.all Dat.noPoly=true:=by rfl)(hT:∀ {s a l c x y},Ji V B 36 (F s) (C a l c)->DL w ((V.setCell ⟨B,0,none⟩ x).setCell ⟨B,1,none⟩ y) (bs.set i (some (B,.int z)))->T ((V.setCell ⟨B,0,none⟩ x).setCell ⟨B,1,none⟩ y) R:=by exact λ_ m=>m):Wr ρ { dst:=none,op:=.store 36 x y,type:=ty,pos:=ps,after:=af,guard:=gd } V ds (.eq R) T:=by
 rw[hp]at j;obtain⟨s,a,l,c,n,r⟩:=M.int h;obtain⟨q,t⟩:=n.ka;obtain⟨f0,f1⟩:=n.fa;obtain⟨A,p,u,c1,e⟩:=Jl.form2 (show Jl V _ _ from f);rw[e]at f;rw[e]at o;exact⟨.skip,R,_,by go_simp,Ax ⟨rfl,rfl⟩,rfl,λd v b k=>k.set2 n rfl rfl _ _ (by rcases b with b|rfl;exact AH.1 g d b;rfl),hT n (M.putInt h f)⟩
def Tm(i:Nat)(M:DL w V bs)(g:Has V u1 (.rat q))(h:bs[i]?=some (some (B,.rat q0)):=by rfl)(hp:p1=N (some ⟨B,0,none⟩):=by rfl)(o:ρ x=p1:=by kernel_rfl)(p:ρ y=u1:=by kernel_rfl)(j:ds.all Dat.noPoly=true:=by rfl)(u:noPoly bs=true:=by rfl)(hT:∀ {s a l c t b k d x y x' y'},JA V B 38 (F s) (C a l c) (F t) (C b k d)->DL w (put4 V B x y x' y') (bs.set i (some (B,.rat q)))->T (put4 V B x y x' y') R:=by exact λ_ m=>m):Wr ρ { dst:=none,op:=.store 38 x y,type:=ty,pos:=ps,after:=af,guard:=gd } V ds (.eq R) T:=by
 rw[hp]at o;obtain⟨s,a,l,c,t,b,k,d,n,r,_,_⟩:=M.rat h;obtain⟨D,K,P,Q⟩:=n.kb;obtain⟨f0,f1,f2,f3⟩:=n.fb;obtain⟨W,z,U,c1,X,A,S,d1,e⟩:=Jk.form (show Jk V _ _ from g);rw[e]at g;rw[e]at p;exact⟨.skip,R,_,by go_simp;rfl,Ax ⟨rfl,rfl⟩,rfl,λd v f k=>k.put4 n rfl rfl rfl rfl _ _ _ _ (by rcases f with f|rfl;exact AH.1 j d f;rfl),hT n (M.putRat h g u)⟩
def OK(i:Nat)(M:DL w V bs)(c:m<qs.length)(e:Has V u1 (.rat q))(hp:p1=N (some ⟨B,m*4,none⟩))(h:bs[i]?=some (some (B,.rats qs)):=by rfl)(f:ds.all Dat.noPoly=true:=by rfl)(j:noPoly bs=true:=by rfl)(g:ρ x=p1:=by kernel_rfl)(A:ρ y=u1:=by kernel_rfl)(hT:∀ {x y z u},De true V B qs->DL w (putAt V B (m*4) x y z u) (bs.set i (some (B,.rats (qs.set m q))))->T (putAt V B (m*4) x y z u) R:=by exact λ_ m=>m):Wr ρ { dst:=none,op:=.store 38 x y,type:=ty,pos:=ps,after:=af,guard:=gd } V ds (.eq R) T:=by
 rw[hp]at g;have a:=M.rats h;obtain⟨S,U,W,X,p,r,s,t,_⟩:=a.at c;have f0:=a.frozen (m*4);have f1:=a.frozen (m*4+1);have f2:=a.frozen (m*4+2);have f3:=a.frozen (m*4+3);obtain⟨P,l,K,n,Q,b9,D,o,rfl⟩:=Jk.form (show Jk V _ _ from e);exact⟨.skip,R,_,by go_simp;rfl,Ax ⟨rfl,rfl⟩,rfl,λd v b k=>k.keep (a.putKeep c _ _ _ _) (Ar (by rcases b with b|rfl;exact AH.1 f d b;rfl)),hT a (M.putRats h c e j)⟩
def F9(i:Nat)(M:DL w V bs)(h:bs[i]?=some none:=by rfl)(hT:∀ {o},DL w (V.alloc o) (bs.set i (some (V.heap.size,.int 0)))->T (V.alloc o) (N (some ⟨V.heap.size,0,none⟩)):=by exact λm=>m):Wr ρ { dst:=dst,op:=.alloc 36,type:=ty,pos:=ps,after:=af,guard:=gd } V ds .ptr T:=
 ⟨_,N (some ⟨V.heap.size,0,none⟩),_,by go_simp;exact rfl,Ar rfl,rfl,λ_ _ _ k=>k.alloc _,hT (M.fill h (.int 0) (EN V))⟩
def nb(b:List Bool)(v:List E)(a l:Nat)(d0 d1:Dat):Option (Nat × Dat):=if b.getD a false then some (blk (v.getD a R),if b.getD l false then d1 else d0)else none
def mi(a:Has V u1 (.rat q))(b:ρ x=u1:=by kernel_rfl):∃u,(execOp ρ { dst:=dst,op:=.makeInterface 38 x,type:=ty,pos:=ps,after:=af,guard:=gd }).run L V=.ok (.value u) V/\Has V u (.ifq q):=⟨.iface 38 u1,by go_simp,u1,rfl,a⟩
end
def GA{p q:Prop}(k:p)(h:p->q:=by intro x;simp only[nb,List.map_cons,List.map_nil,List.getD_cons_zero,List.getD_cons_succ,if_true,blk]at x;exact x):q:=h k
end M3
def Jr.alloc{W:G}{v:E}{z:Int}(h:Jr W v z)(o:Obj):Jr (W.alloc o) v z:=h.below (Ba W o)
def Jr.form{W:G}{v:E}{z:Int}(h:Jr W v z):∃a l cap,v=I #[C a l cap,F (decide (z<0))]:=by
 obtain⟨a,l,cap,e,_⟩:=h;exact⟨a,l,cap,e⟩
def Jr.box{W:G}{R:Nat}{t:TypeId}{u0 u1 x0 x1 v:E}{z:Int}(h:Jr W v z)(q:Ji W R t u0 u1)(c:Jw u0=true)(d:Jw u1=true):Jr ((W.setCell ⟨R,0,none⟩ x0).setCell ⟨R,1,none⟩ x1) v z:=by
 obtain⟨a,l,cap,e,b⟩:=h;exact⟨a,l,cap,e,Row.set (Row.set b q.c0 c _) (u0:=u1) (q.set0 x0).c1 d _⟩
def Tn(W X:E)(x y:Int)(w:G)(j:Jr w W x)(k:Jr w X y)(ah:Dr x<=400000000000)(ai:Dr y<=400000000000):
 M L 158 #[W,X] w λe d=>∃u,e=.returned u/\Jr d u (x-y)/\Bl w d:=by
 obtain⟨a,la,g,rfl⟩:=j.form;obtain⟨b,lb,i,rfl⟩:=k.form;obtain⟨s,hs⟩:=ex (decide (x<0));obtain⟨t,A⟩:=ex (decide (y<0));rw[hs]at j ⊢;rw[A]at k ⊢;clear hs A;obtain⟨W0,f⟩:=ex (((w.alloc (H #[C a la g,F s] 47)).alloc (H #[C b lb i,F t] 47)).alloc (H #[C none 0 0,F false] 47));have l:Bl w W0:=by rw[<-f];exact XZ w _ _ _
 have b0:Ji W0 w.heap.size 47 (C a la g) (F s):=by rw[<-f];exact((Ji.new w _ _ _).alloc _).alloc _
 have m:Ji W0 (w.heap.size+1) 47 (C b lb i) (F t):=by
  have h:=(Ji.new (w.alloc (H #[C a la g,F s] 47)) 47 (C b lb i) (F t)).alloc (H #[C none 0 0,F false] 47);rw[A1,f]at h;exact h
 have n:Ji W0 (w.heap.size+1+1) 47 (C none 0 0) (F false):=by
  have h:=Ji.new ((w.alloc (H #[C a la g,F s] 47)).alloc (H #[C b lb i,F t] 47)) 47 (C none 0 0) (F false);rw[A1,A1,f]at h;exact h
 have HN:=Z λ(V:G) (h:Bl W0 V)=>M9 _ y V ((k.below l).below h);have HS:=Z λ(V:G) (u:E) (h:Bl W0 V) (hu:Jr V u (-y))=>K5 _ u x (-y) V ((j.below l).below h) hu ah (by unfold Dr at *;rw[Fd];exact ai);clear j k;go_enter func158,ntmps158
 go_wp2_with fail
 try rw[f]
 clear f;have c:Bl W0 W0.drew:=(BB _ W0).drew;obtain⟨B,D⟩:=b0.cp;obtain⟨K,P⟩:=m.cp;have aj:¬(w.heap.size=w.heap.size+1+1):=O
 go_region_held3 (λd=>d.cell? ⟨w.heap.size,0,none⟩=some (C a la g)/\d.cell? ⟨w.heap.size,1,none⟩=some (F s)/\d.cell? ⟨w.heap.size+1,0,none⟩=some (C b lb i)/\d.cell? ⟨w.heap.size+1,1,none⟩=some (F t)) (refine⟨?_,?_,?_,?_⟩<;>(first|(go_keep;done)|((repeat rw[JD O]);simp[*];done)))
  (first
   |(go_at_call 126;refine(HN.o _ c).mono ?_;rintro e w1 ⟨u1,rfl,r,ad⟩;obtain⟨na,nl,nc,rfl⟩:=r.form;obtain⟨s1,o⟩:=ex (decide (-y<0));rw[o]at r;rw[o];clear o;have c:=Bt c ad;obtain⟨B,D⟩:=(b0.below c).cp;obtain⟨K,P⟩:=(m.below c).cp)
   |(go_at_call 108;refine(HS.o _ _ c r).mono ?_;rintro e w2 ⟨u2,rfl,z,ae⟩;obtain⟨S,U,T,rfl⟩:=z.form;obtain⟨Q,q⟩:=ex (decide (x+-y<0));rw[q]at z;rw[q];clear q;have c:=Bt c ae;obtain⟨B,D⟩:=(b0.below c).cp;obtain⟨K,P⟩:=(m.below c).cp;obtain⟨r0,r1⟩:=(n.below c).cp;obtain⟨f0,f1⟩:=(n.below c).fp))
 all_goals go_wp2_with fail
 have Qc:=Bt l c;have Qb:=z.box (n.below c) rfl rfl (x0:=C S U T) (x1:=F Q);exact BA (v:=I #[C S U T,F Q]) (by simp[results,results158,go_sem,r0,r1]) rfl ⟨_,rfl,by rw[Int.sub_eq_add_neg];exact Qb,(Qc.setCell (p:=⟨_,0,none⟩) so _).setCell (p:=⟨_,1,none⟩) so _⟩
def OL(va vb:E)(x y:Int)(w:G)(g:Jl w va x)(hb:Jl w vb y)(ah:(Jb Y x.natAbs).length<1099511627776)(ai:(Jb Y y.natAbs).length<1099511627776):
 M L 88 #[va,vb] w λe d=>∃u,e=.returned u/\Jl d u (x-y)/\Bl w d:=by
 obtain⟨a,la,B,rfl⟩:=g.form;obtain⟨b,lb,f,e0,i⟩:=hb;cases e0;obtain⟨s,hs⟩:=ex (decide (x<0));obtain⟨t,q⟩:=ex (decide (y<0));rw[hs]at g ⊢;rw[q];clear hs;obtain⟨W0,m⟩:=ex (((w.alloc (H #[F s,C a la B] 36)).alloc (H #[F t,C b lb f] 36)).alloc (H #[F false,C none 0 0] 36));obtain⟨l,b0,j,k⟩:=Ii m;have A:(if(!t)=true then -(y.natAbs:Int)else y.natAbs)=-y:=by
  rw[<-q];by_cases h:y<0
  . simp only[h,decide_true,Bool.not_true,Cy,if_false];omega
  . simp only[h,decide_false,Bool.not_false,if_true];omega
 have HN:=Z (λ(V:G) (h:Bl W0 V)=>show M L 112 #[F (!t),C b lb f] V λe d=>∃u,e=.returned u/\Jl d u (-y)/\Bl V d by
  have D:=GV (!t) (C b lb f) y.natAbs V (UN.below (UN.below i l) h);rw[A]at D;exact D)
 have HS:=Z λ(V:G) (u:E) (h:Bl W0 V) (i:Jl V u (-y))=>LT _ u x (-y) V ((g.below l).below h) i ah (by rw[Fd];exact ai);clear g i A q;go_enter func88,ntmps88
 go_wp2_with fail
 try rw[m]
 clear m;have c:Bl W0 W0.drew:=(BB _ W0).drew;obtain⟨K,P⟩:=b0.cp;obtain⟨Q,S⟩:=j.cp;have aj:¬(w.heap.size=w.heap.size+1+1):=O
 go_region_held3 (λd=>d.cell? ⟨w.heap.size,0,none⟩=some (F s)/\d.cell? ⟨w.heap.size,1,none⟩=some (C a la B)/\d.cell? ⟨w.heap.size+1,0,none⟩=some (F t)/\d.cell? ⟨w.heap.size+1,1,none⟩=some (C b lb f)) (refine⟨?_,?_,?_,?_⟩<;>(first|(go_keep;done)|((repeat rw[JD O]);simp[*];done)))
  (first
   |(go_at_call 112;refine(HN.o _ c).mono ?_;rintro e w1 ⟨u1,rfl,r,ad⟩;obtain⟨na,nl,nc,rfl⟩:=r.form;obtain⟨s1,n⟩:=ex (decide (-y<0));rw[n]at r;rw[n];clear n;have c:=Bt c ad;obtain⟨K,P⟩:=(b0.below c).cp;obtain⟨Q,S⟩:=(j.below c).cp)
   |(go_at_call 81;refine(HS.o _ _ c r).mono ?_;rintro e w2 ⟨u2,rfl,z,ae⟩;obtain⟨U,X,W,rfl⟩:=z.form;obtain⟨T,o⟩:=ex (decide (x+-y<0));rw[o]at z;rw[o];clear o;have c:=Bt c ae;obtain⟨K,P⟩:=(b0.below c).cp;obtain⟨Q,S⟩:=(j.below c).cp;obtain⟨r0,r1⟩:=(k.below c).cp;obtain⟨f0,f1⟩:=(k.below c).fp))
 all_goals go_wp2_with fail
 have Qc:=Bt l c;have Qb:=z.box (k.below c) rfl rfl (x0:=F T) (x1:=C U X W);exact BA (v:=I #[F T,C U X W]) (by simp[results,results88,go_sem,r0,r1]) rfl ⟨_,rfl,by rw[Int.sub_eq_add_neg];exact Qb,(Qc.setCell (p:=⟨_,0,none⟩) so _).setCell (p:=⟨_,1,none⟩) so _⟩
def To(a:Zu)(la j:Nat)(b:Zu)(lb k m n:Nat)(w:G)(y:la+lb<=1099511627776)
(d:Row .u64 w (C a la j) (Jb Y m))(f:Row .u64 w (C b lb k) (Jb Y n)):
 M L 118 #[C a la j,C b lb k] w λe s=>∃u,e=.returned u/\UN s u (m*n)/\Bl w s:=by
 have q:=Ga (la+lb) O w;rw[show((la+lb:Nat):Int)=(la:Int)+(lb:Int)from by omega]at q;obtain⟨c,g⟩:∃c,c=w.alloc (H (cellsOf .u64 (Zw (la+lb) 0)).toArray 163):=⟨_,rfl⟩;have i:Bl w c:=by rw[g];exact Ba w _
 have o:DO c w.heap.size (Zw (la+lb) 0):=by rw[g];exact DO.made (BC w _)
 rw[<-g]at q;have t:=Z (SJ w.heap.size (la+lb) (la+lb) (Zw (la+lb) 0) a la j b lb k m n c o (λx z=>by rw[CP z];unfold Y;omega) DY (Aa _) O y (Row.below d i) (Row.below f i)
  (λp e l=>by have:=F3 d e l;omega) λp e l=>by have:=F3 f e l;omega)
 have A:=(Jq d).2.1;have B:=(Jq d).2.2.1;have D:=(Jq f).2.1;have K:=(Jq f).2.2.1;clear g o d f;go_enter func118,ntmps118
 go_wp2_with(go_at_call 153;refine t.o.mono ?_;rintro e S ⟨u,rfl,⟨r,v⟩,_,_⟩;obtain⟨P,Q,rfl⟩:=UN.form r)
 go_ret;exact⟨_,rfl,r,below_grown i v (Aa _)⟩
def XP(U W:E)(x y:Int)(w:G)(ha:Jl w U x)(hb:Jl w W y)(hl:(Jb Y x.natAbs).length+(Jb Y y.natAbs).length<=1099511627776):
 M L 85 #[U,W] w λe g=>∃u,e=.returned u/\Jl g u (x*y)/\Bl w g:=by
 obtain⟨a,la,m,o,j⟩:=ha;cases o;obtain⟨b,lb,n,o,B⟩:=hb;cases o;have Qc:=j.len;have Qd:=B.len;obtain⟨s,hs⟩:=ex (decide (x<0));obtain⟨t,z⟩:=ex (decide (y<0));have D:(if(!(s==t))=true then -((x.natAbs*y.natAbs:Nat):Int)else((x.natAbs*y.natAbs:Nat):Int))=x*y:=by
  rw[<-hs,<-z,<-Int.natAbs_mul];rcases C1 x 0 with d|d|d<;>rcases C1 y 0 with f|f|f
  . have:=Int.mul_pos_of_neg_of_neg d f;simp[d,f];omega
  . subst f;simp
  . have:=Int.mul_neg_of_neg_of_pos d f;have i:¬y<0:=O
    simp[d,i];omega
  . subst d;simp
  . subst d;simp
  . subst d;simp
  . have:=Int.mul_neg_of_pos_of_neg d f;have i:¬x<0:=O
    simp[f,i];omega
  . subst f;simp
  . have:=Int.mul_pos d f;have i:¬x<0:=O
    have h2:¬y<0:=O
    simp[i,h2];omega
 rw[hs,z];obtain⟨W0,r⟩:=ex (((w.alloc (H #[F s,C a la m] 36)).alloc (H #[F t,C b lb n] 36)).alloc (H #[F false,C none 0 0] 36));obtain⟨q,b0,k,l⟩:=Ii r;have HT:=Z λ(V:G) (h:Bl W0 V)=>To a la m b lb n _ _ V O (UN.below (UN.below j q) h) (UN.below (UN.below B q) h);have X:=Z (λ(V:G) (u:E) (j:UN V u (x.natAbs*y.natAbs))=>show M L 112 #[F (!(s==t)),u] V λe g=>∃u,e=.returned u/\Jl g u (x*y)/\Bl V g by
  have i:=GV (!(s==t)) u _ V j;rw[D]at i;exact i)
 clear j B D hs z Qc Qd hl;go_enter func85,ntmps85
 go_wp2_with fail
 try rw[r]
 clear r;have c:Bl W0 W0.drew:=(BB _ W0).drew;obtain⟨P,Q⟩:=b0.cp;obtain⟨S,T⟩:=k.cp;have ah:¬(w.heap.size=w.heap.size+1+1):=O
 go_region_held3 (λg=>g.cell? ⟨w.heap.size,0,none⟩=some (F s)/\g.cell? ⟨w.heap.size,1,none⟩=some (C a la m)/\g.cell? ⟨w.heap.size+1,0,none⟩=some (F t)/\g.cell? ⟨w.heap.size+1,1,none⟩=some (C b lb n)) (refine⟨?_,?_,?_,?_⟩<;>(first|(go_keep;done)|((repeat rw[JD O]);simp[*];done)))
  (first
   |(go_at_call 118;refine(HT.o _ c).mono ?_;rintro e w1 ⟨u1,rfl,K,ad⟩;obtain⟨na,nc,rfl⟩:=UN.form K;have c:=Bt c ad;obtain⟨P,Q⟩:=(b0.below c).cp;obtain⟨S,T⟩:=(k.below c).cp)
   |(go_at_call 112;refine(X.o _ _ K).mono ?_;rintro e w2 ⟨u2,rfl,A,ae⟩;obtain⟨sa,sl,sc,rfl⟩:=A.form;obtain⟨s2,v⟩:=ex (decide (x*y<0));rw[v]at A;rw[v];clear v;have c:=Bt c ae;obtain⟨P,Q⟩:=(b0.below c).cp;obtain⟨S,T⟩:=(k.below c).cp;obtain⟨r0,r1⟩:=(l.below c).cp;obtain⟨f0,f1⟩:=(l.below c).fp))
 all_goals go_wp2_with fail
 have Qe:=Bt q c;have Qa:=A.box (l.below c) rfl rfl (x0:=F s2) (x1:=C sa sl sc);exact BA (by simp[results,results85,go_sem,r0,r1]) rfl ⟨_,rfl,Qa,(Qe.setCell (p:=⟨_,0,none⟩) so _).setCell (p:=⟨_,1,none⟩) so _⟩
section
def Dg(W:G)(b:Nat)(xs:Ja):Prop:=∃a:List E,W.heap[b]?=some (H (cellsOf .i64 xs++a).toArray 3 (0,0))
variable{xs:Ja}{b c k l n:Nat}
theorem Dg.lt{W:G}(h:Dg W b xs):b<W.heap.size:=by obtain⟨_,h⟩:=h;grind
theorem Dg.cell{W:G}{b:Nat}{xs:Ja}(h:Dg W b xs){j:Nat}(a:j<xs.length):W.cell? ⟨b,j,none⟩=some (.int .i64 (xs[j]?.getD 0:Nat)):=by
 obtain⟨c,h⟩:=h;grind[cellsOf,World.cell?]
def Dg.frozen{W:G}{b:Nat}{xs:Ja}(h:Dg W b xs)(j:Nat):W.frozen? ⟨b,j,none⟩=false:=by obtain⟨_,h⟩:=h;simp[World.frozen?,h]
def Dg.of_block{W W':G}(h:Dg W b xs)(e:W'.heap[b]?=W.heap[b]?):Dg W' b xs:=by obtain⟨a,h⟩:=h;exact⟨a,e.trans h⟩
def Dg.kept{W W':G}{row:Option Nat}(h:Dg W b xs)(hg:W.grownBy W' row)(a:some b≠row):Dg W' b xs:=h.of_block (hg.block b h.lt a)
def Dg.below{W W':G}(h:Dg W b xs)(a:Bl W W'):Dg W' b xs:=h.of_block (a.block b h.lt)
def Dg.alloc{W:G}{b:Nat}{xs:Ja}(h:Dg W b xs)(o:Obj):Dg (W.alloc o) b xs:=h.below (Ba W o)
theorem Dg.set{W:G}{b:Nat}{xs:Ja}(h:Dg W b xs)(j v:Nat):Dg (W.setCell ⟨b,j,none⟩ (.int .i64 (v:Nat))) b (xs.set j v):=by
 obtain⟨c,h⟩:=h;obtain⟨g,f⟩:=Ab.1 h;have e:∃a,(cellsOf .i64 xs++c).set j (.int .i64 (v:Nat))=cellsOf .i64 (xs.set j v)++a:=by
  rcases AF j xs.length with d|d
  . exact⟨c,by grind[cellsOf,List.map_set]⟩
  . grind[Xk,CQ]
 obtain⟨a,e⟩:=e;refine⟨a,?_⟩;show(W.heap.modify b _)[b]?=_;grind
def Dg.made{W:G}(h:W.heap[b]?=some (H (cellsOf .i64 xs).toArray 3 (0,0))):Dg W b xs:=⟨[],by rw[Ce];exact h⟩
def Dg.row{W:G}(h:Dg W b xs)(a len cap:Nat)(f:a+len<=xs.length)(g:len<=cap)(d:cap<=9223372036854775807)(i:len<=1099511627776):Row .i64 W (C (some ⟨b,a,none⟩) len cap) ((xs.drop a).take len):=by
 have e:((xs.drop a).take len).length=len:=by rw[Ai,AY];omega
 refine⟨_,cap,by rw[e],O,d,O,Ax ⟨b,a,rfl,(by obtain⟨k,h⟩:=h;exact⟨_,_,h⟩),λj c=>?_⟩⟩;rw[e]at c;rw[h.cell O,Cj c,List.getElem?_drop]
theorem Tp(n:Nat):madeCells #[.int .i64 0] n=(cellsOf .i64 (Zw n 0)).toArray:=by
 grind[madeCells,cellsOf]
def OM(n:Nat)(h:n<=2199023255552)(w:G):(Instr.makeSlice 45 (.int .i64 (n:Int)) (.int .i64 (n:Int))).run L w=.ok (C (some ⟨w.heap.size,0,none⟩) n n) (w.alloc (H (cellsOf .i64 (Zw n 0)).toArray 3)):=by
 rw[<-Tp];exact run_make_row' 45 3 (.int .i64 0) 8 underlying45 Tryz.infoInt rfl .i64 .i64 n O O w
theorem Lq(B:Nat):∀(D:Ja) (j d:Nat),j<D.length->val B (D.set j d)+B^j*D[j]?.getD 0=val B D+B^j*d
 |[],_,_,h=>by cases h
 |x::D,0,d,_=>by simp[val];omega
 |x::D,j+1,d,h=>by
  have a:=Lq B D j d (by simpa using h);grind[val]
def ON(B n:Nat):val B (Zw n 0)=0:=by
 induction n with
 |zero=>rfl
 |succ n a=>rw[Cv,val,a];simp
def DK.set{B:Nat}{D:Ja}(h:DK B D)(j:Nat){d:Nat}(b:d<B):DK B (D.set j d):=λx c=>by
 rcases List.mem_or_eq_of_mem_set c with a|a
 . exact h x a
 . rw[a];exact b
def FD(a bs:Ja)(i:Nat)(D:Ja):Prop:=
 D.length=a.length+bs.length+1/\DK 10000 D/\val 10000 D=val 10000 (a.take i)*val 10000 bs
def Ey(a bs:Ja)(i k c:Nat)(D:Ja):Prop:=
 D.length=a.length+bs.length+1/\DK 10000 D/\c<10000/\
  val 10000 D+10000^(i+k)*c=val 10000 (a.take i)*val 10000 bs+10000^i*(a[i]?.getD 0*val 10000 (bs.take k))
theorem FD.start(a bs:Ja):FD a bs 0 (Zw (a.length+bs.length+1) 0):=
 ⟨AM,λx b=>by grind,by rw[ON];simp[val]⟩
def FD.inner{a bs:Ja}{i:Nat}{D:Ja}(h:FD a bs i D):Ey a bs i 0 0 D:=by
 obtain⟨b,c,d⟩:=h;refine⟨b,c,O,?_⟩;rw[d];simp[val]
theorem Ey.total{a bs:Ja}{i:Nat}{D:Ja}(h:Ey a bs i k c D)(d:bs.length<=k):val 10000 D+10000^(i+k)*c=val 10000 (a.take (i+1))*val 10000 bs:=by
 obtain⟨_,_,_,b⟩:=h;grind[Ac,Jp]
def Ey.done{a bs:Ja}{i:Nat}{D:Ja}(h:Ey a bs i k 0 D)(b:bs.length<=k):FD a bs (i+1) D:=by
 have:=h.total b;exact⟨h.1,h.2.1,O⟩
def Ey.over{a bs:Ja}{i:Nat}{D:Ja}(h:Ey a bs i k c D)(g:DK 10000 a)(j:DK 10000 bs)(n:i<a.length)(o:bs.length<k):c=0:=by
 have l:=h.total O;have d:=J7 (g.take (i+1));have e:=J7 j;rw[Ai,Cw O]at d;have f:val 10000 (a.take (i+1))*val 10000 bs<10000^(i+1)*10000^bs.length:=Nat.mul_lt_mul'' d e;rw[<-CC]at f;have m:10000^(i+1+bs.length)<=10000^(i+k):=Au O O;rcases AQ c with b|b
 . exact b
 . have:=AA (10000^(i+k)) b;omega
theorem Ey.step{a bs:Ja}{i:Nat}{D:Ja}(h:Ey a bs i k c D)(d:DK 10000 a)(e:DK 10000 bs)(m:i+k<D.length)(c1:Nat)(l:c1=c+D[i+k]?.getD 0+a[i]?.getD 0*bs[k]?.getD 0):
 Ey a bs i (k+1) (c1/10000) (D.set (i+k) (c1%10000)):=by
 obtain⟨f,b,g,j⟩:=h;have x1:=d.getD O i;have n:=e.getD O k;have o:=b.getD O (i+k);have p:a[i]?.getD 0*bs[k]?.getD 0<=9999*9999:=Ff O O;refine⟨DY,b.set _ (AV _ O),O,?_⟩;grind[Lq,Jp,AZ]
theorem FD.fin{a bs D:Ja}{m:Nat}(h:FD a bs a.length D)(d:a=Jb 10000 m)(e:bs=Jb 10000 n):Js D=Jb 10000 (m*n):=by
 obtain⟨_,b,c⟩:=h;grind[JQ,Jn]
def Ji.keptG{W W':G}{B:Nat}{t:TypeId}{x y:E}{g:Nat}(h:Ji W B t x y)(hg:W.grownBy W' (some g))(a:B≠g):Ji W' B t x y:=
 (hg.block B h.lt λe=>a (by cases e;rfl)).trans h
theorem Tq{x y:Nat}(a:x<10000)(b:y<10000):x*y<=99980001/\IntKind.i64.wrap ((x:Int)*(y:Int))=((x*y:Nat):Int):=by
 have h:x*y<=9999*9999:=Ff O O;grind[IntKind.wrap,IntKind.bits]
def Tr(a b:Zu)(la lb r z m n:Nat)(s t:Bool)(w:G)(ra:RN w (C a la r) m)(rb:RN w (C b lb z) n)(bm:la<=400000000000)(bn:lb<=400000000000):
 M L 109 #[I #[C a la r,F s],I #[C b lb z,F t]] w λe X=>∃c lc cc,e=.returned (I #[C c lc cc,F ((s != t)&&decide (0<lc))])/\RN X (C c lc cc) (m*n)/\Bl w X:=by
 obtain⟨W0,P⟩:=ex (((w.alloc (H #[C a la r,F s] 47)).alloc (H #[C b lb z,F t] 47)).alloc (H #[C none 0 0,F false] 47));have Qk:Bl w W0:=by rw[<-P];exact XZ w _ _ _
 have b0:Ji W0 w.heap.size 47 (C a la r) (F s):=by rw[<-P];exact((Ji.new w _ _ _).alloc _).alloc _
 have b1:Ji W0 (w.heap.size+1) 47 (C b lb z) (F t):=by
  have h:=(Ji.new (w.alloc (H #[C a la r,F s] 47)) 47 (C b lb z) (F t)).alloc (H #[C none 0 0,F false] 47);rw[A1,P]at h;exact h
 have bR:Ji W0 (w.heap.size+1+1) 47 (C none 0 0) (F false):=by
  have h:=Ji.new ((w.alloc (H #[C a la r,F s] 47)).alloc (H #[C b lb z,F t] 47)) 47 (C none 0 0) (F false);rw[A1,A1,P]at h;exact h
 have Ql:W0.heap.size=w.heap.size+3:=by rw[<-P];simp
 obtain⟨ad,bf,bt,bi,an⟩:=Jq ra;obtain⟨ae,bg,bu,bj,ap⟩:=Jq rb;have HF:=Z λD (h:FD (Jb 10000 m) (Jb 10000 n) (Jb 10000 m).length D)=>h.fin (m:=m) (n:=n) rfl rfl;have xa:=Jm (B:=10000) O m;have xb:=Jm (B:=10000) O n;have Qd:=OM (la+lb+1) O W0;rw[show((la+lb+1:Nat):Int)=(la:Int)+(lb:Int)+1 from by omega]at Qd;obtain⟨l,A⟩:=ex (W0.alloc (H (cellsOf .i64 (Zw (la+lb+1) 0)).toArray 3));rw[A]at Qd;obtain⟨g,hg⟩:∃g,g=W0.heap.size:=⟨_,rfl⟩;rw[<-hg]at Qd Ql;have Qh:Dg l g (Zw (la+lb+1) 0):=by rw[<-A,hg];exact Dg.made (BC W0 _)
 have S:Bl w l:=by rw[<-A];exact Qk.alloc Qk.size _
 have q0:Ji l w.heap.size 47 (C a la r) (F s):=by rw[<-A];exact b0.alloc _
 have q1:Ji l (w.heap.size+1) 47 (C b lb z) (F t):=by rw[<-A];exact b1.alloc _
 have qR:Ji l (w.heap.size+1+1) 47 (C none 0 0) (F false):=by rw[<-A];exact bR.alloc _
 have k0:=b0.c0;have k1:=b1.c0;have HS:=Z (FD.start (Jb 10000 m) (Jb 10000 n));generalize Jb 10000 m=us at *;generalize Jb 10000 n=V at *;obtain⟨H1,H2,Qe,T⟩:=Dn an ap ad ae;rw[<-ad,<-ae]at HS;have bh:w.heap.size+2<g:=O
 clear Ql;clear an ap ad ae ra rb A hg b0 b1 bR;go_enter func109,ntmps109
 go_wp2;clear P Qd k0 k1;go_loopw [6] (λiv wr=>∃(i:Nat) (D:Ja),iv=.int .i64 i/\i<=la/\Hid (FD us V i D)/\Dg wr g D/\l.grownBy wr (some g))
  (λiv _=>la-(intOf iv).toNat)
 case atStart=>exact⟨0,_,rfl,AJ _,HS.o,Qh,Ym _ _⟩
 case round=>
  clear HS Qh;obtain⟨i,D,rfl,hi,Q,j,f⟩:=hrel;have m0:=(q0.keptG f O).c0;have m1:=(q0.keptG f O).c1;have m2:=(q1.keptG f O).c0;have m3:=(q1.keptG f O).c1;by_cases aq:i<la
  . have HI:=Z Q.o.inner;clear Q;obtain⟨ab,ao,rfl,az,aj⟩:=H1.o i aq;go_wp2;go_loopw [7,8] (λcv kv wr=>∃(c k:Nat) (D:Ja),cv=.int .i64 c/\kv=.int .i64 k/\k<=lb+1/\c<10000/\Hid (Ey us V i k c D)/\Dg wr g D/\l.grownBy wr (some g)) (λ_ kv _=>lb+2-(intOf kv).toNat)
    case atStart=>exact⟨0,0,D,rfl,rfl,O,O,HI,j,f⟩
    case round=>
     clear HI j f m0 m1 m2 m3;obtain⟨c,k,D,rfl,rfl,hk,hc,q,j,f⟩:=hrel;have m0:=(q0.keptG f O).c0;have m2:=(q1.keptG f O).c0;have Qf:=q.o.1;rw[<-Qe.o,<-T.o]at Qf;by_cases bd:k<lb
     . obtain⟨bb,bo,rfl,bc,ak⟩:=H2.o k bd;have bz:wr.cell? ⟨ab,ao+i,none⟩=some (.int .i64 (us[i]?.getD 0:Nat)):=(BR (w:=l) (f.block ab (by have:=S.size;omega) λe=>by cases e;omega)).trans ((S.cell (p:=⟨ab,ao+i,none⟩) az).trans aj);have ce:wr.cell? ⟨bb,bo+k,none⟩=some (.int .i64 (V[k]?.getD 0:Nat)):=(BR (w:=l) (f.block bb (by have:=S.size;omega) λe=>by cases e;omega)).trans ((S.cell (p:=⟨bb,bo+k,none⟩) bc).trans ak);have Qm:wr.cell? ⟨g,i+k,none⟩=some (.int .i64 (D[i+k]?.getD 0:Nat)):=j.cell O;have Qn:=j.frozen (i+k);have y1:=xa.getD O i;have y2:=xb.getD O k;have y3:=q.o.2.1.getD O (i+k);have K:=Z (q.o.step xa xb O _ rfl);obtain⟨z1,z2⟩:=Tq y1 y2;generalize us[i]?.getD 0=x at *;generalize V[k]?.getD 0=y at *;generalize D[i+k]?.getD 0=d at *;generalize x*y=p at *;clear aj ak;go_upto_region 11 with fail
       go_quiet (fail)
       go_wp2;have e2:((c:Int)+(d:Int)+(p:Int))%10000=(((c+d+p)%10000:Nat):Int):=O
       rw[e2];exact⟨⟨(c+d+p)/10000,k+1,D.set (i+k) ((c+d+p)%10000),by go_num,DJ,O,K.o.2.2.1,K,Dg.set (W:=wr.drewN nq) j _ _,Je (B:=wr.drewN nq) ⟨f.os,f.tape,f.output,f.size,f.block⟩ (Jy _ _ _ _)⟩,by simp[intOf];omega⟩
     . rcases AQ c with ai|ai
       . subst ai;have HN:=Z (q.o.done (by rw[<-T.o];omega));clear q;go_wp2;exact⟨⟨i+1,D,DJ,O,HN,j,f⟩,by simp[intOf];omega⟩
       . have bk:k<=lb:=by
          rcases AF lb k with h|h
          . have:=q.o.over xa xb (by rw[<-Qe.o];exact aq) (by rw[<-T.o];exact h);omega
          . exact h
         have Qm:wr.cell? ⟨g,i+k,none⟩=some (.int .i64 (D[i+k]?.getD 0:Nat)):=j.cell O;have Qn:=j.frozen (i+k);have y3:=q.o.2.1.getD O (i+k);have Qi:V[k]?.getD 0=0:=by rw[AU (by rw[<-T.o];omega)];rfl
         have K:=Z (q.o.step xa xb O _ rfl);rw[Qi,Cb,A6]at K;clear Qi;generalize D[i+k]?.getD 0=d at *;go_wp2;have e2:((c:Int)+(d:Int))%10000=(((c+d)%10000:Nat):Int):=O
         rw[e2];exact⟨⟨(c+d)/10000,k+1,D.set (i+k) ((c+d)%10000),by go_num,DJ,O,K.o.2.2.1,K,Dg.set j _ _,Je f (Jy _ _ _ _)⟩,by simp[intOf];omega⟩
  . obtain rfl:i=la:=O
    have Qg:Row .i64 wr (C (some ⟨g,0,none⟩) (i+lb+1) (i+lb+1)) D:=by
     have Qf:=Q.o.1;rw[<-Qe.o,<-T.o]at Qf;have h1:=j.row 0 (i+lb+1) (i+lb+1) O (Aa _) O O;rwa[AB,Ac O]at h1
    have Qo:=Z (HF.o D (by rw[<-Qe.o];exact Q.o));have Qj:Bl w wr:=below_grown S f O;have rR:=qR.keptG f O;have p0:=q0.keptG f O;have p1:=q1.keptG f O;clear Q HF H1 H2;go_upto_region 14 with fail
    have o:Bl wr wr.drew:=(BB _ wr).drew;have cg:¬(w.heap.size=w.heap.size+1+1):=O
    go_region_held3 (λX=>X.cell? ⟨w.heap.size,1,none⟩=some (F s)/\X.cell? ⟨w.heap.size+1,1,none⟩=some (F t)) (refine⟨?_,?_⟩<;>(first|(go_keep;done)|((repeat rw[JD O]);simp[*];done)))
     (first
      |(go_at_call 140;refine(GS _ D _ (Row.below Qg o)).mono ?_;rintro e w1 ⟨u,rfl,U,rfl⟩;rw[Qo.o]at U;obtain⟨a',c',rfl⟩:=RN.form U)
      |(go_at_call 141;refine(Fw _ _ _ _ _).mono ?_;rintro e w2 ⟨rfl,ah⟩;have U:=Row.below U ah;have o:=Bt o ah;have m1:=(p0.below o).c1;have m3:=(p1.below o).c1;obtain⟨r0,r1⟩:=(rR.below o).cp;obtain⟨f0,f1⟩:=(rR.below o).fp))
    all_goals go_wp2_with fail
    obtain⟨hr,ay⟩:=JW (C a' (Jb 10000 (m*n)).length c') (F (!(s==t)&&decide (0<(Jb 10000 (m*n)).length))) (Bt Qj o) O (rR.below o) rfl rfl U;exact BA (v:=I #[C a' (Jb 10000 (m*n)).length c',F (!(s==t)&&decide (0<(Jb 10000 (m*n)).length))]) (by simp[results,results109,go_sem,r0,r1]) rfl ⟨_,_,_,rfl,hr,ay⟩
def GB(n o:E)(x y:Int)(w:G)(A:Jr w n x)(B:Jr w o y)(D:Dr x<=400000000000)(K:Dr y<=400000000000):
 M L 109 #[n,o] w λe j=>∃u,e=.returned u/\Jr j u (x*y)/\Bl w j:=by
 obtain⟨a,la,p,rfl,l⟩:=A;obtain⟨b,lb,q,rfl,m⟩:=B;have P:=(Jq l).1;have Q:=(Jq m).1;unfold Dr at D K;refine(Tr a b la lb p q _ _ _ _ w l m O O).mono ?_;rintro e j ⟨c,i,r,rfl,k,z⟩;refine⟨_,rfl,⟨c,i,r,?_,?_⟩,z⟩
 . have hl:=(Jq k).1;have s:((decide (x<0) != decide (y<0))&&decide (0<i))=decide (x*y<0):=by
    rw[Ci];simp only[AN,Bb];have t:0<i↔x.natAbs*y.natAbs≠0:=by
     rw[hl,AP,Ne,Jz O]
    rw[t];rcases C1 x 0 with d|d|d<;>rcases C1 y 0 with f|f|f
    . have:=Int.mul_pos_of_neg_of_neg d f;simp[d,f];omega
    . subst f;simp
    . have:=Int.mul_neg_of_neg_of_pos d f;have g:¬y<0:=O
      simp only[d,g,decide_true,decide_false,this,iff_true];exact⟨rfl,C9 O O⟩
    . subst d;simp
    . subst d;simp
    . subst d;simp
    . have:=Int.mul_neg_of_pos_of_neg d f;have g:¬x<0:=O
      simp only[f,g,decide_true,decide_false,this,iff_true];exact⟨rfl,C9 O O⟩
    . subst f;simp
    . have:=Int.mul_pos d f;have g:¬x<0:=O
      have v:¬y<0:=O
      simp[g,v];omega
   rw[s]
 . rw[Int.natAbs_mul];exact k
def KA{n:Int}(a:-9223372036854775808<=n)(b:n<=9223372036854775807):Dr n<=400000000000:=by
 have c:(10000:Nat)^5=100000000000000000000:=DP
 have d:=JE (B:=10000) O (n:=n.natAbs) (k:=5) O;unfold Dr;omega
def Gf{W:G}{a:Zu}(h:RN W (C a l c) n):Jr W (I #[C a l c,F false]) (n:Int):=by
 refine⟨a,l,c,?_,by rw[Ca];exact h⟩
 have:decide ((n:Int)<0)=false:=BF O
 rw[this]
def OO{W:G}{a:Zu}{q:Bool}{z:Int}(h:Jr W (I #[C a l c,F q]) z)(d:z=(n:Int)):RN W (C a l c) n/\q=false:=by
 obtain⟨g,i,c',e,b⟩:=h;simp only[DE,Fc,C7,Value.slice.injEq,Value.bool.injEq,and_true]at e;obtain⟨⟨rfl,rfl,rfl⟩,f⟩:=e;rw[d,Ca]at b;refine⟨b,?_⟩;rw[f,d];exact BF O
def Ts(a:Zu)(la g:Nat)(b:Zu)(lb v m n:Nat)(w:G)(ra:RN w (C a la g) m)(T:RN w (C b lb v) n)(ae:m<n*10000)(ai:lb<=400000000000):
 M L 183 #[C a la g,C b lb v] w λe U=>e=.returned (.int .i64 ((m/n:Nat):Int))/\Bl w U:=by
 have Qi:Dr (n:Int)<=400000000000:=by unfold Dr;rw[Ca,<-(Jq T).1];exact ai
 obtain⟨Qk,Qj,Ql,Qm⟩:=Dn Qi ra T ae;clear ra T ae Qi;go_enter func183,ntmps183
 go_wp2_with fail
 go_loopw [5,6] (λS P wr=>∃lo d:Nat,S=.int .i64 (lo:Nat)/\P=.int .i64 (d:Nat)/\lo<d/\d<=10000/\Hid (n*lo<=m/\m<n*d)/\Bl w wr)
  (λS P _=>(intOf P-intOf S).toNat)
 case atStart=>exact⟨0,10000,rfl,rfl,O,O,Z ⟨O,Qm.o⟩,BB _ w⟩
 case round=>
  obtain⟨lo,d,rfl,rfl,x,h2,o,i⟩:=hrel;obtain⟨f,aj⟩:∃f:Nat,(d:Int)-(lo:Int)=(f:Int):=⟨d-lo,O⟩;have w1:IntKind.i64.wrap (f:Int)=(f:Int):=IntWalk.i64_in _ O;by_cases ak:1<f
  . obtain⟨sm,ap⟩:∃sm:Nat,(lo:Int)+(d:Int)=(sm:Int):=⟨lo+d,O⟩;have w2:IntKind.i64.wrap (sm:Int)=(sm:Int):=IntWalk.i64_in _ O;obtain⟨c,an⟩:∃c:Nat,(sm:Int)/2=(c:Int):=⟨sm/2,O⟩;have w3:IntKind.i64.wrap (c:Int)=(c:Int):=IntWalk.i64_in _ O;have h3:lo<c/\c<d:=O
    have Qg:=Z (FB (c:Nat) O O wr);have Qf:=Z λ(V:G) (u:E) (h:Bl wr V) (K:Jr V u (c:Nat))=>GB (I #[C b lb v,F false]) u (n:Nat) (c:Nat) V (Gf (RN.below (RN.below Ql.o i) h)) K Qk.o (KA O O);obtain⟨cm,A⟩:=ex (YG (n*c) m:Int);have Qe:=Z (show ∀(V:G) (u:E),Bl wr V->RN V u (n*c)->M L 143 #[u,C a la g] V λe U=>e=.returned (.int .i64 cm)/\Bl V U from λV u h K=>by
     have x:=K4 10000 O u (C a la g) (Jb 10000 (n*c)) (Jb 10000 m) V K (RN.below (RN.below Qj.o i) h) (Jm O _) (Jm O _) (J8 O _) (J8 O _);rw[Jn O,Jn O,A]at x;exact x)
    have Qd:=Z A;clear A;go_upto_region 6 with(first
     |(go_at_call 93;refine Qg.o.mono ?_;rintro e w5 ⟨u5,rfl,k,y⟩;obtain⟨a5,l5,c5,rfl⟩:=k.form;obtain⟨s5,B⟩:=ex (decide (((c:Nat):Int)<0));rw[B]at k;rw[B];clear B)
     |(go_at_call 109;refine(Qf.o _ _ y k).mono ?_;rintro e W ⟨u6,rfl,l,ad⟩;obtain⟨s,Q,t,rfl⟩:=l.form;obtain⟨s6,D⟩:=ex (decide (((n:Nat):Int)*((c:Nat):Int)<0));rw[D]at l;rw[D];clear D))
    obtain⟨ah,rfl⟩:=OO (n:=n*c) l (by rw[C6]);have bx:=Ji.new W 47 (C s Q t) (F false);obtain⟨r,j⟩:=ex (W.alloc (H #[C s Q t,F false] 47));have q:Bl wr r:=by rw[<-j];exact((Bt y ad).alloc (Bt y ad).size _)
    have Qh:RN r (C s Q t) (n*c):=by rw[<-j];exact RN.below ah (Ba W _)
    rw[j]at bx ⊢;obtain⟨k0,k1⟩:=bx.cp;clear j Qg Qf k l ah;have X:Bl w r:=Bt i q;by_cases hle:cm<=0
    . have p:n*c<=m:=by
       have h:=Qd.o;unfold YG at h;split at h
       . omega
       . split at h<;>omega
      go_wp2_with(go_at_call 143;refine(Qe.o _ _ q Qh).mono ?_;rintro e w8 ⟨rfl,z⟩)
      exact⟨⟨c,d,rfl,rfl,O,h2,Z ⟨p,o.o.2⟩,Bt X z⟩,by simp[intOf];omega⟩
    . have p:m<n*c:=by
       have h:=Qd.o;unfold YG at h;split at h
       . omega
       . split at h
         . assumption
         . omega
      go_wp2_with(go_at_call 143;refine(Qe.o _ _ q Qh).mono ?_;rintro e w8 ⟨rfl,z⟩)
      exact⟨⟨lo,c,rfl,rfl,O,O,Z ⟨o.o.1,p⟩,Bt X z⟩,by simp[intOf];omega⟩
  . have HE:=Z (show m/n=lo by
     obtain⟨e1,e2⟩:=o.o;have e3:d=lo+1:=O
     rw[e3,CU,Nat.mul_one]at e2;apply Nat.le_antisymm
     . apply Cu;rw[AC O,Nat.succ_mul,AO lo];exact e2
     . rw[CL O,AO];exact e1)
    go_wp2_with fail
    go_ret;exact⟨by rw[HE.o];rfl,i⟩
end
namespace M3
section
variable {P:Program} {ops:Array Oper} {ds:List Dat} {ws:Ja} {J:List Bool->List Value->World->Prop} {f:Nat->Value} {V:World}
def yb:E->Option Bool
 |F b=>some b
 |_=>none
def Tt{b:Bool}{P Q a Q':Prop}(h:if b=true then P else Q)(hp:P->a)(c:Q->Q'):if b=true then a else Q':=by
 cases b
 . exact c h
 . exact hp h
def Yy{o:Oper}{mk:(Nat->E)->Act}{dp:Ja}{x:E}(k:Nat)(b:Bool)(h:Av ds dp V f)(c:Region.wanted o (yielded ops (mk f).tmps)=(yb (f k)==some b):=by kernel_rfl)(e:ds.getD k .any=.eq x:=by rfl)(a:k∈dp:=by decide):Region.wanted o (yielded ops (mk f).tmps)=(yb x==some b):=by
 rw[c,h.e k e a]
end
end M3

