import Derived.Test.YtcahejkcdcjjgaaGreatDoorQ20
import Derived.Test.YtcahejkcdcjjgaaGreatDoorQ15
import Derived.Test.YtcahejkcdcjjgaaGreatDoorQ16
import Derived.Test.YtcahejkcdcjjgaaGreatDoorQ06
import Derived.Test.YtcahejkcdcjjgaaGreatDoorQ23
set_option linter.all false
open Go renaming Value->E,World->G,Calls->M
open Go.Value renaming slice->C,bool->F,agg->L
open Go.Obj renaming cells->H
open Go.Proofs.Tryz renaming prog->I
set_option maxRecDepth 99999
set_option maxHeartbeats 0
namespace Go.Proofs.YtcahejkcdcjjgaaGreatDoor
open List renaming replicate->TT
open Proofs.Tryz
open Go.RowKit Go.Shelf
attribute [local go_sem] Oper.semAt_some
def B3:=@Value.agg.injEq
def BX:=@of_decide_eq_true
def QA(a:TR)(cap:Nat)(w:G):
 M I 60 #[L #[F false,C a 0 cap]] w λe b=>e=.returned (.string ⟨#[48]⟩)/\Bl w b:=by
 have b0:=Jf.new w 36 (F false) (C a 0 cap);have c:=b0.c1;go_enter func60,ntmps60
 go_wp2;go_ret;exact⟨rfl,Ba w _⟩
def QB(s:Bool)(a:TR)(l cap:Nat)(T:ByteArray)(w:G)(hl:0<l)(i:T.size<=100000000000000)
(c:∀V,Bl w V->M I 101 #[C a l cap] V λe b=>e=.returned (.string T)/\Bl V b):
 M I 60 #[L #[F s,C a l cap]] w λe b=>e=.returned (.string (if s then(⟨#[45]⟩:ByteArray)++T else T))/\Bl w b:=by
 have b0:=Jf.new w 36 (F s) (C a l cap);have d:Bl w (w.alloc (H #[F s,C a l cap] 36)):=Ba w _;obtain⟨k,m⟩:=b0.cp;have j:¬l=0:=O
 have f:=Z c;clear c;cases s;all_goals
  go_enter func60,ntmps60
  go_wp2_with(go_at_call 101;refine(f.o _ d).mono ?_;rintro e n ⟨rfl,g⟩)
  go_ret;exact⟨sp,Bt d g⟩
theorem XC(n:Nat):(Yv n).length<=20*(Jb Y n).length+1:=by
 unfold Yv;split
 . simp
 . rw[KK];have a:n<Y^(Jb Y n).length:=by
    grind[JS,Jh,Jc,Ji]
   have b:Y^(Jb Y n).length<=10^(20*(Jb Y n).length):=by
    rw[Nat.pow_mul];exact CL uo _
   have:=Jw (B:=10) O (Ao a b);omega
theorem Id(v:E)(z:Int)(w:G)(h:Jg w v z)(j:Lib.TabIs I w "internal/strconv.uint64pow10" .u64 Lib.pow10Tab):
 M I 60 #[v] w λe f=>e=.returned (.string ⟨(Yo z).toArray⟩)/\Bl w f:=by
 obtain⟨a,l,cap,rfl,b⟩:=h;have hl:=b.len;by_cases c:z.natAbs=0
 . have k:z=0:=O
   subst k;have i:l=0:=by rw[hl];simp[Js]
   subst i;exact QA a cap w
 . have g:0<l:=by rw[hl];exact Hk.2 c
   refine(QB _ a l cap ⟨(Yv z.natAbs).toArray⟩ w g (by
    have m:=XC z.natAbs;have n:=(Jm b).2.2.2.1;show(Yv z.natAbs).toArray.size<=_;grind) λV d=>PZ a l cap z.natAbs V (Row.below b d) c (JV j d)).mono ?_
   rintro e f ⟨rfl,o⟩;grind[Yo,GB]
def Jg.set{W:G}{v:E}{z:Int}(h:Jg W v z){p:Addr}{u0:E}(hp:W.cell? p=some u0)(b:Jy u0=true)(u:E):Jg (W.setCell p u) v z:=by
 obtain⟨a,l,cap,e,c⟩:=h;exact⟨a,l,cap,e,Row.set c hp b u⟩
def Jg.form{W:G}{v:E}{z:Int}(h:Jg W v z):∃a l cap,v=L #[F (decide (z<0)),C a l cap]:=by
 obtain⟨a,l,cap,e,_⟩:=h;exact⟨a,l,cap,e⟩
def Jg.alloc{W:G}{v:E}{z:Int}(h:Jg W v z)(o:Obj):Jg (W.alloc o) v z:=h.below (Ba W o)
def Jg.drew{W:G}{v:E}{z:Int}(h:Jg W v z):Jg W.drew v z:=h
def Jg.box{W:G}{R:Nat}{t:TypeId}{u0 u1 x0 x1 v:E}{z:Int}(h:Jg W v z)(q:Jf W R t u0 u1)(c:Jy u0=true)(d:Jy u1=true):Jg ((W.setCell ⟨R,0,none⟩ x0).setCell ⟨R,1,none⟩ x1) v z:=by
 obtain⟨a,l,cap,e,b⟩:=h;exact⟨a,l,cap,e,Row.set (Row.set b q.c0 c _) (u0:=u1) (q.set0 x0).c1 d _⟩
def JA(W:G)(B:Nat)(t:TypeId)(x y z u:E):Prop:=W.heap[B]?=some (H #[x,y,z,u] t (0,0))
section
variable {W W':World} {B:Nat} {t:TypeId} {x y z u:Value}
def JA.lt(h:JA W B t x y z u):B<W.heap.size:=(Ab.1 h).1
def JA.c0(h:JA W B t x y z u):W.cell? ⟨B,0,none⟩=some x:=by simp[World.cell?,show W.heap[B]?=_ from h]
def JA.c1(h:JA W B t x y z u):W.cell? ⟨B,1,none⟩=some y:=by simp[World.cell?,show W.heap[B]?=_ from h]
def JA.cp(h:JA W B t x y z u):type_of% (And.intro h.c0 h.c1):=⟨h.c0,h.c1⟩
def JA.c2(h:JA W B t x y z u):W.cell? ⟨B,2,none⟩=some z:=by simp[World.cell?,show W.heap[B]?=_ from h]
def JA.c3(h:JA W B t x y z u):W.cell? ⟨B,3,none⟩=some u:=by simp[World.cell?,show W.heap[B]?=_ from h]
def JA.cq(h:JA W B t x y z u):type_of% (And.intro h.c0 (And.intro h.c1 (And.intro h.c2 h.c3))):=⟨h.c0,h.c1,h.c2,h.c3⟩
def JA.f0(h:JA W B t x y z u):W.frozen? ⟨B,0,none⟩=false:=by simp[World.frozen?,show W.heap[B]?=_ from h]
def JA.f1(h:JA W B t x y z u):W.frozen? ⟨B,1,none⟩=false:=by simp[World.frozen?,show W.heap[B]?=_ from h]
def JA.fp(h:JA W B t x y z u):type_of% (And.intro h.f0 h.f1):=⟨h.f0,h.f1⟩
def JA.f2(h:JA W B t x y z u):W.frozen? ⟨B,2,none⟩=false:=by simp[World.frozen?,show W.heap[B]?=_ from h]
def JA.f3(h:JA W B t x y z u):W.frozen? ⟨B,3,none⟩=false:=by simp[World.frozen?,show W.heap[B]?=_ from h]
def JA.fq(h:JA W B t x y z u):type_of% (And.intro h.f0 (And.intro h.f1 (And.intro h.f2 h.f3))):=⟨h.f0,h.f1,h.f2,h.f3⟩
def JA.new(W:G)(t:TypeId)(x y z u:E):JA (W.alloc (H #[x,y,z,u] t)) W.heap.size t x y z u:=BD W _
def JA.below(h:JA W B t x y z u)(a:Bl W W'):JA W' B t x y z u:=(a.block B h.lt).trans h
def JA.alloc(h:JA W B t x y z u)(o:Obj):JA (W.alloc o) B t x y z u:=h.below (Ba W o)
def JA.drew(h:JA W B t x y z u):JA W.drew B t x y z u:=h
theorem JA.set0(h:JA W B t x y z u)(v:E):JA (W.setCell ⟨B,0,none⟩ v) B t v y z u:=by
 obtain⟨b,a⟩:=Ab.1 h;show(W.heap.modify B _)[B]?=_;grind
theorem JA.set1(h:JA W B t x y z u)(v:E):JA (W.setCell ⟨B,1,none⟩ v) B t x v z u:=by
 obtain⟨b,a⟩:=Ab.1 h;show(W.heap.modify B _)[B]?=_;grind
theorem JA.set2(h:JA W B t x y z u)(v:E):JA (W.setCell ⟨B,2,none⟩ v) B t x y v u:=by
 obtain⟨b,a⟩:=Ab.1 h;show(W.heap.modify B _)[B]?=_;grind
theorem JA.set3(h:JA W B t x y z u)(v:E):JA (W.setCell ⟨B,3,none⟩ v) B t x y z v:=by
 obtain⟨b,a⟩:=Ab.1 h;show(W.heap.modify B _)[B]?=_;grind
def JA.far(h:JA W B t x y z u){p:Addr}(hp:B≠p.block)(v:E):JA (W.setCell p v) B t x y z u:=(BF W p v B hp).trans h
end
def put4(W:G)(B:Nat)(x y z u:E):G:=(((W.setCell ⟨B,0,none⟩ x).setCell ⟨B,1,none⟩ y).setCell ⟨B,2,none⟩ z).setCell ⟨B,3,none⟩ u
def JA.put{W:G}{B:Nat}{t:TypeId}{x y z u:E}(h:JA W B t x y z u)(b c d a:E):JA (put4 W B b c d a) B t b c d a:=(((h.set0 b).set1 c).set2 d).set3 a
def JA.putFar{W:G}{B C:Nat}{t:TypeId}{x y z u:E}(h:JA W B t x y z u)(a:B≠C)(c d e b:E):JA (put4 W C c d e b) B t x y z u:=(((h.far a c).far a d).far a e).far a b
def Jf.putFar{W:G}{B C:Nat}{t:TypeId}{x y:E}(h:Jf W B t x y)(a:B≠C)(c d e b:E):Jf (put4 W C c d e b) B t x y:=(((h.far a c).far a d).far a e).far a b
def Jo{n B:Nat}{w W:G}(h:Below n w W)(a:n<=B)(x y z u:E):Below n w (put4 W B x y z u):=(((h.setCell (p:=⟨B,0,none⟩) a _).setCell (p:=⟨B,1,none⟩) a _).setCell (p:=⟨B,2,none⟩) a _).setCell (p:=⟨B,3,none⟩) a _
def Row.put4{k:IntKind}{W:G}{v:E}{ds:Ja}(h:Row k W v ds){B:Nat}{t:TypeId}{x y z u:E}(q:JA W B t x y z u)(d:Jy x=true)(e:Jy y=true)(f:Jy z=true)(g:Jy u=true)(a b c i:E):Row k (put4 W B a b c i) v ds:=
 Row.set (Row.set (Row.set (Row.set h q.c0 d _) (q.set0 a).c1 e _) ((q.set0 a).set1 b).c2 f _) (((q.set0 a).set1 b).set2 c).c3 g _
def Jg.put4{W:G}{v:E}{i:Int}(h:Jg W v i){B:Nat}{t:TypeId}{x y z u:E}(q:JA W B t x y z u)(c:Jy x=true)(d:Jy y=true)(f:Jy z=true)(g:Jy u=true)(k m n j:E):Jg (put4 W B k m n j) v i:=by
 obtain⟨a,l,cap,e,b⟩:=h;exact⟨a,l,cap,e,Row.put4 b q c d f g _ _ _ _⟩
def Jn.put4{W:G}{v:E}{i:Int}(h:Jn W v i){B:Nat}{t:TypeId}{x y z u:E}(q:JA W B t x y z u)(c:Jy x=true)(d:Jy y=true)(f:Jy z=true)(g:Jy u=true)(k m n j:E):Jn (put4 W B k m n j) v i:=by
 obtain⟨a,l,cap,e,b⟩:=h;exact⟨a,l,cap,e,Row.put4 b q c d f g _ _ _ _⟩
def Jj(W:G)(v:E)(q:Rat):Prop:=∃s a l c t b k d,v=L #[F s,C a l c,F t,C b k d]/\Jg W (L #[F s,C a l c]) q.num/\Jg W (L #[F t,C b k d]) (denZ q)
def Jj.below{W W':G}{v:E}{q:Rat}(h:Jj W v q)(f:Bl W W'):Jj W' v q:=by
 obtain⟨s,a,l,c,t,b,k,d,e,g,i⟩:=h;exact⟨s,a,l,c,t,b,k,d,e,g.below f,i.below f⟩
def Jj.put4{W:G}{v:E}{p:Rat}(h:Jj W v p){B:Nat}{t:TypeId}{x y z u:E}(q:JA W B t x y z u)(f:Jy x=true)(g:Jy y=true)(i:Jy z=true)(j:Jy u=true)(r w A o:E):Jj (put4 W B r w A o) v p:=by
 obtain⟨s,a,l,c,t,b,k,d,e,m,n⟩:=h;exact⟨s,a,l,c,t,b,k,d,e,m.put4 q f g i j _ _ _ _,n.put4 q f g i j _ _ _ _⟩
def Jv(W:G)(v:E)(q:Rat):Prop:=∃a l c s b k d t,v=L #[C a l c,F s,C b k d,F t]/\Jn W (L #[C a l c,F s]) q.num/\Jn W (L #[C b k d,F t]) (q.den:Int)
def Jv.below{W W':G}{v:E}{q:Rat}(h:Jv W v q)(f:Bl W W'):Jv W' v q:=by
 obtain⟨s,a,l,c,t,b,k,d,e,g,i⟩:=h;exact⟨s,a,l,c,t,b,k,d,e,g.below f,i.below f⟩
def Jv.put4{W:G}{v:E}{p:Rat}(h:Jv W v p){B:Nat}{t:TypeId}{x y z u:E}(q:JA W B t x y z u)(f:Jy x=true)(g:Jy y=true)(i:Jy z=true)(j:Jy u=true)(r w A o:E):Jv (put4 W B r w A o) v p:=by
 obtain⟨s,a,l,c,t,b,k,d,e,m,n⟩:=h;exact⟨s,a,l,c,t,b,k,d,e,m.put4 q f g i j _ _ _ _,n.put4 q f g i j _ _ _ _⟩
section
def Ys(W:G)(v:E)(x y:Int):Prop:=∃s a l c t b k d,v=L #[F s,C a l c,F t,C b k d]/\Jg W (L #[F s,C a l c]) x/\Jg W (L #[F t,C b k d]) y
variable{cs:Array E}{r:Bool}{qs:X}{b j n:Nat}{m:Nat × Nat}{V':G}
def Jj.pair{W:G}{v:E}{q:Rat}(h:Jj W v q):Ys W v q.num (denZ q):=h
theorem Ys.form{W:G}{v:E}{x y:Int}(h:Ys W v x y):∃s a l c t b k d,v=L #[F s,C a l c,F t,C b k d]:=by
 obtain⟨s,a,l,c,t,b,k,d,e,_⟩:=h;grind
def Ys.below{W W':G}{v:E}{x y:Int}(h:Ys W v x y)(f:Bl W W'):Ys W' v x y:=by
 obtain⟨s,a,l,c,t,b,k,d,e,g,i⟩:=h;exact⟨s,a,l,c,t,b,k,d,e,g.below f,i.below f⟩
def Ys.keep{V:G}{v:E}{x y:Int}(h:Ys V v x y)(f:∀k v ds,Row k V v ds->Row k V' v ds):Ys V' v x y:=by
 obtain⟨s,a,l,c,t,b,k,d,e,⟨g,p,c1,j,n⟩,⟨i,q,c2,m,o⟩⟩:=h;exact⟨s,a,l,c,t,b,k,d,e,⟨g,p,c1,j,f _ _ _ n⟩,⟨i,q,c2,m,f _ _ _ o⟩⟩
def Jv.keep{V:G}{v:E}{q:Rat}(h:Jv V v q)(f:∀k v ds,Row k V v ds->Row k V' v ds):Jv V' v q:=by
 obtain⟨s,a,l,c,t,b,k,d,e,⟨g,p,c1,j,n⟩,⟨i,r,c2,m,o⟩⟩:=h;exact⟨s,a,l,c,t,b,k,d,e,⟨g,p,c1,j,f _ _ _ n⟩,⟨i,r,c2,m,f _ _ _ o⟩⟩
theorem QC{α:Type}(l:List α)(x y:α):(l++[x]).set l.length y=l++[y]:=by
 grind
theorem Jg.form2{W:G}{v:E}{z:Int}(h:Jg W v z):∃s a l c,v=L #[F s,C a l c]:=by
 obtain⟨a,l,c,e,_⟩:=h;grind
theorem Jn.form2{W:G}{v:E}{z:Int}(h:Jn W v z):∃a l c s,v=L #[C a l c,F s]:=by
 obtain⟨a,l,c,e,_⟩:=h;grind
theorem Jj.form{W:G}{v:E}{q:Rat}(h:Jj W v q):∃s a l c t b k d,v=L #[F s,C a l c,F t,C b k d]:=by
 obtain⟨s,a,l,c,t,b,k,d,e,_⟩:=h;grind
theorem Jv.form{W:G}{v:E}{q:Rat}(h:Jv W v q):∃a l c s b k d t,v=L #[C a l c,F s,C b k d,F t]:=by
 obtain⟨s,a,l,c,t,b,k,d,e,_⟩:=h;grind
theorem Ds(W:G):Jg W (L #[F false,C Option.none 0 0]) 0:=
 ⟨Option.none,0,0,sp,by grind[UN,Js,Row.nil]⟩
theorem Lf(W:G):Jn W (L #[C Option.none 0 0,F false]) 0:=
 ⟨Option.none,0,0,sp,by grind[RN,Js,Row.nil]⟩
def Dp(W:G):Jj W (L #[F false,C Option.none 0 0,F false,C Option.none 0 0]) 0:=⟨_,_,_,_,_,_,_,_,rfl,Ds W,Ds W⟩
def Dd(r:Bool)(W:G)(v:E)(q:Rat):Prop:=match r with|true=>Jj W v q|false=>Jv W v q
def DW(r:Bool):TypeId:=match r with|true=>38|false=>49
def Dd.below{r:Bool}{W W':G}{v:E}{q:Rat}(h:Dd r W v q)(a:Bl W W'):Dd r W' v q:=by
 cases r with
 |true=>exact Jj.below h a
 |false=>exact Jv.below h a
def Dd.keep{r:Bool}{W W':G}{v:E}{q:Rat}(h:Dd r W v q)(a:∀k v ds,Row k W v ds->Row k W' v ds):Dd r W' v q:=by
 cases r with
 |true=>exact Ys.keep h a
 |false=>exact Jv.keep h a
def Dd.form{W:G}{v:E}{q:Rat}(h:Dd r W v q):∃x y z u,v=L #[x,y,z,u]/\Jy x=true/\Jy y=true/\Jy z=true/\Jy u=true:=by
 cases r with
 |true=>
  obtain⟨s,a,l,c,t,b,k,d,e,_⟩:=(show Jj W v q from h);exact⟨_,_,_,_,e,rfl,rfl,rfl,rfl⟩
 |false=>
  obtain⟨s,a,l,c,t,b,k,d,e,_⟩:=(show Jv W v q from h);exact⟨_,_,_,_,e,rfl,rfl,rfl,rfl⟩
theorem Dd.no{W:G}{x y z u:E}{q:Rat}(h:Dd r W (L #[x,y,z,u]) q):Jy x=true/\Jy y=true/\Jy z=true/\Jy u=true:=by
 obtain⟨g,i,j,f,e,a,b,c,d⟩:=h.form;grind
theorem Dd.one{W:G}{x y z u:E}{q:Rat}(h:Dd r W (L #[x,y,z,u]) q):∀v∈[x,y,z,u],v.oneCell'=true:=by
 cases r with
 |true=>
  obtain⟨s,a,l,c,t,b,k,d,e,_⟩:=(show Jj W _ q from h);cases e;intro v f;simp at f;rcases f with rfl|rfl|rfl|rfl<;>rfl
 |false=>
  obtain⟨s,a,l,c,t,b,k,d,e,_⟩:=(show Jv W _ q from h);cases e;intro v f;simp at f;rcases f with rfl|rfl|rfl|rfl<;>rfl
def DR(r:Bool)(W:G)(b:Nat)(qs:X):Prop:=
 ∃cs:Array E,W.heap[b]?=some (H cs (DW r) (0,0))/\∀j,j<qs.length->∃x y z u,cs[j*4]?=some x/\cs[j*4+1]?=some y/\cs[j*4+2]?=some z/\cs[j*4+3]?=some u/\Dd r W (L #[x,y,z,u]) (cf qs j)
theorem DR.lt{W:G}(h:DR r W b qs):b<W.heap.size:=by obtain⟨cs,h,_⟩:=h;grind
def DR.below{r:Bool}{W W':G}{b:Nat}{qs:X}(h:DR r W b qs)(a:Bl W W'):DR r W' b qs:=by
 have hl:=h.lt;obtain⟨cs,g,i⟩:=h;refine⟨cs,(a.block b hl).trans g,λj l=>?_⟩;obtain⟨x,y,z,u,c,d,e,f,k⟩:=i j l;exact⟨x,y,z,u,c,d,e,f,k.below a⟩
def DR.keep{r:Bool}{W W':G}{b:Nat}{qs:X}(h:DR r W b qs)(l:W'.heap[b]?=W.heap[b]?)(n:∀k v ds,Row k W v ds->Row k W' v ds):DR r W' b qs:=by
 obtain⟨cs,f,g⟩:=h;refine⟨cs,l.trans f,λj m=>?_⟩;obtain⟨x,y,z,u,a,c,d,e,i⟩:=g j m;exact⟨x,y,z,u,a,c,d,e,i.keep n⟩
def DR.alloc{r:Bool}{W:G}{b:Nat}{qs:X}(h:DR r W b qs)(o:Obj):DR r (W.alloc o) b qs:=h.below (Ba W o)
theorem DR.take{r:Bool}{W:G}{b:Nat}{qs:X}(h:DR r W b qs)(n:Nat):DR r W b (qs.take n):=by
 obtain⟨cs,a,c⟩:=h;refine⟨cs,a,λj d=>?_⟩;rw[Ae]at d;obtain⟨x,y,z,u,e,f,g,i,k⟩:=c j O;grind[Gt]
theorem DR.at{W:G}(h:DR r W b qs)(d:j<qs.length):
 ∃x y z u,W.cell? ⟨b,j*4,none⟩=some x/\W.cell? ⟨b,j*4+1,none⟩=some y/\W.cell? ⟨b,j*4+2,none⟩=some z/\W.cell? ⟨b,j*4+3,none⟩=some u/\Dd r W (L #[x,y,z,u]) (cf qs j):=by
 obtain⟨cs,a,c⟩:=h;grind[World.cell?]
def DR.frozen{r:Bool}{W:G}{b:Nat}{qs:X}(h:DR r W b qs)(o:Nat):W.frozen? ⟨b,o,none⟩=false:=by obtain⟨cs,a,_⟩:=h;simp[World.frozen?,a]
def putAt(W:G)(b o:Nat)(x y z u:E):G:=(((W.setCell ⟨b,o,none⟩ x).setCell ⟨b,o+1,none⟩ y).setCell ⟨b,o+2,none⟩ z).setCell ⟨b,o+3,none⟩ u
theorem JI{W:G}{o:Nat}{t:TypeId}(h:W.heap[b]?=some (H cs t m))(v:E):(W.setCell ⟨b,o,none⟩ v).heap[b]?=some (H (cs.setIfInBounds o v) t m):=by
 obtain⟨c,a⟩:=Ab.1 h;show(W.heap.modify b _)[b]?=_;grind
def QD{W:G}{o:Nat}{t:TypeId}(h:W.heap[b]?=some (H cs t m))(x y z u:E):(putAt W b o x y z u).heap[b]?=some (H ((((cs.setIfInBounds o x).setIfInBounds (o+1) y).setIfInBounds (o+2) z).setIfInBounds (o+3) u) t m):=
 JI (JI (JI (JI h x) y) z) u
def GV{W:G}{o B:Nat}(a:B≠b)(x y z u:E):(putAt W b o x y z u).heap[B]?=W.heap[B]?:=
 (BF _ _ _ B a).trans ((BF _ _ _ B a).trans ((BF _ _ _ B a).trans (BF _ _ _ B a)))
def Lg{o:Nat}{w W:G}(h:Below n w W)(a:n<=b)(x y z u:E):Below n w (putAt W b o x y z u):=
 (((h.setCell (p:=⟨b,o,none⟩) a _).setCell (p:=⟨b,o+1,none⟩) a _).setCell (p:=⟨b,o+2,none⟩) a _).setCell (p:=⟨b,o+3,none⟩) a _
theorem cell_of{W:G}{o:Nat}{t:TypeId}{x:E}(h:W.heap[b]?=some (H cs t m))(e:cs[o]?=some x):W.cell? ⟨b,o,none⟩=some x:=by simp[World.cell?,h,e]
def QE{W:G}{o:Nat}{t:TypeId}{x0 a z0 u0:E}(h:W.heap[b]?=some (H cs t m))(c:cs[o]?=some x0)(d:cs[o+1]?=some a)(e:cs[o+2]?=some z0)(f:cs[o+3]?=some u0)
(i:Jy x0=true)(j:Jy a=true)(l:Jy z0=true)(n:Jy u0=true)(x y z u:E):∀k v ds,Row k W v ds->Row k (putAt W b o x y z u) v ds:=λk v ds g=>by
 have c1:((cs.setIfInBounds o x))[o+1]?=some a:=by rw[Ad O];exact d
 have c2:(((cs.setIfInBounds o x).setIfInBounds (o+1) y))[o+2]?=some z0:=by rw[Ad O,Ad O];exact e
 have c3:((((cs.setIfInBounds o x).setIfInBounds (o+1) y).setIfInBounds (o+2) z))[o+3]?=some u0:=by rw[Ad O,Ad O,Ad O];exact f
 exact Row.set (Row.set (Row.set (Row.set g (cell_of h c) i _) (cell_of (JI h x) c1) j _) (cell_of (JI (JI h x) y) c2) l _) (cell_of (JI (JI (JI h x) y) z) c3) n _
def DR.putKeep{W:G}(h:DR r W b qs)(l:j<qs.length)(x y z u:E):∀k v ds,Row k W v ds->Row k (putAt W b (j*4) x y z u) v ds:=by
 obtain⟨cs,f,g⟩:=h;obtain⟨x0,q,z0,u0,a,c,d,e,i⟩:=g j l;obtain⟨m,n,o,p⟩:=i.no;exact QE f a c d e m n o p x y z u
theorem DR.set{r:Bool}{W:G}{b:Nat}{qs:X}(h:DR r W b qs){j:Nat}(a:j<qs.length){x y z u:E}{q:Rat}(v:Dd r W (L #[x,y,z,u]) q):DR r (putAt W b (j*4) x y z u) b (qs.set j q):=by
 have f:=h.putKeep a x y z u;obtain⟨cs,s,c⟩:=h;obtain⟨x0,P,z0,u0,m,n,o,p,B⟩:=c j a;refine⟨_,QD s x y z u,λi d=>?_⟩;rw[CS]at d;have g:=(Ab.1 m).1;have D:=(Ab.1 n).1;have K:=(Ab.1 o).1;have N:=(Ab.1 p).1;by_cases e:i=j
 . subst e;refine⟨x,y,z,u,?_,?_,?_,?_,?_⟩
   . rw[Ad O,Ad O,Ad O,Array.getElem?_setIfInBounds_self_of_lt g]
   . grind[Ad,Array.getElem?_setIfInBounds_self_of_lt]
   . grind
   . grind
   . rw[Ee _ _ _ _ a,BM rfl];exact v.keep f
 . obtain⟨x1,w,A,u1,d0,d1,k,l,t⟩:=c i d;refine⟨x1,w,A,u1,?_,?_,?_,?_,?_⟩
   . rw[Ad O,Ad O,Ad O,Ad O];exact d0
   . rw[Ad O,Ad O,Ad O,Ad O];exact d1
   . rw[Ad O,Ad O,Ad O,Ad O];exact k
   . rw[Ad O,Ad O,Ad O,Ad O];exact l
   . rw[Ee _ _ _ _ a,BJ e];exact t.keep f
def RowK(r:Bool)(W:G)(v:E)(qs:X):Prop:=
 ∃a cap,v=C a qs.length cap/\qs.length<=cap/\cap<=9223372036854775807/\qs.length<=1099511627776/\(qs=[]\/∃b,a=some ⟨b,0,none⟩/\DR r W b qs)
def RowK.below{r:Bool}{W W':G}{v:E}{qs:X}(h:RowK r W v qs)(k:Bl W W'):RowK r W' v qs:=by
 obtain⟨a,cap,e,f,g,i,c⟩:=h;refine⟨a,cap,e,f,g,i,?_⟩;rcases c with c|⟨b,d,j⟩
 . exact Al c
 . exact Au ⟨b,d,j.below k⟩
theorem RowK.nil(r:Bool)(W:G):RowK r W (C none 0 0) []:=⟨none,0,rfl,Aa _,O,sp,Al rfl⟩
def DR.row{W:G}(h:DR r W b qs){cap:Nat}(d:n<=qs.length)(c:n<=cap)(a:cap<=9223372036854775807)(hl:n<=1099511627776):RowK r W (C (some ⟨b,0,none⟩) n cap) (qs.take n):=by
 have e:(qs.take n).length=n:=by rw[Ae];omega
 exact⟨_,cap,by rw[e],O,a,O,Au ⟨b,rfl,h.take n⟩⟩
theorem RowK.open{W:G}{v:E}(h:RowK r W v qs):∃a cap,v=C a qs.length cap/\qs.length<=cap/\cap<=9223372036854775807/\qs.length<=1099511627776/\
 Hid (∀j,j<qs.length->∃b,a=some ⟨b,0,none⟩/\DR r W b qs):=by
 obtain⟨a,cap,e,c,d,f,g⟩:=h;refine⟨a,cap,e,c,d,f,λj i=>?_⟩;grind
def RowK.take{r:Bool}{W:G}{a:TR}{l cap:Nat}{qs:X}(h:RowK r W (C a l cap) qs){n:Nat}(o:n<=l):RowK r W (C a n cap) (qs.take n):=by
 obtain⟨i,j,e,k,f,m,c⟩:=h;cases e;have e:(qs.take n).length=n:=by rw[Ae];omega
 refine⟨a,cap,by rw[e],O,f,O,?_⟩;rcases c with c|⟨b,d,g⟩
 . left;rw[c];simp
 . exact Au ⟨b,d,g.take n⟩
def Yf(W:G)(v:E)(ps:X):Prop:=∃u,v=L #[u]/\RowK true W u ps
def Yf.below{W W':G}{v:E}{ps:X}(h:Yf W v ps)(b:Bl W W'):Yf W' v ps:=by
 obtain⟨u,e,a⟩:=h;exact⟨u,e,a.below b⟩
def RowK.form{W:G}{v:E}(h:RowK r W v qs):∃a l c,v=C a l c:=by
 obtain⟨a,cap,e,_⟩:=h;exact⟨a,_,cap,e⟩
def Yf.form{W:G}{v:E}{ps:X}(h:Yf W v ps):∃a l c,v=L #[C a l c]:=by
 obtain⟨u,e,b⟩:=h;obtain⟨a,l,c,rfl⟩:=b.form;exact⟨a,l,c,e⟩
def Yf.row{W:G}{a:TR}{l c:Nat}{ps:X}(h:Yf W (L #[C a l c]) ps):RowK true W (C a l c) ps:=by
 obtain⟨u,e,b⟩:=h;cases e;exact b
structure Sqs(qs:X):Prop where
 all:∀i,Sq (cf qs i)
def Sqs.at(h:Sqs qs)(i:Nat):Sq (cf qs i):=h.all i
theorem Sqs.of(h:∀i,Sq (cf qs i)):Sqs qs:=⟨h⟩
def Yg(r:Bool)(W:G)(cs:List E)(qs:X):Prop:=
 cs.length=qs.length*4/\∀j,j<qs.length->∃x y z u,cs[j*4]?=some x/\cs[j*4+1]?=some y/\cs[j*4+2]?=some z/\cs[j*4+3]?=some u/\Dd r W (L #[x,y,z,u]) (cf qs j)
theorem Yg.nil(r:Bool)(W:G):Yg r W [] []:=⟨rfl,λj a=>by simp at a⟩
def Yg.below{r:Bool}{W W':G}{cs:List E}{qs:X}(h:Yg r W cs qs)(f:Bl W W'):Yg r W' cs qs:=by
 refine⟨h.1,λj g=>?_⟩;obtain⟨x,y,z,u,a,b,c,d,e⟩:=h.2 j g;exact⟨x,y,z,u,a,b,c,d,e.below f⟩
def Yg.keep{r:Bool}{W W':G}{cs:List E}{qs:X}(h:Yg r W cs qs)(g:∀k v ds,Row k W v ds->Row k W' v ds):Yg r W' cs qs:=by
 refine⟨h.1,λj f=>?_⟩;obtain⟨x,y,z,u,a,b,c,d,e⟩:=h.2 j f;exact⟨x,y,z,u,a,b,c,d,e.keep g⟩
theorem Yg.one{r:Bool}{W:G}{cs:List E}{qs:X}(h:Yg r W cs qs):∀v∈cs,v.oneCell'=true:=by
 intro v b;obtain⟨k,i,rfl⟩:=List.mem_iff_getElem.1 b;have hl:=h.1;obtain⟨x,y,z,u,c,d,e,f,a⟩:=h.2 (k/4) O;have g:=a.one;grind
theorem Yg.snoc{W:G}{cs:List E}(h:Yg r W cs qs){x y z u:E}{q:Rat}(d:Dd r W (L #[x,y,z,u]) q):Yg r W (cs++[x,y,z,u]) (qs++[q]):=by
 have hl:=h.1;refine⟨by simp;omega,λj b=>?_⟩;rw[AE,List.length_singleton]at b;by_cases c:j<qs.length
 . obtain⟨m,n,o,l,e,f,g,i,k⟩:=h.2 j c;grind[Jx]
 . have a:j=qs.length:=O
   subst a;refine⟨x,y,z,u,?_,?_,?_,?_,?_⟩
   . grind
   . grind
   . grind
   . grind
   . rw[Jx,BM rfl];exact d
theorem DR.cells{W:G}(h:DR r W b qs):∃cs,Yg r W cs qs/\∀j u,cs[j]?=some u->W.cell? ⟨b,j,none⟩=some u:=by
 obtain⟨a,m,c⟩:=h;have p:qs.length*4<=a.size:=by
  cases o:qs.length with
  |zero=>omega
  |succ n=>
   obtain⟨x,y,z,u,_,_,_,d,_⟩:=c n O;grind
 refine⟨a.toList.take (qs.length*4),⟨DO,λj g=>?_⟩,λj u e=>?_⟩
 . obtain⟨x,y,z,u,i,k,l,d,f⟩:=c j g;refine⟨x,y,z,u,?_,?_,?_,?_,f⟩
   . grind
   . grind
   . grind
   grind
 grind[cell_of]
theorem RowK.owns{W:G}{e:Nat}{v:E}{cs:List E}(h:W.ownsRow e (DW r) 4 v n cs)(i:Yg r W cs qs)(hl:qs.length<=1099511627776):RowK r W v qs/\n=qs.length/\(v=C none 0 0\/∃g cap,v=C (some ⟨g,0,none⟩) n cap/\e<=g/\DR r W g qs):=by
 obtain⟨A,l⟩:=h;have s:n=qs.length:=by have:=i.1;omega
 subst s;rcases l with⟨rfl,w⟩|⟨g,cap,k,rfl,o,hg,hle,q,B,t⟩
 . grind[RowK.nil]
 . have f:DR r W g qs:=by
    refine⟨k,hg,λj p=>?_⟩;obtain⟨x,y,z,u,a,b,c,d,m⟩:=i.2 j p;rw[<-t]at a b c d;rw[A7 O,Cn]at a b c d;exact⟨x,y,z,u,a,b,c,d,m⟩
   refine⟨⟨_,cap,rfl,hle,by unfold maxLen at q;omega,hl,Au ⟨g,rfl,f⟩⟩,rfl,Au ⟨g,cap,rfl,o,f⟩⟩
section
variable {V:World} {B:Nat} {t:TypeId} {x y z u:Value}
def Jf.ka(h:Jf V B t x y):V.cell? ⟨B,0,none⟩=some x/\V.cell? ⟨B,1,none⟩=some y:=⟨h.c0,h.c1⟩
def Jf.fa(h:Jf V B t x y):V.frozen? ⟨B,0,none⟩=false/\V.frozen? ⟨B,1,none⟩=false:=⟨h.f0,h.f1⟩
def JA.kb(h:JA V B t x y z u):V.cell? ⟨B,0,none⟩=some x/\V.cell? ⟨B,1,none⟩=some y/\V.cell? ⟨B,2,none⟩=some z/\V.cell? ⟨B,3,none⟩=some u:=⟨h.c0,h.c1,h.c2,h.c3⟩
def JA.fb(h:JA V B t x y z u):V.frozen? ⟨B,0,none⟩=false/\V.frozen? ⟨B,1,none⟩=false/\V.frozen? ⟨B,2,none⟩=false/\V.frozen? ⟨B,3,none⟩=false:=⟨h.f0,h.f1,h.f2,h.f3⟩
end
end
namespace M3
structure Dat where
 ty:TypeId
 has:World->Value->Prop
 noPoly:Bool
 below:∀ {V V':World} {v:Value},has V v->Bl V V'->has V' v
 keep:∀ {V V':World} {v:Value},has V v->(∀k v ds,Row k V v ds->Row k V' v ds)->(noPoly=true\/∀v qs,RowK true V v qs->RowK true V' v qs)->has V' v
def Dat.int(z:Int):Dat where
 ty:=36
 has V v:=Jg V v z
 noPoly:=true
 below h hb:=Jg.below h hb
 keep h hk _:=by
  obtain⟨a,l,c,e,b⟩:=h;exact⟨a,l,c,e,hk _ _ _ b⟩
def Dat.rat(q:Rat):Dat where
 ty:=38
 has V v:=Jj V v q
 noPoly:=true
 below h hb:=Jj.below h hb
 keep h hk _:=Ys.keep h hk
def Dat.big(z:Int):Dat where
 ty:=47
 has V v:=Jn V v z
 noPoly:=true
 below h hb:=Jn.below h hb
 keep h hk _:=by
  obtain⟨a,l,c,e,b⟩:=h;exact⟨a,l,c,e,hk _ _ _ b⟩
def Dat.ref(q:Rat):Dat where
 ty:=49
 has V v:=Jv V v q
 noPoly:=true
 below h hb:=Jv.below h hb
 keep h hk _:=Jv.keep h hk
def Dat.zref:Dat where
 ty:=49
 has _ v:=v=L #[C none 0 0,F false,C none 0 0,F false]
 noPoly:=true
 below h _:=h
 keep h _ _:=h
def Dat.pair(x y:Int):Dat where
 ty:=38
 has V v:=Ys V v x y
 noPoly:=true
 below h hb:=Ys.below h hb
 keep h hk _:=Ys.keep h hk
def Dat.rats(qs:X):Dat where
 ty:=38
 has V v:=∃cs,v=L cs/\∀j,j<qs.length->∃x y z u,cs[j*4]?=some x/\cs[j*4+1]?=some y/\cs[j*4+2]?=some z/\cs[j*4+3]?=some u/\Dd true V (L #[x,y,z,u]) (cf qs j)
 noPoly:=true
 below h hb:=by
  obtain⟨cs,e,h⟩:=h;refine⟨cs,e,λj g=>?_⟩;obtain⟨x,y,z,u,a,b,c,d,f⟩:=h j g;exact⟨x,y,z,u,a,b,c,d,f.below hb⟩
 keep h hk _:=by
  obtain⟨cs,e,h⟩:=h;refine⟨cs,e,λj g=>?_⟩;obtain⟨x,y,z,u,a,b,c,d,f⟩:=h j g;exact⟨x,y,z,u,a,b,c,d,f.keep hk⟩
def Dat.cell(t:TypeId)(x:E):Dat where
 ty:=t
 has _ v:=v=L #[x]/\Jy x=true
 noPoly:=true
 below h _:=h
 keep h _ _:=h
def Has(V:G)(v:E)(d:Dat):Prop:=d.has V v
def Has.below{V V':G}{v:E}{d:Dat}(h:Has V v d)(a:Bl V V'):Has V' v d:=d.below h a
def Has.alloc{V:G}{v:E}{d:Dat}(h:Has V v d)(o:Obj):Has (V.alloc o) v d:=h.below (Ba V o)
def Has.keep{V V':G}{v:E}{d:Dat}(h:Has V v d)(a:∀k v ds,Row k V v ds->Row k V' v ds)(hp:d.noPoly=true\/∀v qs,RowK true V v qs->RowK true V' v qs):Has V' v d:=d.keep h a hp
def Bx(V:G)(B:Nat)(t:TypeId)(cs:Array E):Prop:=V.heap[B]?=some (H cs t (0,0))
variable{cs:Array E}{d:Dat}{x0:E}{V':G}
def Bx.lt{V:G}{B:Nat}{t:TypeId}(h:Bx V B t cs):B<V.heap.size:=(Ab.1 h).1
def Bx.below{V:G}{B:Nat}{t:TypeId}(h:Bx V B t cs)(a:Bl V V'):Bx V' B t cs:=(a.block B h.lt).trans h
def Bx.far{V:G}{B:Nat}{t:TypeId}(h:Bx V B t cs){p:Addr}(hp:B≠p.block)(u:E):Bx (V.setCell p u) B t cs:=(BF V p u B hp).trans h
def Bx.f{V:G}{B:Nat}{t:TypeId}(h:Bx V B t cs)(i:Nat):V.frozen? ⟨B,i,Option.none⟩=false:=by simp[World.frozen?,show V.heap[B]?=_ from h]
def Bx.all{V:G}{B:Nat}{t:TypeId}(h:Bx V B t cs):∀i,V.cell? ⟨B,i,Option.none⟩=cs[i]?:=λi=>by simp[World.cell?,show V.heap[B]?=_ from h]
def noPoly:List (Option (Nat × Dat))->Bool
 |[]=>true
 |some (_,d)::t=>d.noPoly&&noPoly t
 |Option.none::t=>noPoly t
theorem Lh{bs:List (Option (Nat × Dat))}(h:noPoly bs=true){i:Nat}{x:Nat × Dat}(e:bs[i]?=some (some x)):x.2.noPoly=true:=by
 induction bs generalizing i with
 |nil=>simp at e
 |cons b t a=>
  cases b with
  |none=>
   cases i with
   |zero=>simp at e
   |succ i=>exact a h (by simpa using e)
  |some y=>
   grind[noPoly]
def DF(w V:G)(bs:List (Option (Nat × Dat))):Prop:=
 (∀(i:Nat) B d,bs[i]?=some (some (B,d))->(∃cs,Bx V B d.ty cs/\Has V (L cs) d)/\w.heap.size<=B)/\
 (∀(i j:Nat) B d a,bs[i]?=some (some (B,d))->bs[j]?=some (some (B,a))->i=j)/\Bl w V
theorem DF.nil(w:G):DF w w []:=⟨λi B z h=>by simp at h,λi j B z a h=>by simp at h,BB _ w⟩
def DF.int{w V:G}{bs:List (Option (Nat × Dat))}(b:DF w V bs){i B:Nat}{z:Int}(h:bs[i]?=some (some (B,.int z))):∃s a l c,Jf V B 36 (F s) (C a l c)/\Jg V (L #[F s,C a l c]) z:=by
 obtain⟨⟨cs,d,f⟩,_⟩:=b.1 i B _ h;obtain⟨a,l,c,e,g⟩:=f;cases e;exact⟨_,a,l,c,d,a,l,c,rfl,g⟩
def DF.big{w V:G}{bs:List (Option (Nat × Dat))}(b:DF w V bs){i B:Nat}{z:Int}(h:bs[i]?=some (some (B,.big z))):∃a l c s,Jf V B 47 (C a l c) (F s)/\Jn V (L #[C a l c,F s]) z:=by
 obtain⟨⟨cs,d,f⟩,_⟩:=b.1 i B _ h;obtain⟨a,l,c,e,g⟩:=f;cases e;exact⟨a,l,c,_,d,a,l,c,rfl,g⟩
def DF.rat{w V:G}{bs:List (Option (Nat × Dat))}(g:DF w V bs){i B:Nat}{q:Rat}(h:bs[i]?=some (some (B,.rat q))):
 ∃s a l c t b k d,JA V B 38 (F s) (C a l c) (F t) (C b k d)/\Jj V (L #[F s,C a l c,F t,C b k d]) q/\Jg V (L #[F s,C a l c]) q.num/\Jg V (L #[F t,C b k d]) (denZ q):=by
 obtain⟨⟨cs,n,f⟩,_⟩:=g.1 i B _ h;have o:=f;obtain⟨s,a,l,c,t,b,k,d,e,j,m⟩:=f;cases e;exact⟨s,a,l,c,t,b,k,d,n,o,j,m⟩
def DF.pair{w V:G}{bs:List (Option (Nat × Dat))}(g:DF w V bs){i B:Nat}{x y:Int}(h:bs[i]?=some (some (B,.pair x y))):
 ∃s a l c t b k d,JA V B 38 (F s) (C a l c) (F t) (C b k d)/\Ys V (L #[F s,C a l c,F t,C b k d]) x y/\Jg V (L #[F s,C a l c]) x/\Jg V (L #[F t,C b k d]) y:=by
 obtain⟨⟨cs,n,f⟩,_⟩:=g.1 i B _ h;have o:=f;obtain⟨s,a,l,c,t,b,k,d,e,j,m⟩:=f;cases e;exact⟨s,a,l,c,t,b,k,d,n,o,j,m⟩
def DF.ref{w V:G}{bs:List (Option (Nat × Dat))}(g:DF w V bs){i B:Nat}{q:Rat}(h:bs[i]?=some (some (B,.ref q))):
 ∃a l c s b k d t,JA V B 49 (C a l c) (F s) (C b k d) (F t)/\Jv V (L #[C a l c,F s,C b k d,F t]) q/\Jn V (L #[C a l c,F s]) q.num/\Jn V (L #[C b k d,F t]) (q.den:Int):=by
 obtain⟨⟨cs,n,f⟩,_⟩:=g.1 i B _ h;have o:=f;obtain⟨s,a,l,c,t,b,k,d,e,j,m⟩:=f;cases e;exact⟨s,a,l,c,t,b,k,d,n,o,j,m⟩
def DF.below{w V V':G}{bs:List (Option (Nat × Dat))}(a:DF w V bs)(b:Bl V V'):DF w V' bs:=
 ⟨λi B z h=>by
  obtain⟨⟨cs,c,d⟩,e⟩:=a.1 i B z h;exact⟨⟨cs,c.below b,d.below b⟩,e⟩,a.2.1,Bt a.2.2 b⟩
def DF.drew{w V:G}{bs:List (Option (Nat × Dat))}(a:DF w V bs):DF w V.drew bs:=a.below ((BB _ V).drew)
def DF.sub{w V:G}{bs cs:List (Option (Nat × Dat))}(a:DF w V bs)(f:Nat->Nat)(g:∀(i j:Nat),f i=f j->i=j)(h:∀(i:Nat) x,cs[i]?=some (some x)->bs[f i]?=some (some x)):DF w V cs:=
 ⟨λi B d b=>a.1 (f i) B d (h i _ b),λi j B d c b e=>g i j (a.2.1 (f i) (f j) B d c (h i _ b) (h j _ e)),a.2.2⟩
theorem DF.take{w V:G}{bs:List (Option (Nat × Dat))}(a:DF w V bs)(n:Nat):DF w V (bs.take n):=by
 refine a.sub id (λ_ _ h=>h) λi x h=>?_;grind
theorem DF.none{w V:G}{bs:List (Option (Nat × Dat))}(a:DF w V bs):DF w V (bs++[Option.none]):=by
 refine a.sub id (λ_ _ h=>h) λi x h=>?_;grind
theorem DF.fill{w V:G}{bs:List (Option (Nat × Dat))}(b:DF w V bs){i:Nat}(h:bs[i]?=some Option.none)(d:Dat)(p:Has V (L cs) d):
 DF w (V.alloc (H cs d.ty)) (bs.set i (some (V.heap.size,d))):=by
 have g:Bl V (V.alloc (H cs d.ty)):=Ba V _;have m:i<bs.length:=(As.1 h).1;have f:=b.below g;have r:∀(j:Nat) B d,bs[j]?=some (some (B,d))->B<V.heap.size:=λj B d h=>by
  obtain⟨⟨_,c,_⟩,_⟩:=b.1 j B d h;exact c.lt
 refine⟨λj B n a=>?_,λj k B d1 o c l=>?_,f.2.2⟩
 . by_cases e:i=j
   . subst e;rw[CN m]at a;simp at a;obtain⟨rfl,rfl⟩:=a;exact⟨⟨cs,BD V _,p.below g⟩,b.2.2.size⟩
   . rw[Cv e]at a;exact f.1 j B n a
 . by_cases e:i=j<;>by_cases q:i=k
   . omega
   . grind
   . grind
   . rw[Cv e]at c;rw[Cv q]at l;exact b.2.1 j k B d1 o c l
def DF.push{w V:G}{bs:List (Option (Nat × Dat))}(a:DF w V bs)(d:Dat)(b:Has V (L cs) d):DF w (V.alloc (H cs d.ty)) (bs++[some (V.heap.size,d)]):=by
 have h:=a.none.fill (i:=bs.length) sp d b;rwa[QC]at h
def EC{w:G}(a:TypeId)(d1:Dat){c1:Array E}(c:Has w (L c1) d1)(b:d1.ty=a:=by rfl):∃W,Hid (w.alloc (H c1 a)=W)/\Hid (DF w W [some (w.heap.size,d1)]):=by
 subst b;exact⟨_,Z rfl,Z ((DF.nil w).push d1 c)⟩
theorem QF{w:G}(b:TypeId)(d1:Dat){c1:Array E}(f:Has w (L c1) d1)(c:TypeId)(a:Dat){c2:Array E}(g:Has w (L c2) a)(d:d1.ty=b:=by rfl)(e:a.ty=c:=by rfl):∃W,Hid ((w.alloc (H c1 b)).alloc (H c2 c)=W)/\Hid (DF w W [some (w.heap.size,d1),some (w.heap.size+1,a)]):=by
 subst d e;have i:=((DF.nil w).push d1 f).push a (g.alloc _);grind[A1,Z]
theorem QG{w:G}(c:TypeId)(d1:Dat){c1:Array E}(j:Has w (L c1) d1)(d:TypeId)(a:Dat){c2:Array E}(k:Has w (L c2) a)(e:TypeId)(b:Dat){c3:Array E}(l:Has w (L c3) b)(f:d1.ty=c:=by rfl)(g:a.ty=d:=by rfl)(i:b.ty=e:=by rfl):∃W,Hid (((w.alloc (H c1 c)).alloc (H c2 d)).alloc (H c3 e)=W)/\Hid (DF w W [some (w.heap.size,d1),some (w.heap.size+1,a),some (w.heap.size+1+1,b)]):=by
 subst f g i;have m:=(((DF.nil w).push d1 j).push a (k.alloc _)).push b ((l.alloc _).alloc _);grind[A1,Z]
theorem DF.repl{w V:G}{bs:List (Option (Nat × Dat))}(f:DF w V bs){i B:Nat}(h:bs[i]?=some (some (B,d)))(c:Dat)(D:Bx V' B c.ty cs)(K:Has V (L cs) c)
(p:∀k v ds,Row k V v ds->Row k V' v ds)(N:∀a t cs,a≠B->Bx V a t cs->Bx V' a t cs)(A:Bl w V')
(hp:noPoly bs=true\/∀v qs,RowK true V v qs->RowK true V' v qs)(P:c.noPoly=true\/∀v qs,RowK true V v qs->RowK true V' v qs):DF w V' (bs.set i (some (B,c))):=by
 have q:i<bs.length:=(As.1 h).1;obtain⟨_,Q⟩:=f.1 i B d h;refine⟨λj a d1 b=>?_,λj k a d1 u y z=>?_,A⟩
 . by_cases n:i=j
   . subst n;rw[CN q]at b;simp at b;obtain⟨rfl,rfl⟩:=b;exact⟨⟨cs,D,K.keep p P⟩,Q⟩
   . rw[Cv n]at b;obtain⟨⟨s,l,m⟩,R⟩:=f.1 j a d1 b;have r:a≠B:=λe=>n (by rw[e]at b;exact f.2.1 i j B d d1 h b);exact⟨⟨s,N _ _ _ r l,m.keep p (hp.imp (λh=>Lh h b) id)⟩,R⟩
 . have o:∀(j:Nat) d1,(bs.set i (some (B,c)))[j]?=some (some (a,d1))->∃g,bs[j]?=some (some (a,g)):=λj d1 b=>by
    grind
   obtain⟨g,l⟩:=o j d1 y;obtain⟨x,m⟩:=o k u z;exact f.2.1 j k a g x l m
theorem Ie{V:G}{B:Nat}{t:TypeId}(h:Bx V B t cs){o:Nat}(e:cs[o]?=some x0)(m:Jy x0=true)(r:Bool)(p:t≠DW r)(x:E)(v:E)(qs:X)(d:RowK r V v qs):RowK r (V.setCell ⟨B,o,Option.none⟩ x) v qs:=by
 obtain⟨a,cap,ev,j,k,l,c⟩:=d;refine⟨a,cap,ev,j,k,l,?_⟩;rcases c with c|⟨b,g,f⟩
 . exact Al c
 . refine Au ⟨b,g,f.keep (BF V ⟨B,o,Option.none⟩ x b ?_) λ_ _ _ d=>Row.set d (cell_of h e) m _⟩;rintro rfl;obtain⟨n,i,_⟩:=f;rw[show V.heap[b]?=_ from h]at i;grind
def Li{V:G}{B:Nat}{t:TypeId}{a:E}(q:Jf V B t x0 a){r:Bool}(b:t≠DW r)(c:Jy x0=true)(d:Jy a=true)(x y:E):∀v qs,RowK r V v qs->RowK r ((V.setCell ⟨B,0,Option.none⟩ x).setCell ⟨B,1,Option.none⟩ y) v qs:=
 λv qs h=>Ie (cs:=#[x,a]) (q.set0 x) (o:=1) rfl d r b y v qs (Ie (cs:=#[x0,a]) q (o:=0) rfl c r b x v qs h)
def Ig{V:G}{B:Nat}{t:TypeId}{x y:E}(q:Jf V B t x y)(b:Jy x=true)(c:Jy y=true)(a d:E):∀k v ds,Row k V v ds->Row k ((V.setCell ⟨B,0,Option.none⟩ a).setCell ⟨B,1,Option.none⟩ d) v ds:=
 λ_ _ _ h=>Row.set (Row.set h q.c0 b _) (q.set0 a).c1 c _
def DF.putInt{w V:G}{bs:List (Option (Nat × Dat))}(b:DF w V bs){i B:Nat}{z0:Int}(h:bs[i]?=some (some (B,.int z0))){x y:E}{z:Int}(j:Jg V (L #[x,y]) z):
 DF w ((V.setCell ⟨B,0,Option.none⟩ x).setCell ⟨B,1,Option.none⟩ y) (bs.set i (some (B,.int z))):=by
 obtain⟨s,a,l,c,d,_⟩:=b.int h;obtain⟨_,f⟩:=b.1 i B _ h;exact b.repl h (.int z) (cs:=#[x,y]) ((d.set0 x).set1 y) j (Ig d rfl rfl x y) (λk t cs e g=>(g.far (p:=⟨B,0,Option.none⟩) e _).far (p:=⟨B,1,Option.none⟩) e _) ((b.2.2.setCell (p:=⟨B,0,Option.none⟩) f _).setCell (p:=⟨B,1,Option.none⟩) f _) (Au (Li d DI rfl rfl x y)) (Al rfl)
def DF.putBig{w V:G}{bs:List (Option (Nat × Dat))}(b:DF w V bs){i B:Nat}{z0:Int}(h:bs[i]?=some (some (B,.big z0))){x y:E}{z:Int}(j:Jn V (L #[x,y]) z):
 DF w ((V.setCell ⟨B,0,Option.none⟩ x).setCell ⟨B,1,Option.none⟩ y) (bs.set i (some (B,.big z))):=by
 obtain⟨a,l,c,s,d,_⟩:=b.big h;obtain⟨_,f⟩:=b.1 i B _ h;exact b.repl h (.big z) (cs:=#[x,y]) ((d.set0 x).set1 y) j (Ig d rfl rfl x y) (λk t cs e g=>(g.far (p:=⟨B,0,Option.none⟩) e _).far (p:=⟨B,1,Option.none⟩) e _) ((b.2.2.setCell (p:=⟨B,0,Option.none⟩) f _).setCell (p:=⟨B,1,Option.none⟩) f _) (Au (Li d DI rfl rfl x y)) (Al rfl)
def DF.zref{w V:G}{bs:List (Option (Nat × Dat))}(a:DF w V bs){i B:Nat}(h:bs[i]?=some (some (B,.zref))):JA V B 49 (C Option.none 0 0) (F false) (C Option.none 0 0) (F false):=by
 obtain⟨⟨cs,b,c⟩,_⟩:=a.1 i B _ h;cases(show Value.agg cs=_ from c);exact b
def Has.set2{V:G}{v:E}(h:Has V v d){B:Nat}{t:TypeId}{x y:E}(q:Jf V B t x y)(e:Jy x=true)(f:Jy y=true)(a b:E)(c:d.noPoly=true:=by rfl):Has ((V.setCell ⟨B,0,Option.none⟩ a).setCell ⟨B,1,Option.none⟩ b) v d:=h.keep (Ig q e f a b) (Al c)
def Has.put4{V:G}{v:E}{d:Dat}(h:Has V v d){B:Nat}{t:TypeId}{x y z u:E}(q:JA V B t x y z u)(b:Jy x=true)(c:Jy y=true)(e:Jy z=true)(f:Jy u=true)(j k l i:E)(a:d.noPoly=true:=by rfl):Has (Go.Proofs.YtcahejkcdcjjgaaGreatDoor.put4 V B j k l i) v d:=h.keep (λ_ _ _ g=>Row.put4 g q b c e f _ _ _ _) (Al a)
def DF.ne{w V:G}{bs:List (Option (Nat × Dat))}(c:DF w V bs)(i j:Nat){B a:Nat}{b:Dat}(h:bs[i]?=some (some (B,d)))(f:bs[j]?=some (some (a,b)))(g:i≠j):B≠a:=λe=>by
 subst e;exact g (c.2.1 i j B d b h f)
def DF.ge{w V:G}{bs:List (Option (Nat × Dat))}(a:DF w V bs)(i:Nat){B:Nat}(h:bs[i]?=some (some (B,d))):w.heap.size<=B:=(a.1 i B d h).2
def EQ(V:G)(t:E)(d1 a:Dat):Prop:=∃u1 u2,t=.tuple #[u1,u2,F true]/\Has V u1 d1/\Has V u2 a
def EQ.below{V V':G}{t:E}{d1 a:Dat}(h:EQ V t d1 a)(b:Bl V V'):EQ V' t d1 a:=by
 obtain⟨u1,u2,e,c,d⟩:=h;exact⟨u1,u2,e,c.below b,d.below b⟩
def EQ.alloc{V:G}{t:E}{d1 a:Dat}(h:EQ V t d1 a)(o:Obj):EQ (V.alloc o) t d1 a:=by
 obtain⟨u1,u2,e,b,c⟩:=h;exact⟨u1,u2,e,b.alloc o,c.alloc o⟩
def EQ.set2{V:G}{v:E}{d1 a:Dat}(h:EQ V v d1 a){B:Nat}{t:TypeId}{x y:E}(q:Jf V B t x y)(d:Jy x=true)(f:Jy y=true)(b c:E)(j:d1.noPoly=true:=by rfl)(k:a.noPoly=true:=by rfl):EQ ((V.setCell ⟨B,0,Option.none⟩ b).setCell ⟨B,1,Option.none⟩ c) v d1 a:=by
 obtain⟨u1,u2,e,g,i⟩:=h;exact⟨u1,u2,e,g.set2 q d f b c j,i.set2 q d f b c k⟩
def DF.rats{w V:G}{bs:List (Option (Nat × Dat))}(b:DF w V bs){i B:Nat}{qs:X}(h:bs[i]?=some (some (B,.rats qs))):DR true V B qs:=by
 obtain⟨⟨cs,c,a⟩,_⟩:=b.1 i B _ h;obtain⟨d,e,a⟩:=a;cases e;exact⟨cs,c,a⟩
theorem DF.putRats{w V:G}{bs:List (Option (Nat × Dat))}(d:DF w V bs){i B:Nat}{qs:X}(h:bs[i]?=some (some (B,.rats qs))){j:Nat}(p:j<qs.length){x y z u:E}{q:Rat}(Q:Jj V (L #[x,y,z,u]) q)(T:noPoly bs=true:=by rfl):
 DF w (putAt V B (j*4) x y z u) (bs.set i (some (B,.rats (qs.set j q)))):=by
 have o:=d.rats h;obtain⟨_,s⟩:=d.1 i B _ h;obtain⟨cs,c1,c2⟩:=DR.set (r:=true) o p Q;have R:=o.putKeep p x y z u;have t:i<bs.length:=(As.1 h).1;refine⟨λa c d1 b=>?_,λa k c d1 D N P=>?_,Lg d.2.2 s _ _ _ _⟩
 . by_cases m:i=a
   . subst m;rw[CN t]at b;simp at b;obtain⟨rfl,rfl⟩:=b;exact⟨⟨cs,c1,cs,rfl,c2⟩,s⟩
   . rw[Cv m]at b;obtain⟨⟨A,g,l⟩,S⟩:=d.1 a c d1 b;have v:c≠B:=λe=>m (by rw[e]at b;exact d.2.1 i a B _ d1 h b);exact⟨⟨A,(GV v x y z u).trans g,l.keep R (Al (Lh T b))⟩,S⟩
 . have n:∀(a:Nat) d1,(bs.set i (some (B,.rats (qs.set j q))))[a]?=some (some (c,d1))->∃f,bs[a]?=some (some (c,f)):=λa d1 b=>by
    grind
   obtain⟨f,g⟩:=n a d1 N;obtain⟨K,l⟩:=n k D P;exact d.2.1 a k c f K g l
def DF.cell{w V:G}{bs:List (Option (Nat × Dat))}(b:DF w V bs){i B:Nat}{t:TypeId}{v:E}(h:bs[i]?=some (some (B,.cell t v))):Boxed V B t v/\Jy v=true:=by
 obtain⟨⟨cs,c,a⟩,_⟩:=b.1 i B _ h;obtain⟨e,a⟩:=a;cases e;exact⟨c,a⟩
def Dat.eq(x:E):Dat where
 ty:=0
 has _ v:=v=x
 noPoly:=true
 below h _:=h
 keep h _ _:=h
def Dat.any:Dat where
 ty:=0
 has _ _:=True
 noPoly:=true
 below h _:=h
 keep h _ _:=h
def blk:E->Nat
 |.pointer (some a)=>a.block
 |_=>0
def Dat.ptr:Dat where
 ty:=0
 has _ v:=v=.pointer (some ⟨blk v,0,none⟩)
 noPoly:=true
 below h _:=h
 keep h _ _:=h
def upd(f:Nat->E)(i:Nat)(u:E):Nat->E:=λj=>if j=i then u else f j
def more(D:Nat->Bool)(i:Nat):Nat->Bool:=λj=>j==i || D j
def Hs(ds:List Dat)(D:Nat->Bool)(V:G)(f:Nat->E):Prop:=∀k,D k=true->Has V (f k) (ds.getD k .any)
def Av(ds:List Dat)(dp:Ja)(V:G)(f:Nat->E):Prop:=∀k,k∈dp->Has V (f k) (ds.getD k .any)
def EZ(tab:List Ja)(i:Nat)(D:Nat->Bool)(l:Nat):Bool:=l != i&&((tab.getD i []).contains l || (!((tab.getD l []).contains i)&&D l))
def bl(tab:List Ja)(ws:Ja)(i:Nat)(D:Nat->Bool):List Bool:=ws.map (EZ tab i D)
section
variable {P:Program} {ops:Array Oper} {mk:(Nat->Value)->Act} {ds:List Dat} {ws:Ja} {J:List Bool->List Value->World->Prop} {tab:List Ja} {D:Nat->Bool} {f:Nat->Value} {V W:World} {dp:Ja} {i:Nat} {u x:Value} {o:Oper}
variable{b:E}
theorem Hs.mv(h:Hs ds D V f)(m:∀d v,(d∈ds\/d=.any)->Has V v d->Has W v d):Hs ds D W f:=λk a=>m _ _ (by
 grind) (h k a)
theorem Hs.put(h:Hs ds D V f)(i:Nat)(c:Has V u (ds.getD i .any)):Hs ds (more D i) V (upd f i u):=λk b=>by
 unfold upd;by_cases a:k=i
 . subst a;rw[BM rfl];exact c
 . rw[BJ a];refine h k ?_;unfold more at b;grind
def Av.g(h:Av ds dp V f)(k:Nat)(a:k∈dp:=by decide):Has V (f k) (ds.getD k .any):=h k a
def Av.e(h:Av ds dp V f)(k:Nat)(e:ds.getD k .any=.eq x:=by rfl)(a:k∈dp:=by decide):f k=x:=by
 have:=h k a;rw[e]at this;exact this
def St(ds:List Dat)(ws:Ja)(J:List Bool->List E->G->Prop)(D:Nat->Bool)(f:Nat->E)(V:G):Prop:=Hs ds D V f/\J (ws.map D) (ws.map f) V
def c1{F:FuncId}{R:Ending->G->Prop}{a x:E}(h:a=x)(q:M P F #[x] V R):M P F #[a] V R:=by rw[h];exact q
def c2{F:FuncId}{R:Ending->G->Prop}{a x y:E}(h:a=x)(k:b=y)(q:M P F #[x,y] V R):M P F #[a,b] V R:=by rw[h,k];exact q
def c3{F:FuncId}{R:Ending->G->Prop}{a x y c z:E}(h:a=x)(k:b=y)(m:c=z)(q:M P F #[x,y,z] V R):M P F #[a,b,c] V R:=by rw[h,k,m];exact q
def Hs.e(h:Hs ds (λ_=>true) V f)(k:Nat)(e:ds.getD k .any=.eq x:=by rfl):f k=x:=by
 have:=h k rfl;rw[e]at this;exact this
def Hs.p(h:Hs ds (λ_=>true) V f)(k:Nat)(e:ds.getD k .any=.ptr:=by rfl):∃B,f k=.pointer (some ⟨B,0,none⟩):=by
 have:=h k rfl;rw[e]at this;exact⟨_,this⟩
def Hs.g{d:Dat}(h:Hs ds (λ_=>true) V f)(k:Nat)(e:ds.getD k .any=d:=by rfl):Has V (f k) d:=e ▸ h k rfl
def rv{F:FuncId}{av:Array E}{x:E}(q:M P F av V λe W=>e=.returned x/\Bl V W):M P F av V λe W=>∃u,e=.returned u/\Has W u (.eq x)/\Bl V W:=q.mono λ_ _ ⟨e,a⟩=>⟨_,e,rfl,a⟩
def GW{W:G}(h:∀d∈ds,∀V W v,Has V v d->Has W v d:=by repeat (first|exact List.forall_mem_nil _|refine List.forall_mem_cons.2 ⟨λ_ _ _ h=>h,?_⟩)):∀d v,(d∈ds\/d=.any)->Has V v d->Has W v d:=λd v a k=>by
 rcases a with a|rfl
 . exact h d a V W v k
 . exact k
def Out(P:Program)(o:Oper)(a:Act)(V:G)(K:Act->G->Prop):Prop:=
 (∃r u W,(execOp a.eval o).run P V=.ok r W/\(r=.value u\/(r=.skip/\u=undef))/\K (a.put o.dst u) W)\/∃F av,(execOp a.eval o).run P V=.ok (.enter F av) V/\M P F av V λe W=>∃u,e=.returned u/\K (a.put o.dst u) W
def Es:Oper->Bool
 |{ op:=.defer _,.. }=>true
 |_=>false
section
variable {Q:Exit->Act->World->Prop} {K:Act->World->Prop} {a:Act}
def Out.op(h:Out P o a V K)(f:ops[i]?=some o)(hg:Region.wanted o (yielded ops a.tmps)=true):wpOp P ops Q i K a V:=by
 unfold wpOp;rw[f];simp only[hg,if_true];refine Al ?_;unfold Oper.wp;rcases h with⟨r,u,W,c,g,b⟩|⟨F,av,c,d⟩
 . rw[c];rcases g with rfl|⟨rfl,rfl⟩
   . exact b
   . exact b
 . rw[c];refine d.mono ?_;rintro e W ⟨u,rfl,b⟩;exact b
end
def Does(P:Program)(ops:Array Oper)(i:Nat)(a:Act)(V:G)(K:Act->G->Prop):Prop:=∃o,ops[i]?=some o/\Es o=false/\((Region.wanted o (yielded ops a.tmps)=true/\Out P o a V K)\/(Region.wanted o (yielded ops a.tmps)=false/\K (a.put o.dst undef) V))
section
variable {Q:Exit->Act->World->Prop} {K K':Act->World->Prop} {a:Act}
def Does.op(h:Does P ops i a V K):wpOp P ops Q i K a V:=by
 obtain⟨o,b,_,⟨hg,h⟩|⟨hg,h⟩⟩:=h
 . exact h.op b hg
 . unfold wpOp;rw[b];simp only[hg,CC,if_false];exact h
def Does.mono(h:Does P ops i a V K)(b:∀d V',K d V'->K' d V'):Does P ops i a V K':=by
 obtain⟨o,f,g,⟨hg,h⟩|⟨hg,h⟩⟩:=h
 . refine⟨o,f,g,Al ⟨hg,?_⟩⟩;rcases h with⟨r,u,W,c,l,h⟩|⟨F,av,c,k⟩
   . exact Al ⟨r,u,W,c,l,b _ _ h⟩
   . exact Au ⟨F,av,c,k.mono λe W ⟨u,j,h⟩=>⟨u,j,b _ _ h⟩⟩
 . exact⟨o,f,g,Au ⟨hg,b _ _ h⟩⟩
end
def Stp(P:Program)(ops:Array Oper)(mk:(Nat->E)->Act)(ds:List Dat)(ws:Ja)(J:List Bool->List E->G->Prop)(tab:List Ja)(i:Nat):Prop:=
 ∀D f V,Av ds (tab.getD i []) V f->Hs ds D V f->J (bl tab ws i D) (ws.map f) V->ws.map D=bl tab ws i D->
  Does P ops i (mk f) V (λa V'=>∃u,a=mk (upd f i u)/\St ds ws J (more D i) (upd f i u) V')
variable{args:(Nat->E)->Array E}{c:List Ja}{R:Nat->Prop}
theorem St.step(d:ws.contains i=false)(h:J (ws.map D) (ws.map f) V):J (ws.map (more D i)) (ws.map (upd f i u)) V:=by
 have c:∀l∈ws,l≠i:=λl hl e=>by
  grind
 have a:ws.map (more D i)=ws.map D:=Ck λl hl=>by unfold more;grind
 have b:ws.map (upd f i u)=ws.map f:=Ck λl hl=>BJ (c l hl);rw[a,b];exact h
def WB{n:Nat}(h:R 0)(t:∀i,i<n->R (i+1)):∀i,i<n+1->R i
 |0,_=>h
 |i+1,a=>t i (Nat.lt_of_succ_lt_succ a)
def Stp.end_:∀i,i<0->R i:=λ_ h=>absurd h (Nat.not_lt_zero _)
def Stp.cl{F:FuncId}
(k:∀ {f V D},Av ds (tab.getD i []) V f->J (bl tab ws i D) (ws.map f) V->M P F (args f) V λe W=>∃u,e=.returned u/\Has W u (ds.getD i .any)/\Bl V W)
(hJ:∀b v V W,J b v V->Bl V W->J b v W:=by first|exact λ_ _ _ _ h a=>h.below a|exact λ_ _ _ _ h a=>⟨h.1.below a,h.2.below a⟩)(n:ops[i]?=some o:=by rfl)(hg:∀ {f V},Av ds (tab.getD i []) V f->Region.wanted o (yielded ops (mk f).tmps)=true:=by exact λ_=>rfl)(l:ws.contains i=false:=by rfl)
(r:∀f V,(execOp (mk f).eval o).run P V=.ok (.enter F (args f)) V:=by intro f V;kernel_rfl)(m:∀f u,(mk f).put o.dst u=mk (upd f i u):=by intro f u;kernel_rfl)(p:Es o=false:=by rfl):Stp P ops mk ds ws J tab i:=λD f V g hs j a=>⟨o,n,p,Al ⟨hg g,Au ⟨F,args f,r f V,by
 refine(k g j).mono ?_;rintro e W ⟨u,rfl,q,c⟩;exact⟨u,rfl,u,m f u,(hs.mv λd v _ h=>h.below c).put i q,St.step l (hJ _ _ _ _ (by rw[a];exact j) c)⟩⟩⟩⟩
def Stp.ci{F:FuncId}(n:ops[i]?=some o)
(c:∀ {f V D},Av ds (tab.getD i []) V f->J (bl tab ws i D) (ws.map f) V->∃av,(execOp (mk f).eval o).run P V=.ok (.enter F av) V/\M P F av V λe W=>∃u,e=.returned u/\Has W u (ds.getD i .any)/\Bl V W)
(hJ:∀b v V W,J b v V->Bl V W->J b v W:=by first|exact λ_ _ _ _ h a=>h.below a|exact λ_ _ _ _ h a=>⟨h.1.below a,h.2.below a⟩)(hg:∀ {f V},Av ds (tab.getD i []) V f->Region.wanted o (yielded ops (mk f).tmps)=true:=by exact λ_=>rfl)(l:ws.contains i=false:=by rfl)
(m:∀f u,(mk f).put o.dst u=mk (upd f i u):=by intro f u;kernel_rfl)(p:Es o=false:=by rfl):Stp P ops mk ds ws J tab i:=λD f V j hs k a=>by
 obtain⟨av,r,c⟩:=c j k;refine⟨o,n,p,Al ⟨hg j,Au ⟨F,av,r,c.mono ?_⟩⟩⟩;rintro e W ⟨u,rfl,q,g⟩;exact⟨u,rfl,u,m f u,(hs.mv λd v _ h=>h.below g).put i q,St.step l (hJ _ _ _ _ (by rw[a];exact k) g)⟩
def Stp.vl(g:ops[i]?=some o)(l:∀ {f V D},Av ds (tab.getD i []) V f->J (bl tab ws i D) (ws.map f) V->∃u,(execOp (mk f).eval o).run P V=.ok (.value u) V/\Has V u (ds.getD i .any))
(hg:∀ {f V},Av ds (tab.getD i []) V f->Region.wanted o (yielded ops (mk f).tmps)=true:=by exact λ_=>rfl)(d:ws.contains i=false:=by rfl)(e:∀f u,(mk f).put o.dst u=mk (upd f i u):=by intro f u;kernel_rfl)(j:Es o=false:=by rfl):Stp P ops mk ds ws J tab i:=λD f V a hs b c=>by
 obtain⟨u,m,k⟩:=l a b;exact⟨o,g,j,Al ⟨hg a,Al ⟨_,u,V,m,Al rfl,u,e f u,hs.put i k,St.step d (by rw[c];exact b)⟩⟩⟩
def Stp.wr(m:ops[i]?=some o)(s:∀ {f V D},Av ds (tab.getD i []) V f->J (bl tab ws i D) (ws.map f) V->∃r u W,(execOp (mk f).eval o).run P V=.ok r W/\(r=.value u\/(r=.skip/\u=undef))/\Has W u (ds.getD i .any)/\(∀d v,(d∈ds\/d=.any)->Has V v d->Has W v d)/\J (ws.map (more (EZ tab i D) i)) (ws.map (upd f i u)) W)
(hg:∀ {f V},Av ds (tab.getD i []) V f->Region.wanted o (yielded ops (mk f).tmps)=true:=by exact λ_=>rfl)(k:∀f u,(mk f).put o.dst u=mk (upd f i u):=by intro f u;kernel_rfl)(n:Es o=false:=by rfl):Stp P ops mk ds ws J tab i:=λD f V a hs g c=>by
 obtain⟨r,u,W,t,p,q,j,hJ⟩:=s a g;have e:ws.map (more (EZ tab i D) i)=ws.map (more D i):=Ck λl hl=>by
  have b:=List.map_inj_left.1 c l hl;show(l==i || EZ tab i D l)=(l==i || D l);rw[<-b]
 rw[e]at hJ;exact⟨o,m,n,Al ⟨hg a,Al ⟨r,u,W,t,p,u,k f u,(hs.mv j).put i q,hJ⟩⟩⟩
def Stp.no(j:ops[i]?=some o)(hg:∀ {f V},Av ds (tab.getD i []) V f->Region.wanted o (yielded ops (mk f).tmps)=false)(c:∀V,Has V undef (ds.getD i .any):=by exact λ_=>trivial)(d:ws.contains i=false:=by rfl)(g:∀f u,(mk f).put o.dst u=mk (upd f i u):=by intro f u;kernel_rfl)(k:Es o=false:=by rfl):Stp P ops mk ds ws J tab i:=λD f V a hs e b=>
 ⟨o,j,k,Au ⟨hg a,undef,g f undef,hs.put i (c V),St.step d (by rw[b];exact e)⟩⟩
def Stp.cw{F:FuncId}
(g:∀ {f V D},Av ds (tab.getD i []) V f->J (bl tab ws i D) (ws.map f) V->M P F (args f) V λe W=>∃u,e=.returned u/\Has W u (ds.getD i .any)/\(∀d v,(d∈ds\/d=.any)->Has V v d->Has W v d)/\J (ws.map (more (EZ tab i D) i)) (ws.map (upd f i u)) W)
(n:ops[i]?=some o:=by rfl)(hg:∀ {f V},Av ds (tab.getD i []) V f->Region.wanted o (yielded ops (mk f).tmps)=true:=by exact λ_=>rfl)
(r:∀f V,(execOp (mk f).eval o).run P V=.ok (.enter F (args f)) V:=by intro f V;kernel_rfl)(m:∀f u,(mk f).put o.dst u=mk (upd f i u):=by intro f u;kernel_rfl)(p:Es o=false:=by rfl):Stp P ops mk ds ws J tab i:=λD f V a hs j c=>⟨o,n,p,Al ⟨hg a,Au ⟨F,args f,r f V,by
 refine(g a j).mono ?_;rintro e W ⟨u,rfl,q,k,hJ⟩;have e:ws.map (more (EZ tab i D) i)=ws.map (more D i):=Ck λl hl=>by
  have b:=List.map_inj_left.1 c l hl;show(l==i || EZ tab i D l)=(l==i || D l);rw[<-b]
 rw[e]at hJ;exact⟨u,rfl,u,m f u,(hs.mv k).put i q,hJ⟩⟩⟩⟩
theorem QH(b:∀l dp,tab[l]?=some dp->D l=true->∀k∈dp,D k=true)(c:∀k∈tab.getD i [],D k=true)(a:D i=false)(d:∀l∈ws,l<tab.length):ws.map D=bl tab ws i D:=Ck λl hl=>by
 grind[EZ]
def Fp(a:Act):List (Option Tmp)->Nat->(Nat->E)->Act
 |[],_,_=>a
 |d::ds,k,f=>Fp (a.put d (f k)) ds (k+1) f
def Ih(a:Act):Option (Option Tmp)->E
 |some (some t)=>a.tmps.getD t undef
 |_=>undef
def Lj(a:Act):∀(ds:List (Option Tmp)) (k:Nat) (f:Nat->E),(∀j,j<ds.length->f (k+j)=Ih a ds[j]?)->Fp a ds k f=a
 |[],_,_,_=>rfl
 |d::ds,k,f,h=>by
  have e:a.put d (f k)=a:=by
   have c:f k=Ih a (some d):=h 0 (Nat.zero_lt_succ _);rw[c];cases d with
   |none=>rfl
   |some t=>
    show({ a with tmps:=a.tmps.setIfInBounds t (a.tmps.getD t undef) }:Act)=a
    have:a.tmps.setIfInBounds t (a.tmps.getD t undef)=a.tmps:=by
     apply Array.ext_getElem?;intro i;rw[Array.getElem?_setIfInBounds];by_cases b:t=i
     . subst b;by_cases hs:t<a.tmps.size
       . simp[hs]
       . simp[hs]
     . rw[BJ b]
    rw[this]
  show Fp (a.put d (f k)) ds (k+1) f=a;rw[e];exact Lj a ds (k+1) f λj g=>by
   rw[Nat.add_right_comm,Nat.add_assoc];exact h (j+1) (Nat.succ_lt_succ g)
def EJ(ops:Array Oper)(a:Act)(f:Nat->E):Act:=Fp a (ops.toList.map Oper.dst) 0 f
def QI{a:Act}{dp:Ja}{K:Act->G->Prop}(p:∀l dp,tab[l]?=some dp->D l=true->∀k∈dp,D k=true)(q:tab[i]?=some dp)(g:∀k∈dp,D k=true)(n:D i=false)(s:(ws.all λl=>decide (l<tab.length))=true)
(t:∀i,i<tab.length->Stp P ops (EJ ops a) ds ws J tab i)(c:St ds ws J D f V)(o:∀b V',(∃f,b=EJ ops a f/\St ds ws J (more D i) f V')->K b V'):Does P ops i (EJ ops a f) V K:=by
 have e:tab.getD i []=dp:=DO
 have d:=QH p (e ▸ g) n λl hl=>BX (Ay.1 s l hl);exact(t i (As.1 q).1 D f V (λk r=>c.1 k (g k (by rw[<-e];exact r))) c.1 (by rw[<-d];exact c.2) d).mono λb V' ⟨u,j,m⟩=>o _ _ ⟨_,j,m⟩
def QJ(e:(ws.all λl=>decide (l<tab.length))=true)(c:decide (ds.length<=tab.length)=true)(b:∀i,i<tab.length->D i=true)(a:St ds ws J D f V):Hs ds (λ_=>true) V f/\J (ws.map λ_=>true) (ws.map f) V:=by
 refine⟨λk _=>?_,?_⟩
 . by_cases d:k<tab.length
   . exact a.1 k (b k d)
   . have:=BX c;rw[List.getD_eq_getElem?_getD,AJ O];trivial
 . rw[Ck (g:=D) λl hl=>(b l (BX (Ay.1 e l hl))).symm];exact a.2
def Fq(tab a:List Ja):Bool:=tab.length==a.length&&(List.range a.length).all λi=>(a.getD i []).all λk=>(tab.getD i []).contains k || (tab.getD i []).any λj=>decide (j<i)&&(a.getD j []).contains k
theorem Lk(h:Fq tab c=true)(i:Nat)(a:i<c.length)(k:Nat)(b:k∈c.getD i []):k∈tab.getD i []\/∃j,j<i/\j∈tab.getD i []/\k∈c.getD j []:=by
 have d:=Ay.1 (Ay.1 (Bool.and_eq_true_iff.1 h).2 i (List.mem_range.2 a)) k b;grind
theorem Ii(h:Fq tab c=true):tab.length=c.length:=eq_of_beq (Bool.and_eq_true_iff.1 h).1
def getD_at{t:List Ja}{i:Nat}(h:i<t.length):t[i]?=some (t.getD i []):=DO
theorem Ll(h:Fq tab c=true)(b:∀l dp,tab[l]?=some dp->D l=true->∀k∈dp,D k=true)(l:Nat):D l=true->∀k∈c.getD l [],D k=true:=by
 induction l using Nat.strongRecOn with
 |ind l e=>
  intro a k d;grind[Ii,Lk]
theorem QK{a:Act}{dp:Ja}{K:Act->G->Prop}(h:Fq tab c=true)(g:∀l dp,tab[l]?=some dp->D l=true->∀k∈dp,D k=true)(v:tab[i]?=some dp)(m:∀k∈dp,D k=true)(q:D i=false)(t:(ws.all λl=>decide (l<c.length))=true)
(u:∀i,i<c.length->Stp P ops (EJ ops a) ds ws J c i)(r:St ds ws J D f V)(s:∀d V',(∃f,d=EJ ops a f/\St ds ws J (more D i) f V')->K d V'):Does P ops i (EJ ops a f) V K:=by
 have hl:i<c.length:=by grind[Ii]
 have e:tab.getD i []=dp:=DO
 refine QI (λl dp hl p k n=>Ll h g l p k DO) (getD_at hl) (λk n=>?_) q t u r s;rcases Lk h i hl k n with b|⟨j,_,b,o⟩
 . exact m k (e ▸ b)
 . exact Ll h g j (m j (e ▸ b)) k o
def ED{id:Nat}{a:Act}{w:G}{Q:Exit->Act->G->Prop}(v:P.follows .mixedOrders=true)(b:List Ja)(ds:List Dat)(ws:Ja)(J:List Bool->List E->G->Prop)
(start:J (ws.map λ_=>false) (ws.map λk=>Ih a (ops.toList.map Oper.dst)[k]?) w.drew)
(x:∀i,i<b.length->Stp P ops (EJ ops a) ds ws J b i)
(fin:∀f V,Hs ds (λ_=>true) V f->J (ws.map λ_=>true) (ws.map f) V->Q .normal (EJ ops a f) V)
(e:Fq (Region.tabAfter .any ops) b=true:=by kernel_rfl)(u:XA (Region.tabAfter .any ops)=true:=by kernel_rfl)(g:(ws.all λl=>decide (l<b.length))=true:=by rfl)(s:decide (ds.length<=b.length)=true:=by rfl):(Code.region id ops true).wp P Q a w:=by
 refine J4 v _ rfl u (λD m V=>∃f,m=EJ ops a f/\St ds ws J D f V) ⟨_,(Lj a _ 0 _ λj _=>by rw[Cd]).symm,CB (λ_ h=>Bool.noConfusion h) start⟩ ?_ ?_
 . rintro D _ V i dp r d t p ⟨f,rfl,c⟩;exact(QK e r d t p g x c λ_ _ h=>h).op
 . rintro D _ V q ⟨f,rfl,c⟩;obtain⟨n,o⟩:=QJ g s (λi d=>q i (by rw[Ii e];exact d)) c;exact fin f V n o
def DP{p q:Prop}(k:q)(h:q->p:=by intro x;simp only[EJ,Fp,List.map_cons,List.map_nil,Act.put,List.setIfInBounds_toArray,List.set_cons_succ,List.set_cons_zero,Nat.reduceAdd];exact x):p:=h k
end
end M3
namespace M3
def Dat.ifq(q:Rat):Dat where
 ty:=0
 has V v:=∃u,v=.iface 38 u/\Jj V u q
 noPoly:=true
 below h hb:=by
  obtain⟨u,e,h⟩:=h;exact⟨u,e,h.below hb⟩
 keep h hk hp:=by
  obtain⟨u,e,h⟩:=h;exact⟨u,e,Dat.keep (.rat q) h hk hp⟩
section
variable {w V:World} {bs:List (Option (Nat × Dat))} {B:Nat} {ρ:Operand->Value} {x y:Operand} {dst:Option Tmp} {ty:TypeId} {ps:String} {af:Array Edge} {gd:Option (Nat × Bool)} {q q0:Rat} {z z0:Int} {p p0:X} {v p1 u1:Value} {ds:List Dat} {T:World->Value->Prop}
variable{d:Dat}{qs:X}{m:Nat}
def Ea(i:Nat)(e:DF w V bs)(h:bs[i]?=some (some (B,.rat q)):=by rfl)(hp:p1=.pointer (some ⟨B,0,none⟩):=by rfl)(f:ρ x=p1:=by kernel_rfl):∃u,(execOp ρ { dst:=dst,op:=.load 38 x,type:=ty,pos:=ps,after:=af,guard:=gd }).run I V=.ok (.value u) V/\Has V u (.rat q):=by
 rw[hp]at f;obtain⟨s,a,l,c,t,b,k,d,n,r,_,_⟩:=e.rat h;obtain⟨g,j,m,o⟩:=n.kb;exact⟨_,by go_simp,r⟩
def FE(i:Nat)(b:DF w V bs)(h:bs[i]?=some (some (B,.int z)):=by rfl)(hp:p1=.pointer (some ⟨B,0,none⟩):=by rfl)(d:ρ x=p1:=by kernel_rfl):∃u,(execOp ρ { dst:=dst,op:=.load 36 x,type:=ty,pos:=ps,after:=af,guard:=gd }).run I V=.ok (.value u) V/\Has V u (.int z):=by
 rw[hp]at d;obtain⟨s,a,l,c,n,r⟩:=b.int h;obtain⟨e,f⟩:=n.ka;exact⟨_,by go_simp,r⟩
def FF(i:Nat)(e:DF w V bs)(h:bs[i]?=some (some (B,.rat q)):=by rfl)(hp:p1=.pointer (some ⟨B,0,none⟩):=by rfl)(f:ρ x=p1:=by kernel_rfl):∃u,(execOp ρ { dst:=dst,op:=.load 36 x,type:=ty,pos:=ps,after:=af,guard:=gd }).run I V=.ok (.value u) V/\Has V u (.int q.num):=by
 rw[hp]at f;obtain⟨s,a,l,c,t,b,k,d,n,_,r,_⟩:=e.rat h;obtain⟨g,j,m,o⟩:=n.kb;exact⟨_,by go_simp,r⟩
def mv{y:E}(h:ρ x=y:=by kernel_rfl):∃u,(execOp ρ { dst:=dst,op:=.move x,type:=ty,pos:=ps,after:=af,guard:=gd }).run I V=.ok (.value u) V/\Has V u (.eq y):=⟨_,rfl,h⟩
def av{y:E}(h:ρ x=y:=by kernel_rfl):∃u,(execOp ρ { dst:=dst,op:=.assign x,type:=ty,pos:=ps,after:=af,guard:=gd }).run I V=.ok (.value u) V/\Has V u (.eq y):=⟨_,rfl,h⟩
def mw(a:Has V u1 d)(h:ρ x=u1:=by kernel_rfl):∃u,(execOp ρ { dst:=dst,op:=.move x,type:=ty,pos:=ps,after:=af,guard:=gd }).run I V=.ok (.value u) V/\Has V u d:=⟨_,rfl,h ▸ a⟩
def aw(a:Has V u1 d)(h:ρ x=u1:=by kernel_rfl):∃u,(execOp ρ { dst:=dst,op:=.assign x,type:=ty,pos:=ps,after:=af,guard:=gd }).run I V=.ok (.value u) V/\Has V u d:=⟨_,rfl,h ▸ a⟩
def QL(i:Nat)(a:DF w V bs)(b:m<qs.length)(hp:p1=.pointer (some ⟨B,m*4,none⟩))(h:bs[i]?=some (some (B,.rats qs)):=by rfl)(d:ρ x=p1:=by kernel_rfl):∃u,(execOp ρ { dst:=dst,op:=.load 38 x,type:=ty,pos:=ps,after:=af,guard:=gd }).run I V=.ok (.value u) V/\Has V u (.rat (cf qs m)):=by
 rw[hp]at d;obtain⟨k,l,n,o,e,f,g,j,c⟩:=(a.rats h).at b;exact⟨_,by go_simp,c⟩
def Wr(ρ:Operand->E)(o:Oper)(V:G)(ds:List Dat)(d:Dat)(T:G->E->Prop):Prop:=∃r u W,(execOp ρ o).run I V=.ok r W/\(r=.value u\/(r=.skip/\u=undef))/\Has W u d/\(∀d v,(d∈ds\/d=.any)->Has V v d->Has W v d)/\T W u
def Et(i:Nat)(g:DF w V bs)(f:Has V u1 (.int z))(h:bs[i]?=some (some (B,.int z0)):=by rfl)(hp:p1=.pointer (some ⟨B,0,none⟩):=by rfl)(p:ρ x=p1:=by kernel_rfl)(q:ρ y=u1:=by kernel_rfl)(o:ds.all Dat.noPoly=true:=by rfl)(j:∀ {s a l c x y},Jf V B 36 (F s) (C a l c)->DF w ((V.setCell ⟨B,0,none⟩ x).setCell ⟨B,1,none⟩ y) (bs.set i (some (B,.int z)))->T ((V.setCell ⟨B,0,none⟩ x).setCell ⟨B,1,none⟩ y) undef:=by exact λ_ m=>m):Wr ρ { dst:=none,op:=.store 36 x y,type:=ty,pos:=ps,after:=af,guard:=gd } V ds (.eq undef) T:=by
 rw[hp]at p;obtain⟨s,a,l,c,n,r⟩:=g.int h;obtain⟨u,A⟩:=n.ka;obtain⟨f0,f1⟩:=n.fa;obtain⟨K,t,D,c1,e⟩:=Jg.form2 (show Jg V _ _ from f);rw[e]at f;rw[e]at q;exact⟨.skip,undef,_,by go_simp,Au ⟨rfl,rfl⟩,rfl,λd v b k=>k.set2 n rfl rfl _ _ (by rcases b with b|rfl;exact Ay.1 o d b;rfl),j n (g.putInt h f)⟩
def QM(i:Nat)(e:DF w V bs)(c:m<qs.length)(f:Has V u1 (.rat q))(hp:p1=.pointer (some ⟨B,m*4,none⟩))(h:bs[i]?=some (some (B,.rats qs)):=by rfl)(j:ds.all Dat.noPoly=true:=by rfl)(n:noPoly bs=true:=by rfl)(l:ρ x=p1:=by kernel_rfl)(K:ρ y=u1:=by kernel_rfl)(g:∀ {x y z u},DR true V B qs->DF w (putAt V B (m*4) x y z u) (bs.set i (some (B,.rats (qs.set m q))))->T (putAt V B (m*4) x y z u) undef:=by exact λ_ m=>m):Wr ρ { dst:=none,op:=.store 38 x y,type:=ty,pos:=ps,after:=af,guard:=gd } V ds (.eq undef) T:=by
 rw[hp]at l;have a:=e.rats h;obtain⟨S,U,W,X,s,t,A,D,_⟩:=a.at c;have f0:=a.frozen (m*4);have f1:=a.frozen (m*4+1);have f2:=a.frozen (m*4+2);have f3:=a.frozen (m*4+3);obtain⟨Q,o,P,p,R,b9,N,r,rfl⟩:=Jj.form (show Jj V _ _ from f);exact⟨.skip,undef,_,by go_simp;rfl,Au ⟨rfl,rfl⟩,rfl,λd v b k=>k.keep (a.putKeep c _ _ _ _) (Al (by rcases b with b|rfl;exact Ay.1 j d b;rfl)),g a (e.putRats h c f n)⟩
def Eu(i:Nat)(a:DF w V bs)(h:bs[i]?=some none:=by rfl)(b:∀ {o},DF w (V.alloc o) (bs.set i (some (V.heap.size,.int 0)))->T (V.alloc o) (.pointer (some ⟨V.heap.size,0,none⟩)):=by exact λm=>m):Wr ρ { dst:=dst,op:=.alloc 36,type:=ty,pos:=ps,after:=af,guard:=gd } V ds .ptr T:=
 ⟨_,.pointer (some ⟨V.heap.size,0,none⟩),_,by go_simp;exact rfl,Al rfl,rfl,λ_ _ _ k=>k.alloc _,b (a.fill h (.int 0) (Ds V))⟩
def nb(b:List Bool)(v:List E)(a l:Nat)(d0 d1:Dat):Option (Nat × Dat):=if b.getD a false then some (blk (v.getD a undef),if b.getD l false then d1 else d0)else none
def mi(a:Has V u1 (.rat q))(b:ρ x=u1:=by kernel_rfl):∃u,(execOp ρ { dst:=dst,op:=.makeInterface 38 x,type:=ty,pos:=ps,after:=af,guard:=gd }).run I V=.ok (.value u) V/\Has V u (.ifq q):=⟨.iface 38 u1,by go_simp,u1,rfl,a⟩
end
def FG{p q:Prop}(k:p)(h:p->q:=by intro x;simp only[nb,List.map_cons,List.map_nil,List.getD_cons_zero,List.getD_cons_succ,if_true,blk]at x;exact x):q:=h k
end M3
def Jn.alloc{W:G}{v:E}{z:Int}(h:Jn W v z)(o:Obj):Jn (W.alloc o) v z:=h.below (Ba W o)
def Jn.form{W:G}{v:E}{z:Int}(h:Jn W v z):∃a l cap,v=L #[C a l cap,F (decide (z<0))]:=by
 obtain⟨a,l,cap,e,_⟩:=h;exact⟨a,l,cap,e⟩
def Jn.box{W:G}{R:Nat}{t:TypeId}{u0 u1 x0 x1 v:E}{z:Int}(h:Jn W v z)(q:Jf W R t u0 u1)(c:Jy u0=true)(d:Jy u1=true):Jn ((W.setCell ⟨R,0,none⟩ x0).setCell ⟨R,1,none⟩ x1) v z:=by
 obtain⟨a,l,cap,e,b⟩:=h;exact⟨a,l,cap,e,Row.set (Row.set b q.c0 c _) (u0:=u1) (q.set0 x0).c1 d _⟩
def QN(U W:E)(x y:Int)(w:G)(k:Jn w U x)(l:Jn w W y)(ah:De x<=400000000000)(ai:De y<=400000000000):
 M I 158 #[U,W] w λe d=>∃u,e=.returned u/\Jn d u (x-y)/\Bl w d:=by
 obtain⟨a,j,g,rfl⟩:=k.form;obtain⟨b,lb,i,rfl⟩:=l.form;obtain⟨s,hs⟩:=ex (decide (x<0));obtain⟨t,B⟩:=ex (decide (y<0));rw[hs]at k ⊢;rw[B]at l ⊢;clear hs B;obtain⟨W0,f⟩:=ex (((w.alloc (H #[C a j g,F s] 47)).alloc (H #[C b lb i,F t] 47)).alloc (H #[C none 0 0,F false] 47));have m:Bl w W0:=by rw[<-f];exact Xv w _ _ _
 have b0:Jf W0 w.heap.size 47 (C a j g) (F s):=by rw[<-f];exact((Jf.new w _ _ _).alloc _).alloc _
 have n:Jf W0 (w.heap.size+1) 47 (C b lb i) (F t):=by
  have h:=(Jf.new (w.alloc (H #[C a j g,F s] 47)) 47 (C b lb i) (F t)).alloc (H #[C none 0 0,F false] 47);rw[A1,f]at h;exact h
 have o:Jf W0 (w.heap.size+1+1) 47 (C none 0 0) (F false):=by
  have h:=Jf.new ((w.alloc (H #[C a j g,F s] 47)).alloc (H #[C b lb i,F t] 47)) 47 (C none 0 0) (F false);rw[A1,A1,f]at h;exact h
 have X:=Z λ(V:G) (h:Bl W0 V)=>Kc _ y V ((l.below m).below h);have HS:=Z λ(V:G) (u:E) (h:Bl W0 V) (hu:Jn V u (-y))=>Kb _ u x (-y) V ((k.below m).below h) hu ah (by unfold De at *;rw[C7];exact ai);clear k l;go_enter func158,ntmps158
 go_wp2_with fail
 try rw[f]
 clear f;have c:Bl W0 W0.drew:=(BB _ W0).drew;obtain⟨D,K⟩:=b0.cp;obtain⟨N,P⟩:=n.cp;have aj:¬(w.heap.size=w.heap.size+1+1):=O
 go_region_held3 (λd=>d.cell? ⟨w.heap.size,0,none⟩=some (C a j g)/\d.cell? ⟨w.heap.size,1,none⟩=some (F s)/\d.cell? ⟨w.heap.size+1,0,none⟩=some (C b lb i)/\d.cell? ⟨w.heap.size+1,1,none⟩=some (F t)) (refine⟨?_,?_,?_,?_⟩<;>(first|(go_keep;done)|((repeat rw[JC O]);simp[*];done)))
  (first
   |(go_at_call 126;refine(X.o _ c).mono ?_;rintro e w1 ⟨u1,rfl,z,ad⟩;obtain⟨na,nl,nc,rfl⟩:=z.form;obtain⟨s1,q⟩:=ex (decide (-y<0));rw[q]at z;rw[q];clear q;have c:=Bt c ad;obtain⟨D,K⟩:=(b0.below c).cp;obtain⟨N,P⟩:=(n.below c).cp)
   |(go_at_call 108;refine(HS.o _ _ c z).mono ?_;rintro e w2 ⟨u2,rfl,A,ae⟩;obtain⟨R,T,S,rfl⟩:=A.form;obtain⟨Q,r⟩:=ex (decide (x+-y<0));rw[r]at A;rw[r];clear r;have c:=Bt c ae;obtain⟨D,K⟩:=(b0.below c).cp;obtain⟨N,P⟩:=(n.below c).cp;obtain⟨r0,r1⟩:=(o.below c).cp;obtain⟨f0,f1⟩:=(o.below c).fp))
 all_goals go_wp2_with fail
 have Qc:=Bt m c;have Qb:=A.box (o.below c) rfl rfl (x0:=C R T S) (x1:=F Q);exact BA (v:=L #[C R T S,F Q]) (by simp[results,results158,go_sem,r0,r1]) rfl ⟨_,rfl,by rw[Int.sub_eq_add_neg];exact Qb,(Qc.setCell (p:=⟨_,0,none⟩) so _).setCell (p:=⟨_,1,none⟩) so _⟩
def Lm(X vb:E)(x y:Int)(w:G)(g:Jg w X x)(hb:Jg w vb y)(ah:(Jb Y x.natAbs).length<1099511627776)(ai:(Jb Y y.natAbs).length<1099511627776):
 M I 88 #[X,vb] w λe d=>∃u,e=.returned u/\Jg d u (x-y)/\Bl w d:=by
 obtain⟨a,R,B,rfl⟩:=g.form;obtain⟨b,lb,f,e0,i⟩:=hb;cases e0;obtain⟨s,hs⟩:=ex (decide (x<0));obtain⟨t,q⟩:=ex (decide (y<0));rw[hs]at g ⊢;rw[q];clear hs;obtain⟨W0,m⟩:=ex (((w.alloc (H #[F s,C a R B] 36)).alloc (H #[F t,C b lb f] 36)).alloc (H #[F false,C none 0 0] 36));obtain⟨l,b0,j,k⟩:=F9 m;have A:(if(!t)=true then -(y.natAbs:Int)else y.natAbs)=-y:=by
  rw[<-q];by_cases h:y<0
  . simp only[h,decide_true,Bool.not_true,CC,if_false];omega
  . simp only[h,decide_false,Bool.not_false,if_true];omega
 have HN:=Z (λ(V:G) (h:Bl W0 V)=>show M I 112 #[F (!t),C b lb f] V λe d=>∃u,e=.returned u/\Jg d u (-y)/\Bl V d by
  have D:=XW (!t) (C b lb f) y.natAbs V (UN.below (UN.below i l) h);rw[A]at D;exact D)
 have HS:=Z λ(V:G) (u:E) (h:Bl W0 V) (i:Jg V u (-y))=>IK _ u x (-y) V ((g.below l).below h) i ah (by rw[C7];exact ai);clear g i A q;go_enter func88,ntmps88
 go_wp2_with fail
 try rw[m]
 clear m;have c:Bl W0 W0.drew:=(BB _ W0).drew;obtain⟨K,N⟩:=b0.cp;obtain⟨P,Q⟩:=j.cp;have aj:¬(w.heap.size=w.heap.size+1+1):=O
 go_region_held3 (λd=>d.cell? ⟨w.heap.size,0,none⟩=some (F s)/\d.cell? ⟨w.heap.size,1,none⟩=some (C a R B)/\d.cell? ⟨w.heap.size+1,0,none⟩=some (F t)/\d.cell? ⟨w.heap.size+1,1,none⟩=some (C b lb f)) (refine⟨?_,?_,?_,?_⟩<;>(first|(go_keep;done)|((repeat rw[JC O]);simp[*];done)))
  (first
   |(go_at_call 112;refine(HN.o _ c).mono ?_;rintro e w1 ⟨u1,rfl,r,ad⟩;obtain⟨na,nl,nc,rfl⟩:=r.form;obtain⟨s1,n⟩:=ex (decide (-y<0));rw[n]at r;rw[n];clear n;have c:=Bt c ad;obtain⟨K,N⟩:=(b0.below c).cp;obtain⟨P,Q⟩:=(j.below c).cp)
   |(go_at_call 81;refine(HS.o _ _ c r).mono ?_;rintro e w2 ⟨u2,rfl,z,ae⟩;obtain⟨T,W,U,rfl⟩:=z.form;obtain⟨S,o⟩:=ex (decide (x+-y<0));rw[o]at z;rw[o];clear o;have c:=Bt c ae;obtain⟨K,N⟩:=(b0.below c).cp;obtain⟨P,Q⟩:=(j.below c).cp;obtain⟨r0,r1⟩:=(k.below c).cp;obtain⟨f0,f1⟩:=(k.below c).fp))
 all_goals go_wp2_with fail
 have Qc:=Bt l c;have Qb:=z.box (k.below c) rfl rfl (x0:=F S) (x1:=C T W U);exact BA (v:=L #[F S,C T W U]) (by simp[results,results88,go_sem,r0,r1]) rfl ⟨_,rfl,by rw[Int.sub_eq_add_neg];exact Qb,(Qc.setCell (p:=⟨_,0,none⟩) so _).setCell (p:=⟨_,1,none⟩) so _⟩
def QO(a:TR)(c k:Nat)(b:TR)(lb l m n:Nat)(w:G)(z:c+lb<=1099511627776)
(f:Row .u64 w (C a c k) (Jb Y m))(g:Row .u64 w (C b lb l) (Jb Y n)):
 M I 118 #[C a c k,C b lb l] w λe t=>∃u,e=.returned u/\UN t u (m*n)/\Bl w t:=by
 have r:=XZ (c+lb) O w;rw[show((c+lb:Nat):Int)=(c:Int)+(lb:Int)from by omega]at r;obtain⟨d,i⟩:∃d,d=w.alloc (H (cellsOf .u64 (TT (c+lb) 0)).toArray 163):=⟨_,rfl⟩;have j:Bl w d:=by rw[i];exact Ba w _
 have q:DG d w.heap.size (TT (c+lb) 0):=by rw[i];exact DG.made (BD w _)
 rw[<-i]at r;have v:=Z (O7 w.heap.size (c+lb) (c+lb) (TT (c+lb) 0) a c k b lb l m n d q (λx A=>by rw[CI A];unfold Y;omega) DO (Aa _) O z (Row.below f j) (Row.below g j)
  (λp e o=>by have:=El f e o;omega) λp e o=>by have:=El g e o;omega)
 have B:=(Jm f).2.1;have D:=(Jm f).2.2.1;have K:=(Jm g).2.1;have N:=(Jm g).2.2.1;clear i q f g;go_enter func118,ntmps118
 go_wp2_with(go_at_call 153;refine v.o.mono ?_;rintro e R ⟨u,rfl,⟨s,y⟩,_,_⟩;obtain⟨P,Q,rfl⟩:=UN.form s)
 go_ret;exact⟨_,rfl,s,below_grown j y (Aa _)⟩
def Xn(T U:E)(x y:Int)(w:G)(ha:Jg w T x)(hb:Jg w U y)(hl:(Jb Y x.natAbs).length+(Jb Y y.natAbs).length<=1099511627776):
 M I 85 #[T,U] w λe g=>∃u,e=.returned u/\Jg g u (x*y)/\Bl w g:=by
 obtain⟨a,D,m,o,j⟩:=ha;cases o;obtain⟨b,lb,n,o,B⟩:=hb;cases o;have Qc:=j.len;have Qd:=B.len;obtain⟨s,hs⟩:=ex (decide (x<0));obtain⟨t,z⟩:=ex (decide (y<0));have K:(if(!(s==t))=true then -((x.natAbs*y.natAbs:Nat):Int)else((x.natAbs*y.natAbs:Nat):Int))=x*y:=by
  rw[<-hs,<-z,<-Int.natAbs_mul];rcases CU x 0 with d|d|d<;>rcases CU y 0 with f|f|f
  . have:=Int.mul_pos_of_neg_of_neg d f;simp[d,f];omega
  . subst f;simp
  . have:=Int.mul_neg_of_neg_of_pos d f;have i:¬y<0:=O
    simp[d,i];omega
  . subst d;simp
  . subst d;simp
  . subst d;simp
  . have:=Int.mul_neg_of_pos_of_neg d f;have i:¬x<0:=O
    simp[f,i];omega
  . subst f;simp
  . have:=Int.mul_pos d f;have i:¬x<0:=O
    have h2:¬y<0:=O
    simp[i,h2];omega
 rw[hs,z];obtain⟨W0,r⟩:=ex (((w.alloc (H #[F s,C a D m] 36)).alloc (H #[F t,C b lb n] 36)).alloc (H #[F false,C none 0 0] 36));obtain⟨q,b0,k,l⟩:=F9 r;have X:=Z λ(V:G) (h:Bl W0 V)=>QO a D m b lb n _ _ V O (UN.below (UN.below j q) h) (UN.below (UN.below B q) h);have W:=Z (λ(V:G) (u:E) (j:UN V u (x.natAbs*y.natAbs))=>show M I 112 #[F (!(s==t)),u] V λe g=>∃u,e=.returned u/\Jg g u (x*y)/\Bl V g by
  have i:=XW (!(s==t)) u _ V j;rw[K]at i;exact i)
 clear j B K hs z Qc Qd hl;go_enter func85,ntmps85
 go_wp2_with fail
 try rw[r]
 clear r;have c:Bl W0 W0.drew:=(BB _ W0).drew;obtain⟨P,Q⟩:=b0.cp;obtain⟨R,S⟩:=k.cp;have ah:¬(w.heap.size=w.heap.size+1+1):=O
 go_region_held3 (λg=>g.cell? ⟨w.heap.size,0,none⟩=some (F s)/\g.cell? ⟨w.heap.size,1,none⟩=some (C a D m)/\g.cell? ⟨w.heap.size+1,0,none⟩=some (F t)/\g.cell? ⟨w.heap.size+1,1,none⟩=some (C b lb n)) (refine⟨?_,?_,?_,?_⟩<;>(first|(go_keep;done)|((repeat rw[JC O]);simp[*];done)))
  (first
   |(go_at_call 118;refine(X.o _ c).mono ?_;rintro e w1 ⟨u1,rfl,N,ad⟩;obtain⟨na,nc,rfl⟩:=UN.form N;have c:=Bt c ad;obtain⟨P,Q⟩:=(b0.below c).cp;obtain⟨R,S⟩:=(k.below c).cp)
   |(go_at_call 112;refine(W.o _ _ N).mono ?_;rintro e w2 ⟨u2,rfl,A,ae⟩;obtain⟨sa,sl,sc,rfl⟩:=A.form;obtain⟨s2,v⟩:=ex (decide (x*y<0));rw[v]at A;rw[v];clear v;have c:=Bt c ae;obtain⟨P,Q⟩:=(b0.below c).cp;obtain⟨R,S⟩:=(k.below c).cp;obtain⟨r0,r1⟩:=(l.below c).cp;obtain⟨f0,f1⟩:=(l.below c).fp))
 all_goals go_wp2_with fail
 have Qe:=Bt q c;have Qa:=A.box (l.below c) rfl rfl (x0:=F s2) (x1:=C sa sl sc);exact BA (by simp[results,results85,go_sem,r0,r1]) rfl ⟨_,rfl,Qa,(Qe.setCell (p:=⟨_,0,none⟩) so _).setCell (p:=⟨_,1,none⟩) so _⟩
section
def DX(W:G)(b:Nat)(xs:Ja):Prop:=∃a:List E,W.heap[b]?=some (H (cellsOf .i64 xs++a).toArray 3 (0,0))
variable{xs:Ja}{b c k l n:Nat}
theorem DX.lt{W:G}(h:DX W b xs):b<W.heap.size:=by obtain⟨_,h⟩:=h;grind
theorem DX.cell{W:G}{b:Nat}{xs:Ja}(h:DX W b xs){j:Nat}(a:j<xs.length):W.cell? ⟨b,j,none⟩=some (.int .i64 (xs[j]?.getD 0:Nat)):=by
 obtain⟨c,h⟩:=h;grind[cellsOf,World.cell?]
def DX.frozen{W:G}{b:Nat}{xs:Ja}(h:DX W b xs)(j:Nat):W.frozen? ⟨b,j,none⟩=false:=by obtain⟨_,h⟩:=h;simp[World.frozen?,h]
def DX.of_block{W W':G}(h:DX W b xs)(e:W'.heap[b]?=W.heap[b]?):DX W' b xs:=by obtain⟨a,h⟩:=h;exact⟨a,e.trans h⟩
def DX.kept{W W':G}{row:Option Nat}(h:DX W b xs)(hg:W.grownBy W' row)(a:some b≠row):DX W' b xs:=h.of_block (hg.block b h.lt a)
def DX.below{W W':G}(h:DX W b xs)(a:Bl W W'):DX W' b xs:=h.of_block (a.block b h.lt)
def DX.alloc{W:G}{b:Nat}{xs:Ja}(h:DX W b xs)(o:Obj):DX (W.alloc o) b xs:=h.below (Ba W o)
theorem DX.set{W:G}{b:Nat}{xs:Ja}(h:DX W b xs)(j v:Nat):DX (W.setCell ⟨b,j,none⟩ (.int .i64 (v:Nat))) b (xs.set j v):=by
 obtain⟨c,h⟩:=h;obtain⟨g,f⟩:=Ab.1 h;have e:∃a,(cellsOf .i64 xs++c).set j (.int .i64 (v:Nat))=cellsOf .i64 (xs.set j v)++a:=by
  rcases Az j xs.length with d|d
  . exact⟨c,by grind[cellsOf,List.map_set]⟩
  . grind[YT,CJ]
 obtain⟨a,e⟩:=e;refine⟨a,?_⟩;show(W.heap.modify b _)[b]?=_;grind
def DX.made{W:G}(h:W.heap[b]?=some (H (cellsOf .i64 xs).toArray 3 (0,0))):DX W b xs:=⟨[],by rw[Ca];exact h⟩
def DX.row{W:G}(h:DX W b xs)(a len cap:Nat)(f:a+len<=xs.length)(g:len<=cap)(d:cap<=9223372036854775807)(i:len<=1099511627776):Row .i64 W (C (some ⟨b,a,none⟩) len cap) ((xs.drop a).take len):=by
 have e:((xs.drop a).take len).length=len:=by rw[Ae,A5];omega
 refine⟨_,cap,by rw[e],O,d,O,Au ⟨b,a,rfl,(by obtain⟨k,h⟩:=h;exact⟨_,_,h⟩),λj c=>?_⟩⟩;rw[e]at c;rw[h.cell O,A7 c,List.getElem?_drop]
theorem QP(n:Nat):madeCells #[.int .i64 0] n=(cellsOf .i64 (TT n 0)).toArray:=by
 grind[madeCells,cellsOf]
def Ln(n:Nat)(h:n<=2199023255552)(w:G):(Instr.makeSlice 45 (.int .i64 (n:Int)) (.int .i64 (n:Int))).run I w=.ok (C (some ⟨w.heap.size,0,none⟩) n n) (w.alloc (H (cellsOf .i64 (TT n 0)).toArray 3)):=by
 rw[<-QP];exact run_make_row' 45 3 (.int .i64 0) 8 underlying45 Tryz.infoInt rfl .i64 .i64 n O O w
theorem Ij(B:Nat):∀(D:Ja) (j d:Nat),j<D.length->val B (D.set j d)+B^j*D[j]?.getD 0=val B D+B^j*d
 |[],_,_,h=>by cases h
 |x::D,0,d,_=>by simp[val];omega
 |x::D,j+1,d,h=>by
  have a:=Ij B D j d (by simpa using h);grind[val]
def Lo(B n:Nat):val B (TT n 0)=0:=by
 induction n with
 |zero=>rfl
 |succ n a=>rw[Cs,val,a];simp
def DE.set{B:Nat}{D:Ja}(h:DE B D)(j:Nat){d:Nat}(b:d<B):DE B (D.set j d):=λx c=>by
 rcases List.mem_or_eq_of_mem_set c with a|a
 . exact h x a
 . rw[a];exact b
def EK(a bs:Ja)(i:Nat)(D:Ja):Prop:=
 D.length=a.length+bs.length+1/\DE 10000 D/\val 10000 D=val 10000 (a.take i)*val 10000 bs
def EE(a bs:Ja)(i k c:Nat)(D:Ja):Prop:=
 D.length=a.length+bs.length+1/\DE 10000 D/\c<10000/\
  val 10000 D+10000^(i+k)*c=val 10000 (a.take i)*val 10000 bs+10000^i*(a[i]?.getD 0*val 10000 (bs.take k))
theorem EK.start(a bs:Ja):EK a bs 0 (TT (a.length+bs.length+1) 0):=
 ⟨AZ,λx b=>by grind,by rw[Lo];simp[val]⟩
def EK.inner{a bs:Ja}{i:Nat}{D:Ja}(h:EK a bs i D):EE a bs i 0 0 D:=by
 obtain⟨b,c,d⟩:=h;refine⟨b,c,O,?_⟩;rw[d];simp[val]
theorem EE.total{a bs:Ja}{i:Nat}{D:Ja}(h:EE a bs i k c D)(d:bs.length<=k):val 10000 D+10000^(i+k)*c=val 10000 (a.take (i+1))*val 10000 bs:=by
 obtain⟨_,_,_,b⟩:=h;grind[Ac,Jl]
def EE.done{a bs:Ja}{i:Nat}{D:Ja}(h:EE a bs i k 0 D)(b:bs.length<=k):EK a bs (i+1) D:=by
 have:=h.total b;exact⟨h.1,h.2.1,O⟩
def EE.over{a bs:Ja}{i:Nat}{D:Ja}(h:EE a bs i k c D)(g:DE 10000 a)(j:DE 10000 bs)(n:i<a.length)(o:bs.length<k):c=0:=by
 have l:=h.total O;have d:=JS (g.take (i+1));have e:=JS j;rw[Ae,Ct O]at d;have f:val 10000 (a.take (i+1))*val 10000 bs<10000^(i+1)*10000^bs.length:=Nat.mul_lt_mul'' d e;rw[<-Cx]at f;have m:10000^(i+1+bs.length)<=10000^(i+k):=Ap O O;rcases AF c with b|b
 . exact b
 . have:=Ar (10000^(i+k)) b;omega
theorem EE.step{a bs:Ja}{i:Nat}{D:Ja}(h:EE a bs i k c D)(d:DE 10000 a)(e:DE 10000 bs)(m:i+k<D.length)(c1:Nat)(l:c1=c+D[i+k]?.getD 0+a[i]?.getD 0*bs[k]?.getD 0):
 EE a bs i (k+1) (c1/10000) (D.set (i+k) (c1%10000)):=by
 obtain⟨f,b,g,j⟩:=h;have x1:=d.getD O i;have n:=e.getD O k;have o:=b.getD O (i+k);have p:a[i]?.getD 0*bs[k]?.getD 0<=9999*9999:=C9 O O;refine⟨DO,b.set _ (AK _ O),O,?_⟩;grind[Ij,Jl,AO]
theorem EK.fin{a bs D:Ja}{m:Nat}(h:EK a bs a.length D)(d:a=Jb 10000 m)(e:bs=Jb 10000 n):Jp D=Jb 10000 (m*n):=by
 obtain⟨_,b,c⟩:=h;grind[JN,Ji]
def Jf.keptG{W W':G}{B:Nat}{t:TypeId}{x y:E}{g:Nat}(h:Jf W B t x y)(hg:W.grownBy W' (some g))(a:B≠g):Jf W' B t x y:=
 (hg.block B h.lt λe=>a (by cases e;rfl)).trans h
theorem QQ{x y:Nat}(a:x<10000)(b:y<10000):x*y<=99980001/\IntKind.i64.wrap ((x:Int)*(y:Int))=((x*y:Nat):Int):=by
 have h:x*y<=9999*9999:=C9 O O;grind[IntKind.wrap,IntKind.bits]
def QR(a b:TR)(j lb z A m n:Nat)(s t:Bool)(w:G)(ra:RN w (C a j z) m)(rb:RN w (C b lb A) n)(bm:j<=400000000000)(bn:lb<=400000000000):
 M I 109 #[L #[C a j z,F s],L #[C b lb A,F t]] w λe V=>∃c lc cc,e=.returned (L #[C c lc cc,F ((s != t)&&decide (0<lc))])/\RN V (C c lc cc) (m*n)/\Bl w V:=by
 obtain⟨W0,P⟩:=ex (((w.alloc (H #[C a j z,F s] 47)).alloc (H #[C b lb A,F t] 47)).alloc (H #[C none 0 0,F false] 47));have Qk:Bl w W0:=by rw[<-P];exact Xv w _ _ _
 have b0:Jf W0 w.heap.size 47 (C a j z) (F s):=by rw[<-P];exact((Jf.new w _ _ _).alloc _).alloc _
 have b1:Jf W0 (w.heap.size+1) 47 (C b lb A) (F t):=by
  have h:=(Jf.new (w.alloc (H #[C a j z,F s] 47)) 47 (C b lb A) (F t)).alloc (H #[C none 0 0,F false] 47);rw[A1,P]at h;exact h
 have bR:Jf W0 (w.heap.size+1+1) 47 (C none 0 0) (F false):=by
  have h:=Jf.new ((w.alloc (H #[C a j z,F s] 47)).alloc (H #[C b lb A,F t] 47)) 47 (C none 0 0) (F false);rw[A1,A1,P]at h;exact h
 have Ql:W0.heap.size=w.heap.size+3:=by rw[<-P];simp
 obtain⟨ad,bf,bt,bi,am⟩:=Jm ra;obtain⟨ae,bg,bu,bj,an⟩:=Jm rb;have HF:=Z λD (h:EK (Jb 10000 m) (Jb 10000 n) (Jb 10000 m).length D)=>h.fin (m:=m) (n:=n) rfl rfl;have xa:=Jh (B:=10000) O m;have xb:=Jh (B:=10000) O n;have X:=Ln (j+lb+1) O W0;rw[show((j+lb+1:Nat):Int)=(j:Int)+(lb:Int)+1 from by omega]at X;obtain⟨o,K⟩:=ex (W0.alloc (H (cellsOf .i64 (TT (j+lb+1) 0)).toArray 3));rw[K]at X;obtain⟨g,hg⟩:∃g,g=W0.heap.size:=⟨_,rfl⟩;rw[<-hg]at X Ql;have Qh:DX o g (TT (j+lb+1) 0):=by rw[<-K,hg];exact DX.made (BD W0 _)
 have R:Bl w o:=by rw[<-K];exact Qk.alloc Qk.size _
 have q0:Jf o w.heap.size 47 (C a j z) (F s):=by rw[<-K];exact b0.alloc _
 have q1:Jf o (w.heap.size+1) 47 (C b lb A) (F t):=by rw[<-K];exact b1.alloc _
 have qR:Jf o (w.heap.size+1+1) 47 (C none 0 0) (F false):=by rw[<-K];exact bR.alloc _
 have k0:=b0.c0;have k1:=b1.c0;have HS:=Z (EK.start (Jb 10000 m) (Jb 10000 n));generalize Jb 10000 m=us at *;generalize Jb 10000 n=U at *;obtain⟨H1,H2,Qe,S⟩:=Dl am an ad ae;rw[<-ad,<-ae]at HS;have bh:w.heap.size+2<g:=O
 clear Ql;clear am an ad ae ra rb K hg b0 b1 bR;go_enter func109,ntmps109
 go_wp2;clear P X k0 k1;go_loopw [6] (λiv wr=>∃(i:Nat) (D:Ja),iv=.int .i64 i/\i<=j/\Hid (EK us U i D)/\DX wr g D/\o.grownBy wr (some g))
  (λiv _=>j-(intOf iv).toNat)
 case atStart=>exact⟨0,_,rfl,AH _,HS.o,Qh,Yi _ _⟩
 case round=>
  clear HS Qh;obtain⟨i,D,rfl,hi,Q,l,f⟩:=hrel;have m0:=(q0.keptG f O).c0;have m1:=(q0.keptG f O).c1;have m2:=(q1.keptG f O).c0;have m3:=(q1.keptG f O).c1;by_cases aq:i<j
  . have HI:=Z Q.o.inner;clear Q;obtain⟨ab,ao,rfl,az,aj⟩:=H1.o i aq;go_wp2;go_loopw [7,8] (λcv kv wr=>∃(c k:Nat) (D:Ja),cv=.int .i64 c/\kv=.int .i64 k/\k<=lb+1/\c<10000/\Hid (EE us U i k c D)/\DX wr g D/\o.grownBy wr (some g)) (λ_ kv _=>lb+2-(intOf kv).toNat)
    case atStart=>exact⟨0,0,D,rfl,rfl,O,O,HI,l,f⟩
    case round=>
     clear HI l f m0 m1 m2 m3;obtain⟨c,k,D,rfl,rfl,hk,hc,r,l,f⟩:=hrel;have m0:=(q0.keptG f O).c0;have m2:=(q1.keptG f O).c0;have Qf:=r.o.1;rw[<-Qe.o,<-S.o]at Qf;by_cases bd:k<lb
     . obtain⟨bb,bo,rfl,bc,ak⟩:=H2.o k bd;have bz:wr.cell? ⟨ab,ao+i,none⟩=some (.int .i64 (us[i]?.getD 0:Nat)):=(BS (w:=o) (f.block ab (by have:=R.size;omega) λe=>by cases e;omega)).trans ((R.cell (p:=⟨ab,ao+i,none⟩) az).trans aj);have ce:wr.cell? ⟨bb,bo+k,none⟩=some (.int .i64 (U[k]?.getD 0:Nat)):=(BS (w:=o) (f.block bb (by have:=R.size;omega) λe=>by cases e;omega)).trans ((R.cell (p:=⟨bb,bo+k,none⟩) bc).trans ak);have Qm:wr.cell? ⟨g,i+k,none⟩=some (.int .i64 (D[i+k]?.getD 0:Nat)):=l.cell O;have Qn:=l.frozen (i+k);have y1:=xa.getD O i;have y2:=xb.getD O k;have y3:=r.o.2.1.getD O (i+k);have N:=Z (r.o.step xa xb O _ rfl);obtain⟨z1,z2⟩:=QQ y1 y2;generalize us[i]?.getD 0=x at *;generalize U[k]?.getD 0=y at *;generalize D[i+k]?.getD 0=d at *;generalize x*y=p at *;clear aj ak;go_upto_region 11 with fail
       go_quiet (fail)
       go_wp2;have e2:((c:Int)+(d:Int)+(p:Int))%10000=(((c+d+p)%10000:Nat):Int):=O
       rw[e2];exact⟨⟨(c+d+p)/10000,k+1,D.set (i+k) ((c+d+p)%10000),by go_num,sp,O,N.o.2.2.1,N,DX.set (W:=wr.drewN nq) l _ _,Je (B:=wr.drewN nq) ⟨f.os,f.tape,f.output,f.size,f.block⟩ (JB _ _ _ _)⟩,by simp[intOf];omega⟩
     . rcases AF c with ai|ai
       . subst ai;have HN:=Z (r.o.done (by rw[<-S.o];omega));clear r;go_wp2;exact⟨⟨i+1,D,sp,O,HN,l,f⟩,by simp[intOf];omega⟩
       . have bk:k<=lb:=by
          rcases Az lb k with h|h
          . have:=r.o.over xa xb (by rw[<-Qe.o];exact aq) (by rw[<-S.o];exact h);omega
          . exact h
         have Qm:wr.cell? ⟨g,i+k,none⟩=some (.int .i64 (D[i+k]?.getD 0:Nat)):=l.cell O;have Qn:=l.frozen (i+k);have y3:=r.o.2.1.getD O (i+k);have Qi:U[k]?.getD 0=0:=by rw[AJ (by rw[<-S.o];omega)];rfl
         have N:=Z (r.o.step xa xb O _ rfl);rw[Qi,A8,AX]at N;clear Qi;generalize D[i+k]?.getD 0=d at *;go_wp2;have e2:((c:Int)+(d:Int))%10000=(((c+d)%10000:Nat):Int):=O
         rw[e2];exact⟨⟨(c+d)/10000,k+1,D.set (i+k) ((c+d)%10000),by go_num,sp,O,N.o.2.2.1,N,DX.set l _ _,Je f (JB _ _ _ _)⟩,by simp[intOf];omega⟩
  . obtain rfl:i=j:=O
    have Qg:Row .i64 wr (C (some ⟨g,0,none⟩) (i+lb+1) (i+lb+1)) D:=by
     have Qf:=Q.o.1;rw[<-Qe.o,<-S.o]at Qf;have h1:=l.row 0 (i+lb+1) (i+lb+1) O (Aa _) O O;rwa[AB,Ac O]at h1
    have Qo:=Z (HF.o D (by rw[<-Qe.o];exact Q.o));have Qj:Bl w wr:=below_grown R f O;have rR:=qR.keptG f O;have p0:=q0.keptG f O;have p1:=q1.keptG f O;clear Q HF H1 H2;go_upto_region 14 with fail
    have q:Bl wr wr.drew:=(BB _ wr).drew;have cg:¬(w.heap.size=w.heap.size+1+1):=O
    go_region_held3 (λV=>V.cell? ⟨w.heap.size,1,none⟩=some (F s)/\V.cell? ⟨w.heap.size+1,1,none⟩=some (F t)) (refine⟨?_,?_⟩<;>(first|(go_keep;done)|((repeat rw[JC O]);simp[*];done)))
     (first
      |(go_at_call 140;refine(E5 _ D _ (Row.below Qg q)).mono ?_;rintro e w1 ⟨u,rfl,T,rfl⟩;rw[Qo.o]at T;obtain⟨a',c',rfl⟩:=RN.form T)
      |(go_at_call 141;refine(Ef _ _ _ _ _).mono ?_;rintro e w2 ⟨rfl,ah⟩;have T:=Row.below T ah;have q:=Bt q ah;have m1:=(p0.below q).c1;have m3:=(p1.below q).c1;obtain⟨r0,r1⟩:=(rR.below q).cp;obtain⟨f0,f1⟩:=(rR.below q).fp))
    all_goals go_wp2_with fail
    obtain⟨hr,ay⟩:=JP (C a' (Jb 10000 (m*n)).length c') (F (!(s==t)&&decide (0<(Jb 10000 (m*n)).length))) (Bt Qj q) O (rR.below q) rfl rfl T;exact BA (v:=L #[C a' (Jb 10000 (m*n)).length c',F (!(s==t)&&decide (0<(Jb 10000 (m*n)).length))]) (by simp[results,results109,go_sem,r0,r1]) rfl ⟨_,_,_,rfl,hr,ay⟩
def Lp(n o:E)(x y:Int)(w:G)(A:Jn w n x)(B:Jn w o y)(D:De x<=400000000000)(K:De y<=400000000000):
 M I 109 #[n,o] w λe j=>∃u,e=.returned u/\Jn j u (x*y)/\Bl w j:=by
 obtain⟨a,N,p,rfl,l⟩:=A;obtain⟨b,lb,q,rfl,m⟩:=B;have P:=(Jm l).1;have Q:=(Jm m).1;unfold De at D K;refine(QR a b N lb p q _ _ _ _ w l m O O).mono ?_;rintro e j ⟨c,i,r,rfl,k,z⟩;refine⟨_,rfl,⟨c,i,r,?_,?_⟩,z⟩
 . have hl:=(Jm k).1;have s:((decide (x<0) != decide (y<0))&&decide (0<i))=decide (x*y<0):=by
    rw[Ce];simp only[A4,Bd];have t:0<i↔x.natAbs*y.natAbs≠0:=by
     rw[hl,Cg,Ne,Jt O]
    rw[t];rcases CU x 0 with d|d|d<;>rcases CU y 0 with f|f|f
    . have:=Int.mul_pos_of_neg_of_neg d f;simp[d,f];omega
    . subst f;simp
    . have:=Int.mul_neg_of_neg_of_pos d f;have g:¬y<0:=O
      simp only[d,g,decide_true,decide_false,this,iff_true];exact⟨rfl,C3 O O⟩
    . subst d;simp
    . subst d;simp
    . subst d;simp
    . have:=Int.mul_neg_of_pos_of_neg d f;have g:¬x<0:=O
      simp only[f,g,decide_true,decide_false,this,iff_true];exact⟨rfl,C3 O O⟩
    . subst f;simp
    . have:=Int.mul_pos d f;have g:¬x<0:=O
      have v:¬y<0:=O
      simp[g,v];omega
   rw[s]
 . rw[Int.natAbs_mul];exact k
def GX{n:Int}(a:-9223372036854775808<=n)(b:n<=9223372036854775807):De n<=400000000000:=by
 have c:(10000:Nat)^5=100000000000000000000:=DI
 have d:=Jw (B:=10000) O (n:=n.natAbs) (k:=5) O;unfold De;omega
def FH{W:G}{a:TR}(h:RN W (C a l c) n):Jn W (L #[C a l c,F false]) (n:Int):=by
 refine⟨a,l,c,?_,by rw[A6];exact h⟩
 have:decide ((n:Int)<0)=false:=BE O
 rw[this]
def Lq{W:G}{a:TR}{q:Bool}{z:Int}(h:Jn W (L #[C a l c,F q]) z)(d:z=(n:Int)):RN W (C a l c) n/\q=false:=by
 obtain⟨g,i,c',e,b⟩:=h;simp only[B3,C6,C1,Value.slice.injEq,Value.bool.injEq,and_true]at e;obtain⟨⟨rfl,rfl,rfl⟩,f⟩:=e;rw[d,A6]at b;refine⟨b,?_⟩;rw[f,d];exact BE O
def QS(a:TR)(o g:Nat)(b:TR)(lb x m n:Nat)(w:G)(ra:RN w (C a o g) m)(S:RN w (C b lb x) n)(ae:m<n*10000)(ai:lb<=400000000000):
 M I 183 #[C a o g,C b lb x] w λe T=>e=.returned (.int .i64 ((m/n:Nat):Int))/\Bl w T:=by
 have Qi:De (n:Int)<=400000000000:=by unfold De;rw[A6,<-(Jm S).1];exact ai
 obtain⟨Qk,Qj,Ql,Qm⟩:=Dl Qi ra S ae;clear ra S ae Qi;go_enter func183,ntmps183
 go_wp2_with fail
 go_loopw [5,6] (λR P wr=>∃lo d:Nat,R=.int .i64 (lo:Nat)/\P=.int .i64 (d:Nat)/\lo<d/\d<=10000/\Hid (n*lo<=m/\m<n*d)/\Bl w wr)
  (λR P _=>(intOf P-intOf R).toNat)
 case atStart=>exact⟨0,10000,rfl,rfl,O,O,Z ⟨O,Qm.o⟩,BB _ w⟩
 case round=>
  obtain⟨lo,d,rfl,rfl,y,h2,p,i⟩:=hrel;obtain⟨f,aj⟩:∃f:Nat,(d:Int)-(lo:Int)=(f:Int):=⟨d-lo,O⟩;have w1:IntKind.i64.wrap (f:Int)=(f:Int):=IntWalk.i64_in _ O;by_cases ak:1<f
  . obtain⟨sm,an⟩:∃sm:Nat,(lo:Int)+(d:Int)=(sm:Int):=⟨lo+d,O⟩;have w2:IntKind.i64.wrap (sm:Int)=(sm:Int):=IntWalk.i64_in _ O;obtain⟨c,am⟩:∃c:Nat,(sm:Int)/2=(c:Int):=⟨sm/2,O⟩;have w3:IntKind.i64.wrap (c:Int)=(c:Int):=IntWalk.i64_in _ O;have h3:lo<c/\c<d:=O
    have Qg:=Z (FA (c:Nat) O O wr);have Qf:=Z λ(V:G) (u:E) (h:Bl wr V) (N:Jn V u (c:Nat))=>Lp (L #[C b lb x,F false]) u (n:Nat) (c:Nat) V (FH (RN.below (RN.below Ql.o i) h)) N Qk.o (GX O O);obtain⟨cm,B⟩:=ex (Ym (n*c) m:Int);have Qe:=Z (show ∀(V:G) (u:E),Bl wr V->RN V u (n*c)->M I 143 #[u,C a o g] V λe T=>e=.returned (.int .i64 cm)/\Bl V T from λV u h N=>by
     have y:=Hj 10000 O u (C a o g) (Jb 10000 (n*c)) (Jb 10000 m) V N (RN.below (RN.below Qj.o i) h) (Jh O _) (Jh O _) (JT O _) (JT O _);rw[Ji O,Ji O,B]at y;exact y)
    have X:=Z B;clear B;go_upto_region 6 with(first
     |(go_at_call 93;refine Qg.o.mono ?_;rintro e w5 ⟨u5,rfl,k,z⟩;obtain⟨a5,l5,c5,rfl⟩:=k.form;obtain⟨s5,D⟩:=ex (decide (((c:Nat):Int)<0));rw[D]at k;rw[D];clear D)
     |(go_at_call 109;refine(Qf.o _ _ z k).mono ?_;rintro e U ⟨u6,rfl,l,ad⟩;obtain⟨t,Q,v,rfl⟩:=l.form;obtain⟨s6,K⟩:=ex (decide (((n:Nat):Int)*((c:Nat):Int)<0));rw[K]at l;rw[K];clear K))
    obtain⟨ah,rfl⟩:=Lq (n:=n*c) l (by rw[C0]);have bx:=Jf.new U 47 (C t Q v) (F false);obtain⟨s,j⟩:=ex (U.alloc (H #[C t Q v,F false] 47));have r:Bl wr s:=by rw[<-j];exact((Bt z ad).alloc (Bt z ad).size _)
    have Qh:RN s (C t Q v) (n*c):=by rw[<-j];exact RN.below ah (Ba U _)
    rw[j]at bx ⊢;obtain⟨k0,k1⟩:=bx.cp;clear j Qg Qf k l ah;have W:Bl w s:=Bt i r;by_cases hle:cm<=0
    . have q:n*c<=m:=by
       have h:=X.o;unfold Ym at h;split at h
       . omega
       . split at h<;>omega
      go_wp2_with(go_at_call 143;refine(Qe.o _ _ r Qh).mono ?_;rintro e w8 ⟨rfl,A⟩)
      exact⟨⟨c,d,rfl,rfl,O,h2,Z ⟨q,p.o.2⟩,Bt W A⟩,by simp[intOf];omega⟩
    . have q:m<n*c:=by
       have h:=X.o;unfold Ym at h;split at h
       . omega
       . split at h
         . assumption
         . omega
      go_wp2_with(go_at_call 143;refine(Qe.o _ _ r Qh).mono ?_;rintro e w8 ⟨rfl,A⟩)
      exact⟨⟨lo,c,rfl,rfl,O,O,Z ⟨p.o.1,q⟩,Bt W A⟩,by simp[intOf];omega⟩
  . have HE:=Z (show m/n=lo by
     obtain⟨e1,e2⟩:=p.o;have e3:d=lo+1:=O
     rw[e3,CM,Nat.mul_one]at e2;apply Nat.le_antisymm
     . apply Cr;rw[Aq O,Nat.succ_mul,AC lo];exact e2
     . rw[CE O,AC];exact e1)
    go_wp2_with fail
    go_ret;exact⟨by rw[HE.o];rfl,i⟩
end
namespace M3
section
variable {P:Program} {ops:Array Oper} {ds:List Dat} {ws:Ja} {J:List Bool->List Value->World->Prop} {f:Nat->Value} {V:World}
def yb:E->Option Bool
 |F b=>some b
 |_=>none
def QT{b:Bool}{P Q a Q':Prop}(h:if b=true then P else Q)(hp:P->a)(c:Q->Q'):if b=true then a else Q':=by
 cases b
 . exact c h
 . exact hp h
def Yd{o:Oper}{mk:(Nat->E)->Act}{dp:Ja}{x:E}(k:Nat)(b:Bool)(h:Av ds dp V f)(c:Region.wanted o (yielded ops (mk f).tmps)=(yb (f k)==some b):=by kernel_rfl)(e:ds.getD k .any=.eq x:=by rfl)(a:k∈dp:=by decide):Region.wanted o (yielded ops (mk f).tmps)=(yb x==some b):=by
 rw[c,h.e k e a]
end
end M3

