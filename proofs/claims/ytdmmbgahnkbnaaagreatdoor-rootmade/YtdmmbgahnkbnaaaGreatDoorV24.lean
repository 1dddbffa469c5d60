import Derived.Test.YtdmmbgahnkbnaaaGreatDoorV20
import Derived.Test.YtdmmbgahnkbnaaaGreatDoorV15
import Derived.Test.YtdmmbgahnkbnaaaGreatDoorV16
import Derived.Test.YtdmmbgahnkbnaaaGreatDoorV06
import Derived.Test.YtdmmbgahnkbnaaaGreatDoorV23
import Derived.Lib.SliceRun
import Derived.Deep.OwnRows
import Derived.Lib.BitFns
set_option linter.all false
open Go renaming Value->E,World->G,undef->I,Calls->M
open Go.Value renaming slice->C,bool->H,agg->N,pointer->R
open Go.Proofs.Tryz renaming prog->F
open Go.Obj renaming cells->L
set_option maxRecDepth 99999
set_option maxHeartbeats 0
namespace Go.Proofs.YtdmmbgahnkbnaaaGreatDoor
open Go.RowKit Go.Shelf
attribute [local go_sem] Oper.semAt_some
def BW:type_of% @of_decide_eq_true:=@of_decide_eq_true
def iX(a:Option Addr)(cap:Nat)(w:G):
 M F 65 #[N #[H false,C a 0 cap]] w λe w'=>e=.returned (.string ⟨#[48]⟩)/\Bl w w':=by
 have b0:=JC.new w 39 (H false) (C a 0 cap);have b:=b0.c1;go_enter Tryz.func65,Tryz.ntmps65
 go_wp2;go_ret;exact⟨rfl,Ba w _⟩
def iY(s:Bool)(a:Option Addr)(l cap:Nat)(T:ByteArray)(w:G)(hl:0<l)(hT:T.size<=100000000000000)
(b:∀V,Bl w V->M F 144 #[C a l cap] V λe w'=>e=.returned (.string T)/\Bl V w'):
 M F 65 #[N #[H s,C a l cap]] w λe w'=>e=.returned (.string (if s then(⟨#[45]⟩:ByteArray)++T else T))/\Bl w w':=by
 have b0:=JC.new w 39 (H s) (C a l cap);have c:Bl w (w.alloc (L #[H s,C a l cap] 39)):=Ba w _;obtain⟨g,i⟩:=b0.cp;have d:=Z b;clear b;cases s;all_goals
  go_enter Tryz.func65,Tryz.ntmps65
  go_wp2_with(go_at_call 144;refine(d.o _ c).mono ?_;rintro e w1 ⟨rfl,f⟩)
  go_ret;exact⟨DI,Bt c f⟩
theorem U0(n:Nat):(YY n).length<=20*(Jh Y n).length+1:=by
 unfold YY;split
 . simp
 . rw[TD];have a:n<Y^(Jh Y n).length:=by
    grind[Y4,JA,Jg,Jz]
   have b:Y^(Jh Y n).length<=10^(20*(Jh Y n).length):=by
    rw[Fu];exact CG uo _
   have:=Yr (B:=10) O (An a b);omega
theorem iZ(v:E)(z:Int)(w:G)(h:Jj w v z)(i:Lib.TabIs F w "internal/strconv.uint64pow10" .u64 Lib.pow10Tab):
 M F 65 #[v] w λe w'=>e=.returned (.string ⟨(El z).toArray⟩)/\Bl w w':=by
 obtain⟨a,l,cap,rfl,b⟩:=h;have hl:=b.len;by_cases c:z.natAbs=0
 . have j:z=0:=O
   subst j;have g:l=0:=by rw[hl];simp[JW]
   subst g;exact iX a cap w
 . have f:0<l:=by rw[hl];exact Pf.2 c
   refine(iY _ a l cap ⟨(YY z.natAbs).toArray⟩ w f (by
    have k:=U0 z.natAbs;have m:=(JK b).2.2.2.1;show(YY z.natAbs).toArray.size<=_;grind) λV d=>g8 a l cap z.natAbs V (Row.below b d) c (I6 i d)).mono ?_
   rintro e w' ⟨rfl,n⟩;grind[El,dk]
def Jj.form{W:G}{v:E}{z:Int}(h:Jj W v z):∃a l cap,v=N #[H (decide (z<0)),C a l cap]:=by
 obtain⟨a,l,cap,e,_⟩:=h;exact⟨a,l,cap,e⟩
def Jj.alloc{W:G}{v:E}{z:Int}(h:Jj W v z)(o:Obj):Jj (W.alloc o) v z:=h.below (Ba W o)
def Jj.box{W:G}{R:Nat}{t:TypeId}{u0 u1 x0 x1 v:E}{z:Int}(h:Jj W v z)(q:JC W R t u0 u1)(c:JP u0=true)(d:JP u1=true):Jj ((W.setCell ⟨R,0,none⟩ x0).setCell ⟨R,1,none⟩ x1) v z:=by
 obtain⟨a,l,cap,e,b⟩:=h;exact⟨a,l,cap,e,Row.set (Row.set b q.c0 c _) (u0:=u1) (q.set0 x0).c1 d _⟩
def JQ(W:G)(B:Nat)(t:TypeId)(x y z u:E):Prop:=W.heap[B]?=some (L #[x,y,z,u] t (0,0))
section
variable {W W':World} {B:Nat} {t:TypeId} {x y z u:Value}
def JQ.lt(h:JQ W B t x y z u):B<W.heap.size:=(Ab.1 h).1
def JQ.c0(h:JQ W B t x y z u):W.cell? ⟨B,0,none⟩=some x:=by simp[World.cell?,show W.heap[B]?=_ from h]
def JQ.c1(h:JQ W B t x y z u):W.cell? ⟨B,1,none⟩=some y:=by simp[World.cell?,show W.heap[B]?=_ from h]
def JQ.cp(h:JQ W B t x y z u):type_of% (And.intro h.c0 h.c1):=⟨h.c0,h.c1⟩
def JQ.c2(h:JQ W B t x y z u):W.cell? ⟨B,2,none⟩=some z:=by simp[World.cell?,show W.heap[B]?=_ from h]
def JQ.c3(h:JQ W B t x y z u):W.cell? ⟨B,3,none⟩=some u:=by simp[World.cell?,show W.heap[B]?=_ from h]
def JQ.cq(h:JQ W B t x y z u):type_of% (And.intro h.c0 (And.intro h.c1 (And.intro h.c2 h.c3))):=⟨h.c0,h.c1,h.c2,h.c3⟩
def JQ.f0(h:JQ W B t x y z u):W.frozen? ⟨B,0,none⟩=false:=by simp[World.frozen?,show W.heap[B]?=_ from h]
def JQ.f1(h:JQ W B t x y z u):W.frozen? ⟨B,1,none⟩=false:=by simp[World.frozen?,show W.heap[B]?=_ from h]
def JQ.fp(h:JQ W B t x y z u):type_of% (And.intro h.f0 h.f1):=⟨h.f0,h.f1⟩
def JQ.f2(h:JQ W B t x y z u):W.frozen? ⟨B,2,none⟩=false:=by simp[World.frozen?,show W.heap[B]?=_ from h]
def JQ.f3(h:JQ W B t x y z u):W.frozen? ⟨B,3,none⟩=false:=by simp[World.frozen?,show W.heap[B]?=_ from h]
def JQ.fq(h:JQ W B t x y z u):type_of% (And.intro h.f0 (And.intro h.f1 (And.intro h.f2 h.f3))):=⟨h.f0,h.f1,h.f2,h.f3⟩
def JQ.new(W:G)(t:TypeId)(x y z u:E):JQ (W.alloc (L #[x,y,z,u] t)) W.heap.size t x y z u:=BD W _
def JQ.below(h:JQ W B t x y z u)(a:Bl W W'):JQ W' B t x y z u:=(a.block B h.lt).trans h
def JQ.alloc(h:JQ W B t x y z u)(o:Obj):JQ (W.alloc o) B t x y z u:=h.below (Ba W o)
theorem JQ.set0(h:JQ W B t x y z u)(v:E):JQ (W.setCell ⟨B,0,none⟩ v) B t v y z u:=by
 obtain⟨a,hk⟩:=Ab.1 h;show(W.heap.modify B _)[B]?=_;grind
theorem JQ.set1(h:JQ W B t x y z u)(v:E):JQ (W.setCell ⟨B,1,none⟩ v) B t x v z u:=by
 obtain⟨a,hk⟩:=Ab.1 h;show(W.heap.modify B _)[B]?=_;grind
theorem JQ.set2(h:JQ W B t x y z u)(v:E):JQ (W.setCell ⟨B,2,none⟩ v) B t x y v u:=by
 obtain⟨a,hk⟩:=Ab.1 h;show(W.heap.modify B _)[B]?=_;grind
theorem JQ.set3(h:JQ W B t x y z u)(v:E):JQ (W.setCell ⟨B,3,none⟩ v) B t x y z v:=by
 obtain⟨a,hk⟩:=Ab.1 h;show(W.heap.modify B _)[B]?=_;grind
def JQ.far(h:JQ W B t x y z u){p:Addr}(hp:B≠p.block)(v:E):JQ (W.setCell p v) B t x y z u:=(BC W p v B hp).trans h
end
def put4(W:G)(B:Nat)(x y z u:E):G:=(((W.setCell ⟨B,0,none⟩ x).setCell ⟨B,1,none⟩ y).setCell ⟨B,2,none⟩ z).setCell ⟨B,3,none⟩ u
def JQ.put{W:G}{B:Nat}{t:TypeId}{x y z u:E}(h:JQ W B t x y z u)(b c d a:E):JQ (put4 W B b c d a) B t b c d a:=(((h.set0 b).set1 c).set2 d).set3 a
def JQ.putFar{W:G}{B C:Nat}{t:TypeId}{x y z u:E}(h:JQ W B t x y z u)(hn:B≠C)(b c d a:E):JQ (put4 W C b c d a) B t x y z u:=(((h.far hn b).far hn c).far hn d).far hn a
def Jv{n B:Nat}{w W:G}(h:Below n w W)(a:n<=B)(x y z u:E):Below n w (put4 W B x y z u):=(((h.setCell (p:=⟨B,0,none⟩) a _).setCell (p:=⟨B,1,none⟩) a _).setCell (p:=⟨B,2,none⟩) a _).setCell (p:=⟨B,3,none⟩) a _
def Row.put4{k:IntKind}{W:G}{v:E}{ds:List Nat}(h:Row k W v ds){B:Nat}{t:TypeId}{x y z u:E}(q:JQ W B t x y z u)(d:JP x=true)(e:JP y=true)(f:JP z=true)(g:JP u=true)(a b c i:E):Row k (put4 W B a b c i) v ds:=
 Row.set (Row.set (Row.set (Row.set h q.c0 d _) (q.set0 a).c1 e _) ((q.set0 a).set1 b).c2 f _) (((q.set0 a).set1 b).set2 c).c3 g _
def Jj.put4{W:G}{v:E}{i:Int}(h:Jj W v i){B:Nat}{t:TypeId}{x y z u:E}(q:JQ W B t x y z u)(c:JP x=true)(d:JP y=true)(f:JP z=true)(g:JP u=true)(k m n j:E):Jj (put4 W B k m n j) v i:=by
 obtain⟨a,l,cap,e,b⟩:=h;exact⟨a,l,cap,e,Row.put4 b q c d f g _ _ _ _⟩
def Jf(W:G)(v:E)(q:Rat):Prop:=∃s a l c t b k d,v=N #[H s,C a l c,H t,C b k d]/\Jj W (N #[H s,C a l c]) q.num/\Jj W (N #[H t,C b k d]) (D7 q)
def Jf.below{W W':G}{v:E}{q:Rat}(h:Jf W v q)(f:Bl W W'):Jf W' v q:=by
 obtain⟨s,a,l,c,t,b,k,d,e,g,i⟩:=h;exact⟨s,a,l,c,t,b,k,d,e,g.below f,i.below f⟩
def Jf.put4{W:G}{v:E}{p:Rat}(h:Jf W v p){B:Nat}{t:TypeId}{x y z u:E}(q:JQ W B t x y z u)(f:JP x=true)(g:JP y=true)(i:JP z=true)(j:JP u=true)(r w A o:E):Jf (put4 W B r w A o) v p:=by
 obtain⟨s,a,l,c,t,b,k,d,e,m,n⟩:=h;exact⟨s,a,l,c,t,b,k,d,e,m.put4 q f g i j _ _ _ _,n.put4 q f g i j _ _ _ _⟩
def Gc(W:G)(v:E)(q:Rat):Prop:=∃a l c s b k d t,v=N #[C a l c,H s,C b k d,H t]/\Ka W (N #[C a l c,H s]) q.num/\Ka W (N #[C b k d,H t]) (q.den:Int)
def Gc.below{W W':G}{v:E}{q:Rat}(h:Gc W v q)(f:Bl W W'):Gc W' v q:=by
 obtain⟨s,a,l,c,t,b,k,d,e,g,i⟩:=h;exact⟨s,a,l,c,t,b,k,d,e,g.below f,i.below f⟩
section
def Xq(W:G)(v:E)(x y:Int):Prop:=∃s a l c t b k d,v=N #[H s,C a l c,H t,C b k d]/\Jj W (N #[H s,C a l c]) x/\Jj W (N #[H t,C b k d]) y
variable{cs:Array E}{r:Bool}{qs:List Rat}{b j n:Nat}{m:Nat × Nat}{V':G}
def Jf.pair{W:G}{v:E}{q:Rat}(h:Jf W v q):Xq W v q.num (D7 q):=h
theorem Xq.form{W:G}{v:E}{x y:Int}(h:Xq W v x y):∃s a l c t b k d,v=N #[H s,C a l c,H t,C b k d]:=by
 obtain⟨s,a,l,c,t,b,k,d,e,_⟩:=h;grind
def Xq.below{W W':G}{v:E}{x y:Int}(h:Xq W v x y)(f:Bl W W'):Xq W' v x y:=by
 obtain⟨s,a,l,c,t,b,k,d,e,g,i⟩:=h;exact⟨s,a,l,c,t,b,k,d,e,g.below f,i.below f⟩
def Xq.keep{V:G}{v:E}{x y:Int}(h:Xq V v x y)(hk:∀k v ds,Row k V v ds->Row k V' v ds):Xq V' v x y:=by
 obtain⟨s,a,l,c,t,b,k,d,e,⟨f,l1,c1,i,m⟩,⟨g,l2,c2,j,n⟩⟩:=h;exact⟨s,a,l,c,t,b,k,d,e,⟨f,l1,c1,i,hk _ _ _ m⟩,⟨g,l2,c2,j,hk _ _ _ n⟩⟩
def Gc.keep{V:G}{v:E}{q:Rat}(h:Gc V v q)(hk:∀k v ds,Row k V v ds->Row k V' v ds):Gc V' v q:=by
 obtain⟨s,a,l,c,t,b,k,d,e,⟨f,l1,c1,i,m⟩,⟨g,l2,c2,j,n⟩⟩:=h;exact⟨s,a,l,c,t,b,k,d,e,⟨f,l1,c1,i,hk _ _ _ m⟩,⟨g,l2,c2,j,hk _ _ _ n⟩⟩
theorem ik{α:Type}(l:List α)(x y:α):(l++[x]).set l.length y=l++[y]:=by
 grind
theorem Jj.form2{W:G}{v:E}{z:Int}(h:Jj W v z):∃s a l c,v=N #[H s,C a l c]:=by
 obtain⟨a,l,c,e,_⟩:=h;grind
theorem Jf.form{W:G}{v:E}{q:Rat}(h:Jf W v q):∃s a l c t b k d,v=N #[H s,C a l c,H t,C b k d]:=by
 obtain⟨s,a,l,c,t,b,k,d,e,_⟩:=h;grind
theorem Gc.form{W:G}{v:E}{q:Rat}(h:Gc W v q):∃a l c s b k d t,v=N #[C a l c,H s,C b k d,H t]:=by
 obtain⟨s,a,l,c,t,b,k,d,e,_⟩:=h;grind
theorem EY(W:G):Jj W (N #[H false,C Option.none 0 0]) 0:=
 ⟨Option.none,0,0,DI,by grind[UN,JW,Row.nil]⟩
def Xx(W:G):Jf W (N #[H false,C Option.none 0 0,H false,C Option.none 0 0]) 0:=⟨_,_,_,_,_,_,_,_,rfl,EY W,EY W⟩
def ED(r:Bool)(W:G)(v:E)(q:Rat):Prop:=match r with|true=>Jf W v q|false=>Gc W v q
def Dn(r:Bool):TypeId:=match r with|true=>41|false=>52
def ED.below{r:Bool}{W W':G}{v:E}{q:Rat}(h:ED r W v q)(a:Bl W W'):ED r W' v q:=by
 cases r with
 |true=>exact Jf.below h a
 |false=>exact Gc.below h a
def ED.keep{r:Bool}{W W':G}{v:E}{q:Rat}(h:ED r W v q)(hk:∀k v ds,Row k W v ds->Row k W' v ds):ED r W' v q:=by
 cases r with
 |true=>exact Xq.keep h hk
 |false=>exact Gc.keep h hk
def ED.form{W:G}{v:E}{q:Rat}(h:ED r W v q):∃x y z u,v=N #[x,y,z,u]/\JP x=true/\JP y=true/\JP z=true/\JP u=true:=by
 cases r with
 |true=>
  obtain⟨s,a,l,c,t,b,k,d,e,_⟩:=(show Jf W v q from h);exact⟨_,_,_,_,e,rfl,rfl,rfl,rfl⟩
 |false=>
  obtain⟨s,a,l,c,t,b,k,d,e,_⟩:=(show Gc W v q from h);exact⟨_,_,_,_,e,rfl,rfl,rfl,rfl⟩
theorem ED.no{W:G}{x y z u:E}{q:Rat}(h:ED r W (N #[x,y,z,u]) q):JP x=true/\JP y=true/\JP z=true/\JP u=true:=by
 obtain⟨g,i,j,f,e,a,b,c,d⟩:=h.form;grind
theorem ED.one{W:G}{x y z u:E}{q:Rat}(h:ED r W (N #[x,y,z,u]) q):∀v∈[x,y,z,u],v.oneCell'=true:=by
 cases r with
 |true=>
  obtain⟨s,a,l,c,t,b,k,d,e,_⟩:=(show Jf W _ q from h);cases e;intro v hv;simp at hv;rcases hv with rfl|rfl|rfl|rfl<;>rfl
 |false=>
  obtain⟨s,a,l,c,t,b,k,d,e,_⟩:=(show Gc W _ q from h);cases e;intro v hv;simp at hv;rcases hv with rfl|rfl|rfl|rfl<;>rfl
def Dm(r:Bool)(W:G)(b:Nat)(qs:List Rat):Prop:=
 ∃cs:Array E,W.heap[b]?=some (L cs (Dn r) (0,0))/\∀j,j<qs.length->∃x y z u,cs[j*4]?=some x/\cs[j*4+1]?=some y/\cs[j*4+2]?=some z/\cs[j*4+3]?=some u/\ED r W (N #[x,y,z,u]) (cf qs j)
theorem Dm.lt{W:G}(h:Dm r W b qs):b<W.heap.size:=by obtain⟨cs,h,_⟩:=h;grind
def Dm.below{r:Bool}{W W':G}{b:Nat}{qs:List Rat}(h:Dm r W b qs)(a:Bl W W'):Dm r W' b qs:=by
 have hl:=h.lt;obtain⟨cs,g,i⟩:=h;refine⟨cs,(a.block b hl).trans g,λj l=>?_⟩;obtain⟨x,y,z,u,c,d,e,f,k⟩:=i j l;exact⟨x,y,z,u,c,d,e,f,k.below a⟩
def Dm.keep{r:Bool}{W W':G}{b:Nat}{qs:List Rat}(h:Dm r W b qs)(l:W'.heap[b]?=W.heap[b]?)(hk:∀k v ds,Row k W v ds->Row k W' v ds):Dm r W' b qs:=by
 obtain⟨cs,f,g⟩:=h;refine⟨cs,l.trans f,λj m=>?_⟩;obtain⟨x,y,z,u,a,c,d,e,i⟩:=g j m;exact⟨x,y,z,u,a,c,d,e,i.keep hk⟩
theorem Dm.take{r:Bool}{W:G}{b:Nat}{qs:List Rat}(h:Dm r W b qs)(n:Nat):Dm r W b (qs.take n):=by
 obtain⟨cs,a,c⟩:=h;refine⟨cs,a,λj d=>?_⟩;rw[Ap]at d;obtain⟨x,y,z,u,e,f,g,i,k⟩:=c j O;grind[O7]
theorem Dm.at{W:G}(h:Dm r W b qs)(d:j<qs.length):
 ∃x y z u,W.cell? ⟨b,j*4,none⟩=some x/\W.cell? ⟨b,j*4+1,none⟩=some y/\W.cell? ⟨b,j*4+2,none⟩=some z/\W.cell? ⟨b,j*4+3,none⟩=some u/\ED r W (N #[x,y,z,u]) (cf qs j):=by
 obtain⟨cs,a,c⟩:=h;grind[World.cell?]
def Dm.frozen{r:Bool}{W:G}{b:Nat}{qs:List Rat}(h:Dm r W b qs)(o:Nat):W.frozen? ⟨b,o,none⟩=false:=by obtain⟨cs,a,_⟩:=h;simp[World.frozen?,a]
def putAt(W:G)(b o:Nat)(x y z u:E):G:=(((W.setCell ⟨b,o,none⟩ x).setCell ⟨b,o+1,none⟩ y).setCell ⟨b,o+2,none⟩ z).setCell ⟨b,o+3,none⟩ u
theorem JY{W:G}{o:Nat}{t:TypeId}(h:W.heap[b]?=some (L cs t m))(v:E):(W.setCell ⟨b,o,none⟩ v).heap[b]?=some (L (cs.setIfInBounds o v) t m):=by
 obtain⟨a,hk⟩:=Ab.1 h;show(W.heap.modify b _)[b]?=_;grind
def U3{W:G}{o:Nat}{t:TypeId}(h:W.heap[b]?=some (L cs t m))(x y z u:E):(putAt W b o x y z u).heap[b]?=some (L ((((cs.setIfInBounds o x).setIfInBounds (o+1) y).setIfInBounds (o+2) z).setIfInBounds (o+3) u) t m):=
 JY (JY (JY (JY h x) y) z) u
def L8{W:G}{o B:Nat}(a:B≠b)(x y z u:E):(putAt W b o x y z u).heap[B]?=W.heap[B]?:=
 (BC _ _ _ B a).trans ((BC _ _ _ B a).trans ((BC _ _ _ B a).trans (BC _ _ _ B a)))
def U4{o:Nat}{w W:G}(h:Below n w W)(a:n<=b)(x y z u:E):Below n w (putAt W b o x y z u):=
 (((h.setCell (p:=⟨b,o,none⟩) a _).setCell (p:=⟨b,o+1,none⟩) a _).setCell (p:=⟨b,o+2,none⟩) a _).setCell (p:=⟨b,o+3,none⟩) a _
theorem cell_of{W:G}{o:Nat}{t:TypeId}{x:E}(h:W.heap[b]?=some (L cs t m))(e:cs[o]?=some x):W.cell? ⟨b,o,none⟩=some x:=by simp[World.cell?,h,e]
def im{W:G}{o:Nat}{t:TypeId}{x0 y0 z0 u0:E}(h:W.heap[b]?=some (L cs t m))(a:cs[o]?=some x0)(c:cs[o+1]?=some y0)(d:cs[o+2]?=some z0)(e:cs[o+3]?=some u0)
(g:JP x0=true)(i:JP y0=true)(j:JP z0=true)(l:JP u0=true)(x y z u:E):∀k v ds,Row k W v ds->Row k (putAt W b o x y z u) v ds:=λk v ds f=>by
 have c1:((cs.setIfInBounds o x))[o+1]?=some y0:=by rw[Ag O];exact c
 have c2:(((cs.setIfInBounds o x).setIfInBounds (o+1) y))[o+2]?=some z0:=by rw[Ag O,Ag O];exact d
 have c3:((((cs.setIfInBounds o x).setIfInBounds (o+1) y).setIfInBounds (o+2) z))[o+3]?=some u0:=by rw[Ag O,Ag O,Ag O];exact e
 exact Row.set (Row.set (Row.set (Row.set f (cell_of h a) g _) (cell_of (JY h x) c1) i _) (cell_of (JY (JY h x) y) c2) j _) (cell_of (JY (JY (JY h x) y) z) c3) l _
def Dm.putKeep{W:G}(h:Dm r W b qs)(l:j<qs.length)(x y z u:E):∀k v ds,Row k W v ds->Row k (putAt W b (j*4) x y z u) v ds:=by
 obtain⟨cs,f,g⟩:=h;obtain⟨x0,y0,z0,u0,a,c,d,e,i⟩:=g j l;obtain⟨m,n,o,p⟩:=i.no;exact im f a c d e m n o p x y z u
theorem Dm.set{r:Bool}{W:G}{b:Nat}{qs:List Rat}(h:Dm r W b qs){j:Nat}(a:j<qs.length){x y z u:E}{q:Rat}(hv:ED r W (N #[x,y,z,u]) q):Dm r (putAt W b (j*4) x y z u) b (qs.set j q):=by
 have hk:=h.putKeep a x y z u;obtain⟨cs,o,c⟩:=h;obtain⟨x0,y0,z0,u0,k,l,m,n,t⟩:=c j a;refine⟨_,U3 o x y z u,λi hi=>?_⟩;rw[Fm]at hi;have e:=(Ab.1 k).1;have v:=(Ab.1 l).1;have w:=(Ab.1 m).1;have A:=(Ab.1 n).1;by_cases d:i=j
 . subst d;refine⟨x,y,z,u,?_,?_,?_,?_,?_⟩
   . rw[Ag O,Ag O,Ag O,Array.getElem?_setIfInBounds_self_of_lt e]
   . grind[Ag,Array.getElem?_setIfInBounds_self_of_lt]
   . grind
   . grind
   . rw[Gk _ _ _ _ a,BF rfl];exact hv.keep hk
 . obtain⟨x1,y1,s,u1,d0,d1,f,g,p⟩:=c i hi;refine⟨x1,y1,s,u1,?_,?_,?_,?_,?_⟩
   . rw[Ag O,Ag O,Ag O,Ag O];exact d0
   . rw[Ag O,Ag O,Ag O,Ag O];exact d1
   . rw[Ag O,Ag O,Ag O,Ag O];exact f
   . rw[Ag O,Ag O,Ag O,Ag O];exact g
   . rw[Gk _ _ _ _ a,BE d];exact p.keep hk
def RowK(r:Bool)(W:G)(v:E)(qs:List Rat):Prop:=
 ∃a cap,v=C a qs.length cap/\qs.length<=cap/\cap<=9223372036854775807/\qs.length<=1099511627776/\(qs=[]\/∃b,a=some ⟨b,0,none⟩/\Dm r W b qs)
def RowK.below{r:Bool}{W W':G}{v:E}{qs:List Rat}(h:RowK r W v qs)(k:Bl W W'):RowK r W' v qs:=by
 obtain⟨a,cap,e,f,g,i,c⟩:=h;refine⟨a,cap,e,f,g,i,?_⟩;rcases c with c|⟨b,d,j⟩
 . exact Or.inl c
 . exact Or.inr ⟨b,d,j.below k⟩
theorem RowK.nil(r:Bool)(W:G):RowK r W (C none 0 0) []:=⟨none,0,rfl,Aa _,O,DI,Or.inl rfl⟩
def Dm.row{W:G}(h:Dm r W b qs){cap:Nat}(hn:n<=qs.length)(c:n<=cap)(a:cap<=9223372036854775807)(hl:n<=1099511627776):RowK r W (C (some ⟨b,0,none⟩) n cap) (qs.take n):=by
 have e:(qs.take n).length=n:=by rw[Ap];omega
 exact⟨_,cap,by rw[e],O,a,O,Or.inr ⟨b,rfl,h.take n⟩⟩
theorem RowK.open{W:G}{v:E}(h:RowK r W v qs):∃a cap,v=C a qs.length cap/\qs.length<=cap/\cap<=9223372036854775807/\qs.length<=1099511627776/\
 Hid (∀j,j<qs.length->∃b,a=some ⟨b,0,none⟩/\Dm r W b qs):=by
 obtain⟨a,cap,e,c,d,f,g⟩:=h;refine⟨a,cap,e,c,d,f,λj i=>?_⟩;grind
def RowK.take{r:Bool}{W:G}{a:Option Addr}{l cap:Nat}{qs:List Rat}(h:RowK r W (C a l cap) qs){n:Nat}(hn:n<=l):RowK r W (C a n cap) (qs.take n):=by
 obtain⟨a',i,e,j,f,k,c⟩:=h;cases e;have e:(qs.take n).length=n:=by rw[Ap];omega
 refine⟨a,cap,by rw[e],O,f,O,?_⟩;rcases c with c|⟨b,d,g⟩
 . left;rw[c];simp
 . exact Or.inr ⟨b,d,g.take n⟩
def Je(W:G)(v:E)(ps:List Rat):Prop:=∃u,v=N #[u]/\RowK true W u ps
def Je.below{W W':G}{v:E}{ps:List Rat}(h:Je W v ps)(b:Bl W W'):Je W' v ps:=by
 obtain⟨u,e,a⟩:=h;exact⟨u,e,a.below b⟩
def RowK.form{W:G}{v:E}(h:RowK r W v qs):∃a l c,v=C a l c:=by
 obtain⟨a,cap,e,_⟩:=h;exact⟨a,_,cap,e⟩
def Je.form{W:G}{v:E}{ps:List Rat}(h:Je W v ps):∃a l c,v=N #[C a l c]:=by
 obtain⟨u,e,b⟩:=h;obtain⟨a,l,c,rfl⟩:=b.form;exact⟨a,l,c,e⟩
def Je.row{W:G}{a:Option Addr}{l c:Nat}{ps:List Rat}(h:Je W (N #[C a l c]) ps):RowK true W (C a l c) ps:=by
 obtain⟨u,e,b⟩:=h;cases e;exact b
structure Sqs(qs:List Rat):Prop where
 all:∀i,Sq (cf qs i)
def Sqs.at(h:Sqs qs)(i:Nat):Sq (cf qs i):=h.all i
theorem Sqs.of(h:∀i,Sq (cf qs i)):Sqs qs:=⟨h⟩
def Sqs.trim(h:Sqs qs):Sqs (Jc qs):=Sqs.of λi=>by rw[YD];exact h.at i
end
namespace M3
structure Dat where
 ty:TypeId
 has:World->Value->Prop
 noPoly:Bool
 below:∀ {V V':World} {v:Value},has V v->Bl V V'->has V' v
 keep:∀ {V V':World} {v:Value},has V v->(∀k v ds,Row k V v ds->Row k V' v ds)->(noPoly=true\/∀v qs,RowK true V v qs->RowK true V' v qs)->has V' v
def Dat.int(z:Int):Dat where
 ty:=39
 has V v:=Jj V v z
 noPoly:=true
 below h hb:=Jj.below h hb
 keep h hk _:=by
  obtain⟨a,l,c,e,b⟩:=h;exact⟨a,l,c,e,hk _ _ _ b⟩
def Dat.rat(q:Rat):Dat where
 ty:=41
 has V v:=Jf V v q
 noPoly:=true
 below h hb:=Jf.below h hb
 keep h hk _:=Xq.keep h hk
def Dat.pair(x y:Int):Dat where
 ty:=41
 has V v:=Xq V v x y
 noPoly:=true
 below h hb:=Xq.below h hb
 keep h hk _:=Xq.keep h hk
def Dat.rats(qs:List Rat):Dat where
 ty:=41
 has V v:=∃cs,v=N cs/\∀j,j<qs.length->∃x y z u,cs[j*4]?=some x/\cs[j*4+1]?=some y/\cs[j*4+2]?=some z/\cs[j*4+3]?=some u/\ED true V (N #[x,y,z,u]) (cf qs j)
 noPoly:=true
 below h hb:=by
  obtain⟨cs,e,h⟩:=h;refine⟨cs,e,λj g=>?_⟩;obtain⟨x,y,z,u,a,b,c,d,f⟩:=h j g;exact⟨x,y,z,u,a,b,c,d,f.below hb⟩
 keep h hk _:=by
  obtain⟨cs,e,h⟩:=h;refine⟨cs,e,λj g=>?_⟩;obtain⟨x,y,z,u,a,b,c,d,f⟩:=h j g;exact⟨x,y,z,u,a,b,c,d,f.keep hk⟩
def Dat.poly(ps:List Rat):Dat where
 ty:=25
 has V v:=Je V v ps
 noPoly:=false
 below h hb:=Je.below h hb
 keep h _ hp:=by
  rcases hp with hp|hp
  . cases hp
  . obtain⟨u,e,a⟩:=h;exact⟨u,e,hp _ _ a⟩
def Dat.cell(t:TypeId)(x:E):Dat where
 ty:=t
 has _ v:=v=N #[x]/\JP x=true
 noPoly:=true
 below h _:=h
 keep h _ _:=h
def Has(V:G)(v:E)(d:Dat):Prop:=d.has V v
def Has.below{V V':G}{v:E}{d:Dat}(h:Has V v d)(a:Bl V V'):Has V' v d:=d.below h a
def Has.alloc{V:G}{v:E}{d:Dat}(h:Has V v d)(o:Obj):Has (V.alloc o) v d:=h.below (Ba V o)
def Has.keep{V V':G}{v:E}{d:Dat}(h:Has V v d)(hk:∀k v ds,Row k V v ds->Row k V' v ds)(hp:d.noPoly=true\/∀v qs,RowK true V v qs->RowK true V' v qs):Has V' v d:=d.keep h hk hp
def Bx(V:G)(B:Nat)(t:TypeId)(cs:Array E):Prop:=V.heap[B]?=some (L cs t (0,0))
variable{cs:Array E}{d:Dat}{qs:List Rat}{x0:E}{V':G}
def Bx.lt{V:G}{B:Nat}{t:TypeId}(h:Bx V B t cs):B<V.heap.size:=(Ab.1 h).1
def Bx.below{V:G}{B:Nat}{t:TypeId}(h:Bx V B t cs)(a:Bl V V'):Bx V' B t cs:=(a.block B h.lt).trans h
def Bx.far{V:G}{B:Nat}{t:TypeId}(h:Bx V B t cs){p:Addr}(hp:B≠p.block)(u:E):Bx (V.setCell p u) B t cs:=(BC V p u B hp).trans h
def Bx.f{V:G}{B:Nat}{t:TypeId}(h:Bx V B t cs)(i:Nat):V.frozen? ⟨B,i,Option.none⟩=false:=by simp[World.frozen?,show V.heap[B]?=_ from h]
def Bx.all{V:G}{B:Nat}{t:TypeId}(h:Bx V B t cs):∀i,V.cell? ⟨B,i,Option.none⟩=cs[i]?:=λi=>by simp[World.cell?,show V.heap[B]?=_ from h]
def noPoly:List (Option (Nat × Dat))->Bool
 |[]=>true
 |some (_,d)::t=>d.noPoly&&noPoly t
 |Option.none::t=>noPoly t
theorem U5{bs:List (Option (Nat × Dat))}(h:noPoly bs=true){i:Nat}{x:Nat × Dat}(e:bs[i]?=some (some x)):x.2.noPoly=true:=by
 induction bs generalizing i with
 |nil=>simp at e
 |cons b t a=>
  cases b with
  |none=>
   cases i with
   |zero=>simp at e
   |succ i=>exact a h (by simpa using e)
  |some y=>
   grind[noPoly]
def DJ(w V:G)(bs:List (Option (Nat × Dat))):Prop:=
 (∀(i:Nat) B d,bs[i]?=some (some (B,d))->(∃cs,Bx V B d.ty cs/\Has V (N cs) d)/\w.heap.size<=B)/\
 (∀(i j:Nat) B d a,bs[i]?=some (some (B,d))->bs[j]?=some (some (B,a))->i=j)/\Bl w V
theorem DJ.nil(w:G):DJ w w []:=⟨λi B z h=>by simp at h,λi j B z a h=>by simp at h,BB _ w⟩
def DJ.int{w V:G}{bs:List (Option (Nat × Dat))}(M:DJ w V bs){i B:Nat}{z:Int}(h:bs[i]?=some (some (B,.int z))):∃s a l c,JC V B 39 (H s) (C a l c)/\Jj V (N #[H s,C a l c]) z:=by
 obtain⟨⟨cs,b,d⟩,_⟩:=M.1 i B _ h;obtain⟨a,l,c,e,f⟩:=d;cases e;exact⟨_,a,l,c,b,a,l,c,rfl,f⟩
def DJ.rat{w V:G}{bs:List (Option (Nat × Dat))}(M:DJ w V bs){i B:Nat}{q:Rat}(h:bs[i]?=some (some (B,.rat q))):
 ∃s a l c t b k d,JQ V B 41 (H s) (C a l c) (H t) (C b k d)/\Jf V (N #[H s,C a l c,H t,C b k d]) q/\Jj V (N #[H s,C a l c]) q.num/\Jj V (N #[H t,C b k d]) (D7 q):=by
 obtain⟨⟨cs,m,f⟩,_⟩:=M.1 i B _ h;have n:=f;obtain⟨s,a,l,c,t,b,k,d,e,g,j⟩:=f;cases e;exact⟨s,a,l,c,t,b,k,d,m,n,g,j⟩
def DJ.pair{w V:G}{bs:List (Option (Nat × Dat))}(M:DJ w V bs){i B:Nat}{x y:Int}(h:bs[i]?=some (some (B,.pair x y))):
 ∃s a l c t b k d,JQ V B 41 (H s) (C a l c) (H t) (C b k d)/\Xq V (N #[H s,C a l c,H t,C b k d]) x y/\Jj V (N #[H s,C a l c]) x/\Jj V (N #[H t,C b k d]) y:=by
 obtain⟨⟨cs,m,f⟩,_⟩:=M.1 i B _ h;have n:=f;obtain⟨s,a,l,c,t,b,k,d,e,g,j⟩:=f;cases e;exact⟨s,a,l,c,t,b,k,d,m,n,g,j⟩
def DJ.below{w V V':G}{bs:List (Option (Nat × Dat))}(M:DJ w V bs)(a:Bl V V'):DJ w V' bs:=
 ⟨λi B z h=>by
  obtain⟨⟨cs,b,c⟩,d⟩:=M.1 i B z h;exact⟨⟨cs,b.below a,c.below a⟩,d⟩,M.2.1,Bt M.2.2 a⟩
def DJ.drew{w V:G}{bs:List (Option (Nat × Dat))}(M:DJ w V bs):DJ w V.drew bs:=M.below ((BB _ V).drew)
def DJ.sub{w V:G}{bs cs:List (Option (Nat × Dat))}(M:DJ w V bs)(f:Nat->Nat)(e:∀(i j:Nat),f i=f j->i=j)(h:∀(i:Nat) x,cs[i]?=some (some x)->bs[f i]?=some (some x)):DJ w V cs:=
 ⟨λi B d a=>M.1 (f i) B d (h i _ a),λi j B d b a c=>e i j (M.2.1 (f i) (f j) B d b (h i _ a) (h j _ c)),M.2.2⟩
theorem DJ.take{w V:G}{bs:List (Option (Nat × Dat))}(M:DJ w V bs)(n:Nat):DJ w V (bs.take n):=by
 refine M.sub id (λ_ _ h=>h) λi x h=>?_;grind
theorem DJ.none{w V:G}{bs:List (Option (Nat × Dat))}(M:DJ w V bs):DJ w V (bs++[Option.none]):=by
 refine M.sub id (λ_ _ h=>h) λi x h=>?_;grind
theorem DJ.fill{w V:G}{bs:List (Option (Nat × Dat))}(M:DJ w V bs){i:Nat}(h:bs[i]?=some Option.none)(d:Dat)(o:Has V (N cs) d):
 DJ w (V.alloc (L cs d.ty)) (bs.set i (some (V.heap.size,d))):=by
 have f:Bl V (V.alloc (L cs d.ty)):=Ba V _;have l:i<bs.length:=(AA.1 h).1;have e:=M.below f;have q:∀(j:Nat) B d,bs[j]?=some (some (B,d))->B<V.heap.size:=λj B d h=>by
  obtain⟨⟨_,b,_⟩,_⟩:=M.1 j B d h;exact b.lt
 refine⟨λj B m a=>?_,λj k B d1 n b g=>?_,e.2.2⟩
 . by_cases c:i=j
   . subst c;rw[List.getElem?_set_self l]at a;simp at a;obtain⟨rfl,rfl⟩:=a;exact⟨⟨cs,BD V _,o.below f⟩,M.2.2.size⟩
   . rw[Fd c]at a;exact e.1 j B m a
 . by_cases c:i=j<;>by_cases p:i=k
   . omega
   . grind
   . grind
   . rw[Fd c]at b;rw[Fd p]at g;exact M.2.1 j k B d1 n b g
def DJ.push{w V:G}{bs:List (Option (Nat × Dat))}(M:DJ w V bs)(d:Dat)(a:Has V (N cs) d):DJ w (V.alloc (L cs d.ty)) (bs++[some (V.heap.size,d)]):=by
 have h:=M.none.fill (i:=bs.length) DI d a;rwa[ik]at h
def EO{w:G}{t:TypeId}{v:E}(h:JP v=true:=by rfl):Has w (N #[v]) (.cell t v):=⟨rfl,h⟩
def I7{w:G}(a:TypeId)(d1:Dat){c1:Array E}(c:Has w (N c1) d1)(b:d1.ty=a:=by rfl):∃W,Hid (w.alloc (L c1 a)=W)/\Hid (DJ w W [some (w.heap.size,d1)]):=by
 subst b;exact⟨_,Z rfl,Z ((DJ.nil w).push d1 c)⟩
theorem LL{w:G}(b:TypeId)(d1:Dat){c1:Array E}(f:Has w (N c1) d1)(c:TypeId)(a:Dat){c2:Array E}(g:Has w (N c2) a)(d:d1.ty=b:=by rfl)(e:a.ty=c:=by rfl):∃W,Hid ((w.alloc (L c1 b)).alloc (L c2 c)=W)/\Hid (DJ w W [some (w.heap.size,d1),some (w.heap.size+1,a)]):=by
 subst d e;have M:=((DJ.nil w).push d1 f).push a (g.alloc _);grind[Ax,Z]
theorem IF{w:G}(c:TypeId)(d1:Dat){c1:Array E}(j:Has w (N c1) d1)(d:TypeId)(a:Dat){c2:Array E}(k:Has w (N c2) a)(e:TypeId)(b:Dat){c3:Array E}(l:Has w (N c3) b)(f:d1.ty=c:=by rfl)(g:a.ty=d:=by rfl)(i:b.ty=e:=by rfl):∃W,Hid (((w.alloc (L c1 c)).alloc (L c2 d)).alloc (L c3 e)=W)/\Hid (DJ w W [some (w.heap.size,d1),some (w.heap.size+1,a),some (w.heap.size+1+1,b)]):=by
 subst f g i;have M:=(((DJ.nil w).push d1 j).push a (k.alloc _)).push b ((l.alloc _).alloc _);grind[Ax,Z]
theorem U6{w:G}(d:TypeId)(d1:Dat){c1:Array E}(m:Has w (N c1) d1)(e:TypeId)(a:Dat){c2:Array E}(n:Has w (N c2) a)(f:TypeId)(b:Dat){c3:Array E}(o:Has w (N c3) b)(g:TypeId)(c:Dat){c4:Array E}(p:Has w (N c4) c)(i:d1.ty=d:=by rfl)(j:a.ty=e:=by rfl)(k:b.ty=f:=by rfl)(l:c.ty=g:=by rfl):∃W,Hid ((((w.alloc (L c1 d)).alloc (L c2 e)).alloc (L c3 f)).alloc (L c4 g)=W)/\Hid (DJ w W [some (w.heap.size,d1),some (w.heap.size+1,a),some (w.heap.size+1+1,b),some (w.heap.size+1+1+1,c)]):=by
 subst i j k l;have M:=((((DJ.nil w).push d1 m).push a (n.alloc _)).push b ((o.alloc _).alloc _)).push c (((p.alloc _).alloc _).alloc _);grind[Ax,Z]
theorem DJ.repl{w V:G}{bs:List (Option (Nat × Dat))}(M:DJ w V bs){i B:Nat}(h:bs[i]?=some (some (B,d)))(b:Dat)(y:Bx V' B b.ty cs)(z:Has V (N cs) b)
(hk:∀k v ds,Row k V v ds->Row k V' v ds)(A:∀B' t cs,B'≠B->Bx V B' t cs->Bx V' B' t cs)(x:Bl w V')
(hp:noPoly bs=true\/∀v qs,RowK true V v qs->RowK true V' v qs)(D:b.noPoly=true\/∀v qs,RowK true V v qs->RowK true V' v qs):DJ w V' (bs.set i (some (B,b))):=by
 have n:i<bs.length:=(AA.1 h).1;obtain⟨_,K⟩:=M.1 i B d h;refine⟨λj B' d1 a=>?_,λj k B' d1 q s u=>?_,x⟩
 . by_cases l:i=j
   . subst l;rw[List.getElem?_set_self n]at a;simp at a;obtain⟨rfl,rfl⟩:=a;exact⟨⟨cs,y,z.keep hk D⟩,K⟩
   . rw[Fd l]at a;obtain⟨⟨p,f,g⟩,P⟩:=M.1 j B' d1 a;have o:B'≠B:=λe=>l (by rw[e]at a;exact M.2.1 i j B d d1 h a);exact⟨⟨p,A _ _ _ o f,g.keep hk (hp.imp (λh=>U5 h a) id)⟩,P⟩
 . have m:∀(j:Nat) d1,(bs.set i (some (B,b)))[j]?=some (some (B',d1))->∃c,bs[j]?=some (some (B',c)):=λj d1 a=>by
    grind
   obtain⟨c,f⟩:=m j d1 s;obtain⟨r,g⟩:=m k q u;exact M.2.1 j k B' c r f g
theorem L9{V:G}{B:Nat}{t:TypeId}(h:Bx V B t cs){o:Nat}(e:cs[o]?=some x0)(m:JP x0=true)(r:Bool)(p:t≠Dn r)(x:E)(v:E)(qs:List Rat)(d:RowK r V v qs):RowK r (V.setCell ⟨B,o,Option.none⟩ x) v qs:=by
 obtain⟨a,cap,ev,j,k,l,c⟩:=d;refine⟨a,cap,ev,j,k,l,?_⟩;rcases c with c|⟨b,g,f⟩
 . exact Or.inl c
 . refine Or.inr ⟨b,g,f.keep (BC V ⟨B,o,Option.none⟩ x b ?_) λ_ _ _ d=>Row.set d (cell_of h e) m _⟩;rintro rfl;obtain⟨n,i,_⟩:=f;rw[show V.heap[b]?=_ from h]at i;grind
def jA{V:G}{B:Nat}{t:TypeId}{y0:E}(q:JC V B t x0 y0){r:Bool}(a:t≠Dn r)(b:JP x0=true)(c:JP y0=true)(x y:E):∀v qs,RowK r V v qs->RowK r ((V.setCell ⟨B,0,Option.none⟩ x).setCell ⟨B,1,Option.none⟩ y) v qs:=
 λv qs h=>L9 (cs:=#[x,y0]) (q.set0 x) (o:=1) rfl c r a y v qs (L9 (cs:=#[x0,y0]) q (o:=0) rfl b r a x v qs h)
def U7{V:G}{B:Nat}{t:TypeId}{x y:E}(q:JC V B t x y)(b:JP x=true)(c:JP y=true)(a d:E):∀k v ds,Row k V v ds->Row k ((V.setCell ⟨B,0,Option.none⟩ a).setCell ⟨B,1,Option.none⟩ d) v ds:=
 λ_ _ _ h=>Row.set (Row.set h q.c0 b _) (q.set0 a).c1 c _
def DJ.putInt{w V:G}{bs:List (Option (Nat × Dat))}(M:DJ w V bs){i B:Nat}{z0:Int}(h:bs[i]?=some (some (B,.int z0))){x y:E}{z:Int}(hi:Jj V (N #[x,y]) z):
 DJ w ((V.setCell ⟨B,0,Option.none⟩ x).setCell ⟨B,1,Option.none⟩ y) (bs.set i (some (B,.int z))):=by
 obtain⟨s,a,l,c,b,_⟩:=M.int h;obtain⟨_,e⟩:=M.1 i B _ h;exact M.repl h (.int z) (cs:=#[x,y]) ((b.set0 x).set1 y) hi (U7 b rfl rfl x y) (λB' t cs d g=>(g.far (p:=⟨B,0,Option.none⟩) d _).far (p:=⟨B,1,Option.none⟩) d _) ((M.2.2.setCell (p:=⟨B,0,Option.none⟩) e _).setCell (p:=⟨B,1,Option.none⟩) e _) (Or.inr (jA b DK rfl rfl x y)) (Or.inl rfl)
def far4{V:G}{B:Nat}(x y z u:E):∀B' t cs,B'≠B->Bx V B' t cs->Bx (put4 V B x y z u) B' t cs:=λ_ _ _ a g=>(((g.far (p:=⟨B,0,Option.none⟩) a _).far (p:=⟨B,1,Option.none⟩) a _).far (p:=⟨B,2,Option.none⟩) a _).far (p:=⟨B,3,Option.none⟩) a _
def DJ.putRat{w V:G}{bs:List (Option (Nat × Dat))}(M:DJ w V bs){i B:Nat}{q0:Rat}(h:bs[i]?=some (some (B,.rat q0))){x y z u:E}{q:Rat}(hi:Jf V (N #[x,y,z,u]) q)(np:noPoly bs=true:=by rfl):
 DJ w (put4 V B x y z u) (bs.set i (some (B,.rat q))):=by
 obtain⟨_,_,_,_,_,_,_,_,a,_⟩:=M.rat h;obtain⟨_,b⟩:=M.1 i B _ h;exact M.repl h (.rat q) (cs:=#[x,y,z,u]) (a.put x y z u) hi (λ_ _ _ g=>Row.put4 g a rfl rfl rfl rfl _ _ _ _) (far4 x y z u) (Jv M.2.2 b _ _ _ _) (Or.inl np) (Or.inl rfl)
def Has.set2{V:G}{v:E}(h:Has V v d){B:Nat}{t:TypeId}{x y:E}(q:JC V B t x y)(e:JP x=true)(f:JP y=true)(a b:E)(c:d.noPoly=true:=by rfl):Has ((V.setCell ⟨B,0,Option.none⟩ a).setCell ⟨B,1,Option.none⟩ b) v d:=h.keep (U7 q e f a b) (Or.inl c)
def Has.put4{V:G}{v:E}{d:Dat}(h:Has V v d){B:Nat}{t:TypeId}{x y z u:E}(q:JQ V B t x y z u)(b:JP x=true)(c:JP y=true)(e:JP z=true)(f:JP u=true)(j k l i:E)(a:d.noPoly=true:=by rfl):Has (Go.Proofs.YtdmmbgahnkbnaaaGreatDoor.put4 V B j k l i) v d:=h.keep (λ_ _ _ g=>Row.put4 g q b c e f _ _ _ _) (Or.inl a)
def DJ.ne{w V:G}{bs:List (Option (Nat × Dat))}(M:DJ w V bs)(i j:Nat){B B':Nat}{a:Dat}(h:bs[i]?=some (some (B,d)))(b:bs[j]?=some (some (B',a)))(c:i≠j):B≠B':=λe=>by
 subst e;exact c (M.2.1 i j B d a h b)
def DJ.ge{w V:G}{bs:List (Option (Nat × Dat))}(M:DJ w V bs)(i:Nat){B:Nat}(h:bs[i]?=some (some (B,d))):w.heap.size<=B:=(M.1 i B d h).2
def MA(V:G)(t:E)(d1 a:Dat):Prop:=∃u1 u2,t=.tuple #[u1,u2,H true]/\Has V u1 d1/\Has V u2 a
def MA.below{V V':G}{t:E}{d1 a:Dat}(h:MA V t d1 a)(b:Bl V V'):MA V' t d1 a:=by
 obtain⟨u1,u2,e,c,d⟩:=h;exact⟨u1,u2,e,c.below b,d.below b⟩
def DJ.rats{w V:G}{bs:List (Option (Nat × Dat))}(M:DJ w V bs){i B:Nat}{qs:List Rat}(h:bs[i]?=some (some (B,.rats qs))):Dm true V B qs:=by
 obtain⟨⟨cs,b,a⟩,_⟩:=M.1 i B _ h;obtain⟨c,e,a⟩:=a;cases e;exact⟨cs,b,a⟩
theorem DJ.putRats{w V:G}{bs:List (Option (Nat × Dat))}(M:DJ w V bs){i B:Nat}(h:bs[i]?=some (some (B,.rats qs))){j:Nat}(n:j<qs.length){x y z u:E}{q:Rat}(hi:Jf V (N #[x,y,z,u]) q)(np:noPoly bs=true:=by rfl):
 DJ w (putAt V B (j*4) x y z u) (bs.set i (some (B,.rats (qs.set j q)))):=by
 have m:=M.rats h;obtain⟨_,o⟩:=M.1 i B _ h;obtain⟨cs,c1,c2⟩:=Dm.set (r:=true) m n hi;have hk:=m.putKeep n x y z u;have p:i<bs.length:=(AA.1 h).1;refine⟨λa B' d1 b=>?_,λa k B' d1 v D K=>?_,U4 M.2.2 o _ _ _ _⟩
 . by_cases g:i=a
   . subst g;rw[List.getElem?_set_self p]at b;simp at b;obtain⟨rfl,rfl⟩:=b;exact⟨⟨cs,c1,cs,rfl,c2⟩,o⟩
   . rw[Fd g]at b;obtain⟨⟨t,d,f⟩,P⟩:=M.1 a B' d1 b;have s:B'≠B:=λe=>g (by rw[e]at b;exact M.2.1 i a B _ d1 h b);exact⟨⟨t,(L8 s x y z u).trans d,f.keep hk (Or.inl (U5 np b))⟩,P⟩
 . have l:∀(a:Nat) d1,(bs.set i (some (B,.rats (qs.set j q))))[a]?=some (some (B',d1))->∃c,bs[a]?=some (some (B',c)):=λa d1 b=>by
    grind
   obtain⟨c,d⟩:=l a d1 D;obtain⟨A,f⟩:=l k v K;exact M.2.1 a k B' c A d f
def DJ.cell{w V:G}{bs:List (Option (Nat × Dat))}(M:DJ w V bs){i B:Nat}{t:TypeId}{v:E}(h:bs[i]?=some (some (B,.cell t v))):Boxed V B t v/\JP v=true:=by
 obtain⟨⟨cs,b,a⟩,_⟩:=M.1 i B _ h;obtain⟨e,a⟩:=a;cases e;exact⟨b,a⟩
def DJ.poly{w V:G}{bs:List (Option (Nat × Dat))}(M:DJ w V bs){i B:Nat}{ps:List Rat}(h:bs[i]?=some (some (B,.poly ps))):∃a l c,Boxed V B 25 (C a l c)/\RowK true V (C a l c) ps:=by
 obtain⟨⟨cs,d,b⟩,_⟩:=M.1 i B _ h;obtain⟨a,l,c,e⟩:=Je.form b;cases e;exact⟨a,l,c,d,Je.row b⟩
def P9{V:G}{B:Nat}{t:TypeId}{x:E}(q:Boxed V B t x)(a:JP x=true)(b:E):∀k v ds,Row k V v ds->Row k (V.setCell ⟨B,0,Option.none⟩ b) v ds:=
 λ_ _ _ h=>Row.set h q.cell a _
def DJ.putPoly{w V:G}{bs:List (Option (Nat × Dat))}(M:DJ w V bs){i B:Nat}{p0:List Rat}(h:bs[i]?=some (some (B,.poly p0))){x:E}{ps:List Rat}(hi:Je V (N #[x]) ps):
 DJ w (V.setCell ⟨B,0,Option.none⟩ x) (bs.set i (some (B,.poly ps))):=by
 obtain⟨a,l,c,b,_⟩:=M.poly h;obtain⟨_,f⟩:=M.1 i B _ h;have d:∀v qs,RowK true V v qs->RowK true (V.setCell ⟨B,0,Option.none⟩ x) v qs:=L9 (cs:=#[C a l c]) b (o:=0) rfl rfl true DK x;exact M.repl h (.poly ps) (cs:=#[x]) (b.set x) hi (P9 b rfl x) (λB' t cs e g=>g.far (p:=⟨B,0,Option.none⟩) e _) (M.2.2.setCell (p:=⟨B,0,Option.none⟩) f _) (Or.inr d) (Or.inr d)
def DJ.adopt{w V:G}{bs:List (Option (Nat × Dat))}(M:DJ w V bs)(l:Bl V V'){g:Nat}(hg:V.heap.size<=g)(m:Dm true V' g qs):DJ w V' (bs++[some (g,.rats qs)]):=by
 have e:=M.below l;have f:∀(j:Nat) B d,bs[j]?=some (some (B,d))->B<V.heap.size:=λj B d h=>by
  obtain⟨⟨_,a,_⟩,_⟩:=M.1 j B d h;exact a.lt
 have c:∀(j:Nat) x,(bs++[some (g,Dat.rats qs)])[j]?=some (some x)->bs[j]?=some (some x)\/(j=bs.length/\x=(g,.rats qs)):=λj x h=>by
  by_cases n:j<bs.length
  . rw[CE n]at h;exact Or.inl h
  . rw[A7 O]at h;obtain⟨k,hk⟩:=ex (j-bs.length);rw[hk]at h;cases k with
    |zero=>simp at h;exact Or.inr ⟨O,h.symm⟩
    |succ k=>simp at h
 refine⟨λj B d h=>?_,λj k B d1 i a b=>?_,e.2.2⟩
 . rcases c j _ h with h|⟨_,h⟩
   . exact e.1 j B d h
   . cases h;obtain⟨cs,c1,c2⟩:=m;exact⟨⟨cs,c1,cs,rfl,c2⟩,Ac M.2.2.size hg⟩
 . rcases c j _ a with a|⟨o,a⟩<;>rcases c k _ b with b|⟨p,b⟩
   . exact M.2.1 j k B d1 i a b
   . cases b;have:=f j _ _ a;omega
   . cases a;have:=f k _ _ b;omega
   . omega
def Dat.eq(x:E):Dat where
 ty:=0
 has _ v:=v=x
 noPoly:=true
 below h _:=h
 keep h _ _:=h
def Dat.any:Dat where
 ty:=0
 has _ _:=True
 noPoly:=true
 below h _:=h
 keep h _ _:=h
def blk:E->Nat
 |R (some a)=>a.block
 |_=>0
def Dat.ptr:Dat where
 ty:=0
 has _ v:=v=R (some ⟨blk v,0,none⟩)
 noPoly:=true
 below h _:=h
 keep h _ _:=h
def Dat.tup2(d1 a:Dat):Dat where
 ty:=0
 has V v:=MA V v d1 a
 noPoly:=d1.noPoly&&a.noPoly
 below h hb:=MA.below h hb
 keep h hk hp:=by
  obtain⟨x,y,e,b,c⟩:=h;exact⟨x,y,e,d1.keep b hk (hp.imp (λg=>(Bool.and_eq_true_iff.1 g).1) id),a.keep c hk (hp.imp (λg=>(Bool.and_eq_true_iff.1 g).2) id)⟩
def Dat.tup1(d:Dat):Dat where
 ty:=0
 has V v:=∃u,v=.tuple #[u,H true]/\Has V u d
 noPoly:=d.noPoly
 below h hb:=by
  obtain⟨x,e,h⟩:=h;exact⟨x,e,h.below hb⟩
 keep h hk hp:=by
  obtain⟨x,e,h⟩:=h;exact⟨x,e,d.keep h hk hp⟩
def upd(f:Nat->E)(i:Nat)(u:E):Nat->E:=λj=>if j=i then u else f j
def more(D:Nat->Bool)(i:Nat):Nat->Bool:=λj=>j==i || D j
def Hs(ds:List Dat)(D:Nat->Bool)(V:G)(f:Nat->E):Prop:=∀k,D k=true->Has V (f k) (ds.getD k .any)
def Av(ds:List Dat)(dp:List Nat)(V:G)(f:Nat->E):Prop:=∀k,k∈dp->Has V (f k) (ds.getD k .any)
def I8(tab:List (List Nat))(i:Nat)(D:Nat->Bool)(l:Nat):Bool:=l != i&&((tab.getD i []).contains l || (!((tab.getD l []).contains i)&&D l))
def bl(tab:List (List Nat))(ws:List Nat)(i:Nat)(D:Nat->Bool):List Bool:=ws.map (I8 tab i D)
section
variable {P:Program} {ops:Array Oper} {mk:(Nat->Value)->Act} {ds:List Dat} {ws:List Nat} {J:List Bool->List Value->World->Prop} {tab:List (List Nat)} {D:Nat->Bool} {f:Nat->Value} {V W:World} {dp:List Nat} {i:Nat} {u x:Value} {o:Oper}
variable{b:E}
theorem Hs.mv(h:Hs ds D V f)(m:∀d v,(d∈ds\/d=.any)->Has V v d->Has W v d):Hs ds D W f:=λk a=>m _ _ (by
 grind) (h k a)
theorem Hs.put(h:Hs ds D V f)(i:Nat)(b:Has V u (ds.getD i .any)):Hs ds (more D i) V (upd f i u):=λk a=>by
 unfold upd;by_cases hk:k=i
 . subst hk;rw[BF rfl];exact b
 . rw[BE hk];refine h k ?_;unfold more at a;grind
def Av.g(h:Av ds dp V f)(k:Nat)(hk:k∈dp:=by decide):Has V (f k) (ds.getD k .any):=h k hk
def Av.e(h:Av ds dp V f)(k:Nat)(e:ds.getD k .any=.eq x:=by rfl)(hk:k∈dp:=by decide):f k=x:=by
 have:=h k hk;rw[e]at this;exact this
def St(ds:List Dat)(ws:List Nat)(J:List Bool->List E->G->Prop)(D:Nat->Bool)(f:Nat->E)(V:G):Prop:=Hs ds D V f/\J (ws.map D) (ws.map f) V
def c1{F:FuncId}{R:Ending->G->Prop}{a x:E}(h:a=x)(q:M P F #[x] V R):M P F #[a] V R:=by rw[h];exact q
def c2{F:FuncId}{R:Ending->G->Prop}{a x y:E}(h:a=x)(k:b=y)(q:M P F #[x,y] V R):M P F #[a,b] V R:=by rw[h,k];exact q
def c3{F:FuncId}{R:Ending->G->Prop}{a x y c z:E}(h:a=x)(k:b=y)(m:c=z)(q:M P F #[x,y,z] V R):M P F #[a,b,c] V R:=by rw[h,k,m];exact q
def Hs.e(h:Hs ds (λ_=>true) V f)(k:Nat)(e:ds.getD k .any=.eq x:=by rfl):f k=x:=by
 have:=h k rfl;rw[e]at this;exact this
def Hs.p(h:Hs ds (λ_=>true) V f)(k:Nat)(e:ds.getD k .any=.ptr:=by rfl):∃B,f k=R (some ⟨B,0,none⟩):=by
 have:=h k rfl;rw[e]at this;exact⟨_,this⟩
def Nh{F:FuncId}{av:Array E}{d1 a:Dat}(q:M P F av V λe W=>∃u1 u2,e=.returned (.tuple #[u1,u2,H true])/\Has W u1 d1/\Has W u2 a/\Bl V W):M P F av V λe W=>∃u,e=.returned u/\Has W u (.tup2 d1 a)/\Bl V W:=q.mono λ_ _ ⟨_,_,e,b,c,d⟩=>⟨_,e,⟨_,_,rfl,b,c⟩,d⟩
def Ni{F:FuncId}{av:Array E}{d:Dat}(q:M P F av V λe W=>∃u,e=.returned (.tuple #[u,H true])/\Has W u d/\Bl V W):M P F av V λe W=>∃u,e=.returned u/\Has W u (.tup1 d)/\Bl V W:=q.mono λ_ _ ⟨_,e,a,b⟩=>⟨_,e,⟨_,rfl,a⟩,b⟩
def rv{F:FuncId}{av:Array E}{x:E}(q:M P F av V λe W=>e=.returned x/\Bl V W):M P F av V λe W=>∃u,e=.returned u/\Has W u (.eq x)/\Bl V W:=q.mono λ_ _ ⟨e,a⟩=>⟨_,e,rfl,a⟩
def Ia{W:G}(h:∀d∈ds,∀V W v,Has V v d->Has W v d:=by repeat (first|exact List.forall_mem_nil _|refine List.forall_mem_cons.2 ⟨λ_ _ _ h=>h,?_⟩)):∀d v,(d∈ds\/d=.any)->Has V v d->Has W v d:=λd v a k=>by
 rcases a with a|rfl
 . exact h d a V W v k
 . exact k
def Out(P:Program)(o:Oper)(a:Act)(V:G)(K:Act->G->Prop):Prop:=
 (∃r u W,(execOp a.eval o).run P V=.ok r W/\(r=.value u\/(r=.skip/\u=I))/\K (a.put o.dst u) W)\/∃F av,(execOp a.eval o).run P V=.ok (.enter F av) V/\M P F av V λe W=>∃u,e=.returned u/\K (a.put o.dst u) W
def I9:Oper->Bool
 |{ op:=.defer _,.. }=>true
 |_=>false
section
variable {Q:Exit->Act->World->Prop} {K:Act->World->Prop} {a:Act}
variable{n:Nat}
def Out.op(h:Out P o a V K)(f:ops[i]?=some o)(hg:Region.wanted o (yielded ops a.tmps)=true):wpOp P ops Q i K a V:=by
 unfold wpOp;rw[f];simp only[hg,if_true];refine Or.inl ?_;unfold Oper.wp;rcases h with⟨r,u,W,c,g,b⟩|⟨F,av,c,d⟩
 . rw[c];rcases g with rfl|⟨rfl,rfl⟩
   . exact b
   . exact b
 . rw[c];refine d.mono ?_;rintro e W ⟨u,rfl,b⟩;exact b
def MB(F:Fence):Prop:=F=.wide\/∃l,F=Fence.wide.inRound l
def MB.calls{F:Fence}(h:MB F){fn:FuncId}{av:Array E}{R:Ending->G->Prop}(a:M P fn av V R):CallsIn F n P fn av V R:=by
 rcases h with rfl|⟨l,rfl⟩
 . exact BI.2 a
 . exact(BI.2 a).inRound l
def Out.opIn{F:Fence}(hF:MB F)(h:Out P o a V K)(q:ops[i]?=some o)(hg:Region.wanted o (yielded ops a.tmps)=true)(hq:I9 o=false):wpOpIn F n P ops Q i K a V:=by
 unfold wpOpIn;rw[q];simp only[hg,if_true];unfold Oper.wpIn;refine⟨λf _=>(by rcases hF with rfl|⟨l,rfl⟩<;>trivial),?_⟩;rw[Oper.semAt_eq _ _ _ λc j=>by
  obtain⟨d,op,t,p,af,g⟩:=o;subst j;cases hq]
 rcases h with⟨r,u,W,k,s,b⟩|⟨fn,av,k,j⟩
 . rw[k];rcases s with rfl|⟨rfl,rfl⟩
   . exact b
   . exact b
 . rw[k,Oper.uponIn_enter];refine⟨λm=>(by rcases hF with rfl|⟨l,rfl⟩<;>cases m),(hF.calls j).mono ?_⟩;rintro e W ⟨u,rfl,b⟩;exact b
end
def Does(P:Program)(ops:Array Oper)(i:Nat)(a:Act)(V:G)(K:Act->G->Prop):Prop:=∃o,ops[i]?=some o/\I9 o=false/\((Region.wanted o (yielded ops a.tmps)=true/\Out P o a V K)\/(Region.wanted o (yielded ops a.tmps)=false/\K (a.put o.dst I) V))
section
variable {Q:Exit->Act->World->Prop} {K K':Act->World->Prop} {a:Act}
def Does.op(h:Does P ops i a V K):wpOp P ops Q i K a V:=by
 obtain⟨o,b,_,⟨hg,h⟩|⟨hg,h⟩⟩:=h
 . exact h.op b hg
 . unfold wpOp;rw[b];simp only[hg,CR,if_false];exact h
def Does.opIn{F:Fence}{n:Nat}(hF:MB F)(h:Does P ops i a V K):wpOpIn F n P ops Q i K a V:=by
 obtain⟨o,b,hq,⟨hg,h⟩|⟨hg,h⟩⟩:=h
 . exact h.opIn hF b hg hq
 . unfold wpOpIn;rw[b];simp only[hg,CR,if_false];exact⟨λf _=>(by rcases hF with rfl|⟨l,rfl⟩<;>trivial),h⟩
def Does.mono(h:Does P ops i a V K)(b:∀a' V',K a' V'->K' a' V'):Does P ops i a V K':=by
 obtain⟨o,d,hq,⟨hg,h⟩|⟨hg,h⟩⟩:=h
 . refine⟨o,d,hq,Or.inl ⟨hg,?_⟩⟩;rcases h with⟨r,u,W,c,j,h⟩|⟨F,av,c,g⟩
   . exact Or.inl ⟨r,u,W,c,j,b _ _ h⟩
   . exact Or.inr ⟨F,av,c,g.mono λe W ⟨u,f,h⟩=>⟨u,f,b _ _ h⟩⟩
 . exact⟨o,d,hq,Or.inr ⟨hg,b _ _ h⟩⟩
end
def Stp(P:Program)(ops:Array Oper)(mk:(Nat->E)->Act)(ds:List Dat)(ws:List Nat)(J:List Bool->List E->G->Prop)(tab:List (List Nat))(i:Nat):Prop:=
 ∀D f V,Av ds (tab.getD i []) V f->Hs ds D V f->J (bl tab ws i D) (ws.map f) V->ws.map D=bl tab ws i D->
  Does P ops i (mk f) V (λa' V'=>∃u,a'=mk (upd f i u)/\St ds ws J (more D i) (upd f i u) V')
variable{args:(Nat->E)->Array E}{n:Nat}
theorem St.step(hi:ws.contains i=false)(h:J (ws.map D) (ws.map f) V):J (ws.map (more D i)) (ws.map (upd f i u)) V:=by
 have hn:∀l∈ws,l≠i:=λl hl e=>by
  grind
 have a:ws.map (more D i)=ws.map D:=Ce λl hl=>by unfold more;grind
 have b:ws.map (upd f i u)=ws.map f:=Ce λl hl=>BE (hn l hl);rw[a,b];exact h
def SR{R:Nat->Prop}(h:R 0)(t:∀i,i<n->R (i+1)):∀i,i<n+1->R i
 |0,_=>h
 |i+1,hi=>t i (Nat.lt_of_succ_lt_succ hi)
def Stp.end_{R:Nat->Prop}:∀i,i<0->R i:=λ_ h=>absurd h (Nat.not_lt_zero _)
def Stp.cl{F:FuncId}
(k:∀ {f V D},Av ds (tab.getD i []) V f->J (bl tab ws i D) (ws.map f) V->M P F (args f) V λe W=>∃u,e=.returned u/\Has W u (ds.getD i .any)/\Bl V W)
(hJ:∀b v V W,J b v V->Bl V W->J b v W:=by first|exact λ_ _ _ _ h a=>h.below a|exact λ_ _ _ _ h a=>⟨h.1.below a,h.2.below a⟩)(m:ops[i]?=some o:=by rfl)(hg:∀ {f V},Av ds (tab.getD i []) V f->Region.wanted o (yielded ops (mk f).tmps)=true:=by exact λ_=>rfl)(hi:ws.contains i=false:=by rfl)
(p:∀f V,(execOp (mk f).eval o).run P V=.ok (.enter F (args f)) V:=by intro f V;kernel_rfl)(l:∀f u,(mk f).put o.dst u=mk (upd f i u):=by intro f u;kernel_rfl)(hq:I9 o=false:=by rfl):Stp P ops mk ds ws J tab i:=λD f V g hs j a=>⟨o,m,hq,Or.inl ⟨hg g,Or.inr ⟨F,args f,p f V,by
 refine(k g j).mono ?_;rintro e W ⟨u,rfl,n,c⟩;exact⟨u,rfl,u,l f u,(hs.mv λd v _ h=>h.below c).put i n,St.step hi (hJ _ _ _ _ (by rw[a];exact j) c)⟩⟩⟩⟩
def Stp.ci{F:FuncId}(m:ops[i]?=some o)
(c:∀ {f V D},Av ds (tab.getD i []) V f->J (bl tab ws i D) (ws.map f) V->∃av,(execOp (mk f).eval o).run P V=.ok (.enter F av) V/\M P F av V λe W=>∃u,e=.returned u/\Has W u (ds.getD i .any)/\Bl V W)
(hJ:∀b v V W,J b v V->Bl V W->J b v W:=by first|exact λ_ _ _ _ h a=>h.below a|exact λ_ _ _ _ h a=>⟨h.1.below a,h.2.below a⟩)(hg:∀ {f V},Av ds (tab.getD i []) V f->Region.wanted o (yielded ops (mk f).tmps)=true:=by exact λ_=>rfl)(hi:ws.contains i=false:=by rfl)
(l:∀f u,(mk f).put o.dst u=mk (upd f i u):=by intro f u;kernel_rfl)(hq:I9 o=false:=by rfl):Stp P ops mk ds ws J tab i:=λD f V j hs k a=>by
 obtain⟨av,p,c⟩:=c j k;refine⟨o,m,hq,Or.inl ⟨hg j,Or.inr ⟨F,av,p,c.mono ?_⟩⟩⟩;rintro e W ⟨u,rfl,n,g⟩;exact⟨u,rfl,u,l f u,(hs.mv λd v _ h=>h.below g).put i n,St.step hi (hJ _ _ _ _ (by rw[a];exact k) g)⟩
def Stp.vl(e:ops[i]?=some o)(hv:∀ {f V D},Av ds (tab.getD i []) V f->J (bl tab ws i D) (ws.map f) V->∃u,(execOp (mk f).eval o).run P V=.ok (.value u) V/\Has V u (ds.getD i .any))
(hg:∀ {f V},Av ds (tab.getD i []) V f->Region.wanted o (yielded ops (mk f).tmps)=true:=by exact λ_=>rfl)(hi:ws.contains i=false:=by rfl)(d:∀f u,(mk f).put o.dst u=mk (upd f i u):=by intro f u;kernel_rfl)(hq:I9 o=false:=by rfl):Stp P ops mk ds ws J tab i:=λD f V a hs b c=>by
 obtain⟨u,j,g⟩:=hv a b;exact⟨o,e,hq,Or.inl ⟨hg a,Or.inl ⟨_,u,V,j,Or.inl rfl,u,d f u,hs.put i g,St.step hi (by rw[c];exact b)⟩⟩⟩
def Stp.wr(k:ops[i]?=some o)(hv:∀ {f V D},Av ds (tab.getD i []) V f->J (bl tab ws i D) (ws.map f) V->∃r u W,(execOp (mk f).eval o).run P V=.ok r W/\(r=.value u\/(r=.skip/\u=I))/\Has W u (ds.getD i .any)/\(∀d v,(d∈ds\/d=.any)->Has V v d->Has W v d)/\J (ws.map (more (I8 tab i D) i)) (ws.map (upd f i u)) W)
(hg:∀ {f V},Av ds (tab.getD i []) V f->Region.wanted o (yielded ops (mk f).tmps)=true:=by exact λ_=>rfl)(j:∀f u,(mk f).put o.dst u=mk (upd f i u):=by intro f u;kernel_rfl)(hq:I9 o=false:=by rfl):Stp P ops mk ds ws J tab i:=λD f V a hs g c=>by
 obtain⟨r,u,W,p,m,n,hk,hJ⟩:=hv a g;have e:ws.map (more (I8 tab i D) i)=ws.map (more D i):=Ce λl hl=>by
  have b:=List.map_inj_left.1 c l hl;show(l==i || I8 tab i D l)=(l==i || D l);rw[<-b]
 rw[e]at hJ;exact⟨o,k,hq,Or.inl ⟨hg a,Or.inl ⟨r,u,W,p,m,u,j f u,(hs.mv hk).put i n,hJ⟩⟩⟩
def Stp.no(g:ops[i]?=some o)(hg:∀ {f V},Av ds (tab.getD i []) V f->Region.wanted o (yielded ops (mk f).tmps)=false)(c:∀V,Has V I (ds.getD i .any):=by exact λ_=>trivial)(hi:ws.contains i=false:=by rfl)(e:∀f u,(mk f).put o.dst u=mk (upd f i u):=by intro f u;kernel_rfl)(hq:I9 o=false:=by rfl):Stp P ops mk ds ws J tab i:=λD f V a hs d b=>
 ⟨o,g,hq,Or.inr ⟨hg a,I,e f I,hs.put i (c V),St.step hi (by rw[b];exact d)⟩⟩
theorem Stp.cw{F:FuncId}
(g:∀ {f V D},Av ds (tab.getD i []) V f->J (bl tab ws i D) (ws.map f) V->M P F (args f) V λe W=>∃u,e=.returned u/\Has W u (ds.getD i .any)/\(∀d v,(d∈ds\/d=.any)->Has V v d->Has W v d)/\J (ws.map (more (I8 tab i D) i)) (ws.map (upd f i u)) W)
(m:ops[i]?=some o:=by rfl)(hg:∀ {f V},Av ds (tab.getD i []) V f->Region.wanted o (yielded ops (mk f).tmps)=true:=by exact λ_=>rfl)
(p:∀f V,(execOp (mk f).eval o).run P V=.ok (.enter F (args f)) V:=by intro f V;kernel_rfl)(k:∀f u,(mk f).put o.dst u=mk (upd f i u):=by intro f u;kernel_rfl)(hq:I9 o=false:=by rfl):Stp P ops mk ds ws J tab i:=λD f V a hs j c=>⟨o,m,hq,Or.inl ⟨hg a,Or.inr ⟨F,args f,p f V,by
 refine(g a j).mono ?_;rintro e W ⟨u,rfl,n,hk,hJ⟩;have e:ws.map (more (I8 tab i D) i)=ws.map (more D i):=Ce λl hl=>by
  have b:=List.map_inj_left.1 c l hl;show(l==i || I8 tab i D l)=(l==i || D l);rw[<-b]
 rw[e]at hJ;exact⟨u,rfl,u,k f u,(hs.mv hk).put i n,hJ⟩⟩⟩⟩
theorem jB(b:∀l dp,tab[l]?=some dp->D l=true->∀k∈dp,D k=true)(c:∀k∈tab.getD i [],D k=true)(a:D i=false)(d:∀l∈ws,l<tab.length):ws.map D=bl tab ws i D:=Ce λl hl=>by
 grind[I8]
def MC(a:Act):List (Option Tmp)->Nat->(Nat->E)->Act
 |[],_,_=>a
 |d::ds,k,f=>MC (a.put d (f k)) ds (k+1) f
def Nj(a:Act):Option (Option Tmp)->E
 |some (some t)=>a.tmps.getD t I
 |_=>I
def QA(a:Act):∀(ds:List (Option Tmp)) (k:Nat) (f:Nat->E),(∀j,j<ds.length->f (k+j)=Nj a ds[j]?)->MC a ds k f=a
 |[],_,_,_=>rfl
 |d::ds,k,f,h=>by
  have e:a.put d (f k)=a:=by
   have b:f k=Nj a (some d):=h 0 (Nat.zero_lt_succ _);rw[b];cases d with
   |none=>rfl
   |some t=>
    show({ a with tmps:=a.tmps.setIfInBounds t (a.tmps.getD t I) }:Act)=a
    have:a.tmps.setIfInBounds t (a.tmps.getD t I)=a.tmps:=by
     apply Array.ext_getElem?;intro i;rw[Array.getElem?_setIfInBounds];by_cases hi:t=i
     . subst hi;by_cases hs:t<a.tmps.size
       . simp[hs]
       . simp[hs]
     . rw[BE hi]
    rw[this]
  show MC (a.put d (f k)) ds (k+1) f=a;rw[e];exact QA a ds (k+1) f λj c=>by
   rw[Nat.add_right_comm,Nat.add_assoc];exact h (j+1) (Nat.succ_lt_succ c)
def Ge(ops:Array Oper)(a:Act)(f:Nat->E):Act:=MC a (ops.toList.map Oper.dst) 0 f
def jC{a:Act}{dp:List Nat}{K:Act->G->Prop}(o:∀l dp,tab[l]?=some dp->D l=true->∀k∈dp,D k=true)(hi:tab[i]?=some dp)(d:∀k∈dp,D k=true)(m:D i=false)(p:(ws.all λl=>decide (l<tab.length))=true)
(st:∀i,i<tab.length->Stp P ops (Ge ops a) ds ws J tab i)(b:St ds ws J D f V)(n:∀a' V',(∃f,a'=Ge ops a f/\St ds ws J (more D i) f V')->K a' V'):Does P ops i (Ge ops a f) V K:=by
 have e:tab.getD i []=dp:=DH
 have c:=jB o (e ▸ d) m λl hl=>BW (AJ.1 p l hl);exact(st i (AA.1 hi).1 D f V (λk hk=>b.1 k (d k (by rw[<-e];exact hk))) b.1 (by rw[<-c];exact b.2) c).mono λa' V' ⟨u,g,j⟩=>n _ _ ⟨_,g,j⟩
def U8(d:(ws.all λl=>decide (l<tab.length))=true)(c:decide (ds.length<=tab.length)=true)(b:∀i,i<tab.length->D i=true)(a:St ds ws J D f V):Hs ds (λ_=>true) V f/\J (ws.map λ_=>true) (ws.map f) V:=by
 refine⟨λk _=>?_,?_⟩
 . by_cases hk:k<tab.length
   . exact a.1 k (b k hk)
   . have:=BW c;rw[List.getD_eq_getElem?_getD,C9 O];trivial
 . rw[Ce (g:=D) λl hl=>(b l (BW (AJ.1 d l hl))).symm];exact a.2
def LM(tab a:List (List Nat)):Bool:=tab.length==a.length&&(List.range a.length).all λi=>(a.getD i []).all λk=>(tab.getD i []).contains k || (tab.getD i []).any λj=>decide (j<i)&&(a.getD j []).contains k
theorem U9{a:List (List Nat)}(h:LM tab a=true)(i:Nat)(hi:i<a.length)(k:Nat)(hk:k∈a.getD i []):k∈tab.getD i []\/∃j,j<i/\j∈tab.getD i []/\k∈a.getD j []:=by
 have b:=AJ.1 (AJ.1 (Bool.and_eq_true_iff.1 h).2 i (List.mem_range.2 hi)) k hk;grind
theorem Nk{a:List (List Nat)}(h:LM tab a=true):tab.length=a.length:=eq_of_beq (Bool.and_eq_true_iff.1 h).1
def getD_at{t:List (List Nat)}{i:Nat}(h:i<t.length):t[i]?=some (t.getD i []):=DH
theorem VA{a:List (List Nat)}(h:LM tab a=true)(b:∀l dp,tab[l]?=some dp->D l=true->∀k∈dp,D k=true)(l:Nat):D l=true->∀k∈a.getD l [],D k=true:=by
 induction l using Nat.strongRecOn with
 |ind l c=>
  intro hD k hk;grind[Nk,U9]
theorem VB{b:List (List Nat)}{a:Act}{dp:List Nat}{K:Act->G->Prop}(h:LM tab b=true)(d:∀l dp,tab[l]?=some dp->D l=true->∀k∈dp,D k=true)(hi:tab[i]?=some dp)(g:∀k∈dp,D k=true)(n:D i=false)(q:(ws.all λl=>decide (l<b.length))=true)
(st:∀i,i<b.length->Stp P ops (Ge ops a) ds ws J b i)(o:St ds ws J D f V)(p:∀a' V',(∃f,a'=Ge ops a f/\St ds ws J (more D i) f V')->K a' V'):Does P ops i (Ge ops a f) V K:=by
 have hl:i<b.length:=by grind[Nk]
 have e:tab.getD i []=dp:=DH
 refine jC (λl dp hl hD k hk=>VA h d l hD k DH) (getD_at hl) (λk hk=>?_) n q st o p;rcases U9 h i hl k hk with c|⟨j,_,c,m⟩
 . exact g k (e ▸ c)
 . exact VA h d j (g j (e ▸ c)) k m
def Yx{id:Nat}{a:Act}{w:G}{Q:Exit->Act->G->Prop}(t:P.follows .mixedOrders=true)(b:List (List Nat))(ds:List Dat)(ws:List Nat)(J:List Bool->List E->G->Prop)
(start:J (ws.map λ_=>false) (ws.map λk=>Nj a (ops.toList.map Oper.dst)[k]?) w.drew)
(st:∀i,i<b.length->Stp P ops (Ge ops a) ds ws J b i)
(fin:∀f V,Hs ds (λ_=>true) V f->J (ws.map λ_=>true) (ws.map f) V->Q .normal (Ge ops a f) V)
(d:LM (Region.tabAfter .any ops) b=true:=by kernel_rfl)(s:LJ (Region.tabAfter .any ops)=true:=by kernel_rfl)(e:(ws.all λl=>decide (l<b.length))=true:=by rfl)(q:decide (ds.length<=b.length)=true:=by rfl):(Code.region id ops true).wp P Q a w:=by
 refine Xp t _ rfl s (λD a' V=>∃f,a'=Ge ops a f/\St ds ws J D f V) ⟨_,(QA a _ 0 _ λj _=>by rw[A5]).symm,And.intro (λ_ h=>Bool.noConfusion h) start⟩ ?_ ?_
 . rintro D _ V i dp p hi r n ⟨f,rfl,c⟩;exact(VB d p hi r n e st c λ_ _ h=>h).op
 . rintro D _ V o ⟨f,rfl,c⟩;obtain⟨g,m⟩:=U8 e q (λi hi=>o i (by rw[Nk d];exact hi)) c;exact fin f V g m
def LN{F:Fence}{id:Nat}{a:Act}{w:G}{Q:Exit->Act->G->Prop}(hF:MB F)(u:P.follows .mixedOrders=true)(b:List (List Nat))(ds:List Dat)(ws:List Nat)(J:List Bool->List E->G->Prop)
(start:J (ws.map λ_=>false) (ws.map λk=>Nj a (ops.toList.map Oper.dst)[k]?) w.drew)
(st:∀i,i<b.length->Stp P ops (Ge ops a) ds ws J b i)
(fin:∀f V,Hs ds (λ_=>true) V f->J (ws.map λ_=>true) (ws.map f) V->Q .normal (Ge ops a f) V)
(d:LM (Region.tabAfter .any ops) b=true:=by kernel_rfl)(t:LJ (Region.tabAfter .any ops)=true:=by kernel_rfl)(e:(ws.all λl=>decide (l<b.length))=true:=by rfl)(r:decide (ds.length<=b.length)=true:=by rfl):(Code.region id ops true).wpIn F n P Q a w:=by
 refine X9 u _ rfl t (λD a' V=>∃f,a'=Ge ops a f/\St ds ws J D f V) ⟨_,(QA a _ 0 _ λj _=>by rw[A5]).symm,And.intro (λ_ h=>Bool.noConfusion h) start⟩ ?_ ?_
 . rintro D _ V i dp q hi s o ⟨f,rfl,c⟩;exact(VB d q hi s o e st c λ_ _ h=>h).opIn hF
 . rintro D _ V p ⟨f,rfl,c⟩;obtain⟨g,m⟩:=U8 e r (λi hi=>p i (by rw[Nk d];exact hi)) c;exact fin f V g m
def DP{p q:Prop}(k:q)(h:q->p:=by intro x;simp only[Ge,MC,List.map_cons,List.map_nil,Act.put,List.setIfInBounds_toArray,List.set_cons_succ,List.set_cons_zero,Nat.reduceAdd];exact x):p:=h k
end
end M3
section
variable {V:World} {B:Nat} {t:TypeId} {x y z u:Value}
def JC.ka(h:JC V B t x y):V.cell? ⟨B,0,none⟩=some x/\V.cell? ⟨B,1,none⟩=some y:=⟨h.c0,h.c1⟩
def JC.fa(h:JC V B t x y):V.frozen? ⟨B,0,none⟩=false/\V.frozen? ⟨B,1,none⟩=false:=⟨h.f0,h.f1⟩
def JQ.kb(h:JQ V B t x y z u):V.cell? ⟨B,0,none⟩=some x/\V.cell? ⟨B,1,none⟩=some y/\V.cell? ⟨B,2,none⟩=some z/\V.cell? ⟨B,3,none⟩=some u:=⟨h.c0,h.c1,h.c2,h.c3⟩
def JQ.fb(h:JQ V B t x y z u):V.frozen? ⟨B,0,none⟩=false/\V.frozen? ⟨B,1,none⟩=false/\V.frozen? ⟨B,2,none⟩=false/\V.frozen? ⟨B,3,none⟩=false:=⟨h.f0,h.f1,h.f2,h.f3⟩
end
namespace M3
def Dat.ifq(q:Rat):Dat where
 ty:=0
 has V v:=∃u,v=.iface 41 u/\Jf V u q
 noPoly:=true
 below h hb:=by
  obtain⟨u,e,h⟩:=h;exact⟨u,e,h.below hb⟩
 keep h hk hp:=by
  obtain⟨u,e,h⟩:=h;exact⟨u,e,Dat.keep (.rat q) h hk hp⟩
section
variable {w V:World} {bs:List (Option (Nat × Dat))} {B:Nat} {ρ:Operand->Value} {x y:Operand} {dst:Option Tmp} {ty:TypeId} {ps:String} {af:Array Edge} {gd:Option (Nat × Bool)} {q q0:Rat} {z z0:Int} {p p0:List Rat} {v p1 u1:Value} {ds:List Dat} {T:World->Value->Prop}
variable{d d1:Dat}{b:Int}{qs:List Rat}{m:Nat}
def EK(i:Nat)(M:DJ w V bs)(h:bs[i]?=some (some (B,.rat q)):=by rfl)(hp:p1=R (some ⟨B,0,none⟩):=by rfl)(e:ρ x=p1:=by kernel_rfl):∃u,(execOp ρ { dst:=dst,op:=.load 41 x,type:=ty,pos:=ps,after:=af,guard:=gd }).run F V=.ok (.value u) V/\Has V u (.rat q):=by
 rw[hp]at e;obtain⟨s,a,l,c,t,b,k,d,n,r,_,_⟩:=M.rat h;obtain⟨f,g,j,m⟩:=n.kb;exact⟨_,by go_simp,r⟩
def Fqq(i:Nat)(M:DJ w V bs)(h:bs[i]?=some (some (B,.int z)):=by rfl)(hp:p1=R (some ⟨B,0,none⟩):=by rfl)(b:ρ x=p1:=by kernel_rfl):∃u,(execOp ρ { dst:=dst,op:=.load 39 x,type:=ty,pos:=ps,after:=af,guard:=gd }).run F V=.ok (.value u) V/\Has V u (.int z):=by
 rw[hp]at b;obtain⟨s,a,l,c,n,r⟩:=M.int h;obtain⟨d,e⟩:=n.ka;exact⟨_,by go_simp,r⟩
def FT(i:Nat)(M:DJ w V bs)(h:bs[i]?=some (some (B,.cell 25 v)):=by rfl)(hp:p1=R (some ⟨B,0,none⟩):=by rfl)(a:ρ x=p1:=by kernel_rfl):∃u,(execOp ρ { dst:=dst,op:=.load 25 x,type:=ty,pos:=ps,after:=af,guard:=gd }).run F V=.ok (.value u) V/\Has V u (.eq (N #[v])):=by
 rw[hp]at a;have b:=(M.cell h).1.cell;exact⟨_,by go_simp,rfl⟩
def jD(i:Nat){a:Int}(M:DJ w V bs)(h:bs[i]?=some (some (B,.pair a b)):=by rfl)(hp:p1=R (some ⟨B,0,none⟩):=by rfl)(e:ρ x=p1:=by kernel_rfl):∃u,(execOp ρ { dst:=dst,op:=.load 39 x,type:=ty,pos:=ps,after:=af,guard:=gd }).run F V=.ok (.value u) V/\Has V u (.int a):=by
 rw[hp]at e;obtain⟨s,a,l,c,t,b,k,d,n,_,r,_⟩:=M.pair h;obtain⟨f,g,j,m⟩:=n.kb;exact⟨_,by go_simp,r⟩
def jE(i:Nat){a:Int}(M:DJ w V bs)(h:bs[i]?=some (some (B,.pair a b)):=by rfl)(hp:p1=R (some ⟨B,0,none⟩):=by rfl)(e:ρ x=p1:=by kernel_rfl):∃u,(execOp ρ { dst:=dst,op:=.load 41 x,type:=ty,pos:=ps,after:=af,guard:=gd }).run F V=.ok (.value u) V/\Has V u (.pair a b):=by
 rw[hp]at e;obtain⟨s,a,l,c,t,b,k,d,n,r,_,_⟩:=M.pair h;obtain⟨f,g,j,m⟩:=n.kb;exact⟨_,by go_simp,r⟩
def LO(i:Nat)(M:DJ w V bs)(h:bs[i]?=some (some (B,.rat q)):=by rfl)(hp:p1=R (some ⟨B,0,none⟩):=by rfl)(e:ρ x=p1:=by kernel_rfl):∃u,(execOp ρ { dst:=dst,op:=.load 39 x,type:=ty,pos:=ps,after:=af,guard:=gd }).run F V=.ok (.value u) V/\Has V u (.int q.num):=by
 rw[hp]at e;obtain⟨s,a,l,c,t,b,k,d,n,_,r,_⟩:=M.rat h;obtain⟨f,g,j,m⟩:=n.kb;exact⟨_,by go_simp,r⟩
def MD(i:Nat){a:Option Addr}{l c:Nat}(M:DJ w V bs)(h:bs[i]?=some (some (B,.cell 23 (C a l c))):=by rfl)(hp:p1=R (some ⟨B,0,none⟩):=by rfl)(b:ρ x=p1:=by kernel_rfl):∃u,(execOp ρ { dst:=dst,op:=.load 23 x,type:=ty,pos:=ps,after:=af,guard:=gd }).run F V=.ok (.value u) V/\Has V u (.eq (C a l c)):=by
 rw[hp]at b;have d:=(M.cell h).1.cell;exact⟨_,by go_simp,rfl⟩
def mv{y:E}(h:ρ x=y:=by kernel_rfl):∃u,(execOp ρ { dst:=dst,op:=.move x,type:=ty,pos:=ps,after:=af,guard:=gd }).run F V=.ok (.value u) V/\Has V u (.eq y):=⟨_,rfl,h⟩
def av{y:E}(h:ρ x=y:=by kernel_rfl):∃u,(execOp ρ { dst:=dst,op:=.assign x,type:=ty,pos:=ps,after:=af,guard:=gd }).run F V=.ok (.value u) V/\Has V u (.eq y):=⟨_,rfl,h⟩
def mw(hv:Has V u1 d)(h:ρ x=u1:=by kernel_rfl):∃u,(execOp ρ { dst:=dst,op:=.move x,type:=ty,pos:=ps,after:=af,guard:=gd }).run F V=.ok (.value u) V/\Has V u d:=⟨_,rfl,h ▸ hv⟩
def aw(hv:Has V u1 d)(h:ρ x=u1:=by kernel_rfl):∃u,(execOp ρ { dst:=dst,op:=.assign x,type:=ty,pos:=ps,after:=af,guard:=gd }).run F V=.ok (.value u) V/\Has V u d:=⟨_,rfl,h ▸ hv⟩
def QB(i:Nat)(M:DJ w V bs)(a:m<qs.length)(hp:p1=R (some ⟨B,m*4,none⟩))(h:bs[i]?=some (some (B,.rats qs)):=by rfl)(c:ρ x=p1:=by kernel_rfl):∃u,(execOp ρ { dst:=dst,op:=.load 41 x,type:=ty,pos:=ps,after:=af,guard:=gd }).run F V=.ok (.value u) V/\Has V u (.rat (cf qs m)):=by
 rw[hp]at c;obtain⟨j,k,l,n,d,e,f,g,b⟩:=(M.rats h).at a;exact⟨_,by go_simp,b⟩
def Wr(ρ:Operand->E)(o:Oper)(V:G)(ds:List Dat)(d:Dat)(T:G->E->Prop):Prop:=∃r u W,(execOp ρ o).run F V=.ok r W/\(r=.value u\/(r=.skip/\u=I))/\Has W u d/\(∀d v,(d∈ds\/d=.any)->Has V v d->Has W v d)/\T W u
def FN(i:Nat)(M:DJ w V bs)(hv:Has V u1 (.int z))(h:bs[i]?=some (some (B,.int z0)):=by rfl)(hp:p1=R (some ⟨B,0,none⟩):=by rfl)(f:ρ x=p1:=by kernel_rfl)(g:ρ y=u1:=by kernel_rfl)(hn:ds.all Dat.noPoly=true:=by rfl)(hT:∀ {s a l c x y},JC V B 39 (H s) (C a l c)->DJ w ((V.setCell ⟨B,0,none⟩ x).setCell ⟨B,1,none⟩ y) (bs.set i (some (B,.int z)))->T ((V.setCell ⟨B,0,none⟩ x).setCell ⟨B,1,none⟩ y) I:=by exact λ_ m=>m):Wr ρ { dst:=none,op:=.store 39 x y,type:=ty,pos:=ps,after:=af,guard:=gd } V ds (.eq I) T:=by
 rw[hp]at f;obtain⟨s,a,l,c,n,r⟩:=M.int h;obtain⟨o,p⟩:=n.ka;obtain⟨f0,f1⟩:=n.fa;obtain⟨q,j,l1,c1,e⟩:=Jj.form2 (show Jj V _ _ from hv);rw[e]at hv;rw[e]at g;exact⟨.skip,I,_,by go_simp,Or.inr ⟨rfl,rfl⟩,rfl,λd v b k=>k.set2 n rfl rfl _ _ (by rcases b with b|rfl;exact AJ.1 hn d b;rfl),hT n (M.putInt h hv)⟩
def LP(i:Nat)(M:DJ w V bs)(hv:Has V u1 (.rat q))(h:bs[i]?=some (some (B,.rat q0)):=by rfl)(hp:p1=R (some ⟨B,0,none⟩):=by rfl)(g:ρ x=p1:=by kernel_rfl)(j:ρ y=u1:=by kernel_rfl)(hn:ds.all Dat.noPoly=true:=by rfl)(np:noPoly bs=true:=by rfl)(hT:∀ {s a l c t b k d x y x' y'},JQ V B 41 (H s) (C a l c) (H t) (C b k d)->DJ w (put4 V B x y x' y') (bs.set i (some (B,.rat q)))->T (put4 V B x y x' y') I:=by exact λ_ m=>m):Wr ρ { dst:=none,op:=.store 41 x y,type:=ty,pos:=ps,after:=af,guard:=gd } V ds (.eq I) T:=by
 rw[hp]at g;obtain⟨s,a,l,c,t,b,k,d,n,r,_,_⟩:=M.rat h;obtain⟨u,z,A,D⟩:=n.kb;obtain⟨f0,f1,f2,f3⟩:=n.fb;obtain⟨P,o,l1,c1,Q,p,K,d1,e⟩:=Jf.form (show Jf V _ _ from hv);rw[e]at hv;rw[e]at j;exact⟨.skip,I,_,by go_simp;rfl,Or.inr ⟨rfl,rfl⟩,rfl,λd v f k=>k.put4 n rfl rfl rfl rfl _ _ _ _ (by rcases f with f|rfl;exact AJ.1 hn d f;rfl),hT n (M.putRat h hv np)⟩
def ME(i:Nat)(M:DJ w V bs)(b:m<qs.length)(hv:Has V u1 (.rat q))(hp:p1=R (some ⟨B,m*4,none⟩))(h:bs[i]?=some (some (B,.rats qs)):=by rfl)(hn:ds.all Dat.noPoly=true:=by rfl)(np:noPoly bs=true:=by rfl)(c:ρ x=p1:=by kernel_rfl)(p:ρ y=u1:=by kernel_rfl)(hT:∀ {x y z u},Dm true V B qs->DJ w (putAt V B (m*4) x y z u) (bs.set i (some (B,.rats (qs.set m q))))->T (putAt V B (m*4) x y z u) I:=by exact λ_ m=>m):Wr ρ { dst:=none,op:=.store 41 x y,type:=ty,pos:=ps,after:=af,guard:=gd } V ds (.eq I) T:=by
 rw[hp]at c;have hE:=M.rats h;obtain⟨D,K,P,Q,j,l,n,o,_⟩:=hE.at b;have f0:=hE.frozen (m*4);have f1:=hE.frozen (m*4+1);have f2:=hE.frozen (m*4+2);have f3:=hE.frozen (m*4+3);obtain⟨t,e,s,f,A,b9,r,g,rfl⟩:=Jf.form (show Jf V _ _ from hv);exact⟨.skip,I,_,by go_simp;rfl,Or.inr ⟨rfl,rfl⟩,rfl,λd v a k=>k.keep (hE.putKeep b _ _ _ _) (Or.inl (by rcases a with a|rfl;exact AJ.1 hn d a;rfl)),hT hE (M.putRats h b hv np)⟩
def GQ(i:Nat)(M:DJ w V bs)(h:bs[i]?=some none:=by rfl)(hT:∀ {o},DJ w (V.alloc o) (bs.set i (some (V.heap.size,.int 0)))->T (V.alloc o) (R (some ⟨V.heap.size,0,none⟩)):=by exact λm=>m):Wr ρ { dst:=dst,op:=.alloc 39,type:=ty,pos:=ps,after:=af,guard:=gd } V ds .ptr T:=
 ⟨_,R (some ⟨V.heap.size,0,none⟩),_,by go_simp;exact rfl,Or.inl rfl,rfl,λ_ _ _ k=>k.alloc _,hT (M.fill h (.int 0) (EY V))⟩
def Nl(i:Nat)(M:DJ w V bs)(h:bs[i]?=some none:=by rfl)(hT:∀ {o},DJ w (V.alloc o) (bs.set i (some (V.heap.size,.rat 0)))->T (V.alloc o) (R (some ⟨V.heap.size,0,none⟩)):=by exact λm=>m):Wr ρ { dst:=dst,op:=.alloc 41,type:=ty,pos:=ps,after:=af,guard:=gd } V ds .ptr T:=
 ⟨_,R (some ⟨V.heap.size,0,none⟩),_,by go_simp;exact rfl,Or.inl rfl,rfl,λ_ _ _ k=>k.alloc _,hT (M.fill h (.rat 0) (Xx V))⟩
def nb(b:List Bool)(v:List E)(a l:Nat)(d0 d1:Dat):Option (Nat × Dat):=if b.getD a false then some (blk (v.getD a I),if b.getD l false then d1 else d0)else none
def mi(hv:Has V u1 (.rat q))(a:ρ x=u1:=by kernel_rfl):∃u,(execOp ρ { dst:=dst,op:=.makeInterface 41 x,type:=ty,pos:=ps,after:=af,guard:=gd }).run F V=.ok (.value u) V/\Has V u (.ifq q):=⟨.iface 41 u1,by go_simp,u1,rfl,hv⟩
def Nm{a:Dat}(h:Has V p1 (.tup2 d1 a))(c:ρ x=p1:=by kernel_rfl):∃u,(execOp ρ { dst:=dst,op:=.extract x 0,type:=ty,pos:=ps,after:=af,guard:=gd }).run F V=.ok (.value u) V/\Has V u d1:=by
 obtain⟨u,v,e,b,d⟩:=h;rw[e]at c;exact⟨_,by go_simp,b⟩
def Nn{a:Dat}(h:Has V p1 (.tup2 d1 a))(c:ρ x=p1:=by kernel_rfl):∃u,(execOp ρ { dst:=dst,op:=.extract x 1,type:=ty,pos:=ps,after:=af,guard:=gd }).run F V=.ok (.value u) V/\Has V u a:=by
 obtain⟨u,v,e,d,b⟩:=h;rw[e]at c;exact⟨_,by go_simp,b⟩
def Np{a:Dat}(h:Has V p1 (.tup2 d1 a))(b:ρ x=p1:=by kernel_rfl):∃u,(execOp ρ { dst:=dst,op:=.extract x 2,type:=ty,pos:=ps,after:=af,guard:=gd }).run F V=.ok (.value u) V/\Has V u (.eq (H true)):=by
 obtain⟨u,v,e,c,d⟩:=h;rw[e]at b;exact⟨_,by go_simp,rfl⟩
def Nq(h:Has V p1 (.tup1 d))(b:ρ x=p1:=by kernel_rfl):∃u,(execOp ρ { dst:=dst,op:=.extract x 0,type:=ty,pos:=ps,after:=af,guard:=gd }).run F V=.ok (.value u) V/\Has V u d:=by
 obtain⟨u,e,a⟩:=h;rw[e]at b;exact⟨_,by go_simp,a⟩
def Ns(h:Has V p1 (.tup1 d))(a:ρ x=p1:=by kernel_rfl):∃u,(execOp ρ { dst:=dst,op:=.extract x 1,type:=ty,pos:=ps,after:=af,guard:=gd }).run F V=.ok (.value u) V/\Has V u (.eq (H true)):=by
 obtain⟨u,e,b⟩:=h;rw[e]at a;exact⟨_,by go_simp,rfl⟩
end
def Dw{p q:Prop}(k:p)(h:p->q:=by intro x;simp only[nb,List.map_cons,List.map_nil,List.getD_cons_zero,List.getD_cons_succ,if_true,blk]at x;exact x):q:=h k
end M3
def Ka.form{W:G}{v:E}{z:Int}(h:Ka W v z):∃a l cap,v=N #[C a l cap,H (decide (z<0))]:=by
 obtain⟨a,l,cap,e,_⟩:=h;exact⟨a,l,cap,e⟩
def QC(Q S:E)(x y:Int)(w:G)(c:Jj w Q x)(hb:Jj w S y)(ai:(Jh Y x.natAbs).length<1099511627776)(aj:(Jh Y y.natAbs).length<1099511627776):
 M F 105 #[Q,S] w λe w'=>∃u,e=.returned u/\Jj w' u (x-y)/\Bl w w':=by
 obtain⟨a,la,ca,rfl⟩:=c.form;obtain⟨b,lb,cb,e0,d⟩:=hb;cases e0;obtain⟨s,hs⟩:=ex (decide (x<0));obtain⟨t,m⟩:=ex (decide (y<0));rw[hs]at c ⊢;rw[m];clear hs;obtain⟨W0,j⟩:=ex (((w.alloc (L #[H s,C a la ca] 39)).alloc (L #[H t,C b lb cb] 39)).alloc (L #[H false,C none 0 0] 39));obtain⟨i,b0,f,g⟩:=NM j;have q:(if(!t)=true then -(y.natAbs:Int)else y.natAbs)=-y:=by
  rw[<-m];by_cases h:y<0
  . simp only[h,decide_true,Bool.not_true,CR,if_false];omega
  . simp only[h,decide_false,Bool.not_false,if_true];omega
 have T:=Z (λ(V:G) (h:Bl W0 V)=>show M F 94 #[H (!t),C b lb cb] V λe w'=>∃u,e=.returned u/\Jj w' u (-y)/\Bl V w' by
  have r:=Kb (!t) (C b lb cb) y.natAbs V (UN.below (UN.below d i) h);rw[q]at r;exact r)
 have U:=Z λ(V:G) (u:E) (h:Bl W0 V) (d:Jj V u (-y))=>Nc _ u x (-y) V ((c.below i).below h) d ai (by rw[FJ];exact aj);clear c d q m;go_enter Tryz.func105,Tryz.ntmps105
 go_wp2_with fail
 try rw[j]
 clear j;have hq:Bl W0 W0.drew:=(BB _ W0).drew;obtain⟨z,A⟩:=b0.cp;obtain⟨B,D⟩:=f.cp;have am:¬(w.heap.size=w.heap.size+1+1):=O
 go_region_held3 (λw'=>w'.cell? ⟨w.heap.size,0,none⟩=some (H s)/\w'.cell? ⟨w.heap.size,1,none⟩=some (C a la ca)/\w'.cell? ⟨w.heap.size+1,0,none⟩=some (H t)/\w'.cell? ⟨w.heap.size+1,1,none⟩=some (C b lb cb)) (refine⟨?_,?_,?_,?_⟩<;>(first|(go_keep;done)|((repeat rw[JR O]);simp[*];done)))
  (first
   |(go_at_call 94;refine(T.o _ hq).mono ?_;rintro e w1 ⟨u1,rfl,n,ae⟩;obtain⟨na,nl,nc,rfl⟩:=n.form;obtain⟨s1,k⟩:=ex (decide (-y<0));rw[k]at n;rw[k];clear k;have hq:=Bt hq ae;obtain⟨z,A⟩:=(b0.below hq).cp;obtain⟨B,D⟩:=(f.below hq).cp)
   |(go_at_call 39;refine(U.o _ _ hq n).mono ?_;rintro e w2 ⟨u2,rfl,o,ah⟩;obtain⟨P,sl,sc,rfl⟩:=o.form;obtain⟨K,l⟩:=ex (decide (x+-y<0));rw[l]at o;rw[l];clear l;have hq:=Bt hq ah;obtain⟨z,A⟩:=(b0.below hq).cp;obtain⟨B,D⟩:=(f.below hq).cp;obtain⟨r0,r1⟩:=(g.below hq).cp;obtain⟨f0,f1⟩:=(g.below hq).fp))
 all_goals go_wp2_with fail
 have X:=Bt i hq;have W:=o.box (g.below hq) rfl rfl (x0:=H K) (x1:=C P sl sc);exact BA (v:=N #[H K,C P sl sc]) (by simp[results,Tryz.results105,go_sem,r0,r1]) rfl ⟨_,rfl,by rw[Int.sub_eq_add_neg];exact W,(X.setCell (p:=⟨_,0,none⟩) Di _).setCell (p:=⟨_,1,none⟩) Di _⟩
def jF(a:Option Addr)(la ca:Nat)(b:Option Addr)(lb cb m n:Nat)(w:G)(s:la+lb<=1099511627776)
(i:Row .u64 w (C a la ca) (Jh Y m))(j:Row .u64 w (C b lb cb) (Jh Y n)):
 M F 167 #[C a la ca,C b lb cb] w λe w'=>∃u,e=.returned u/\UN w' u (m*n)/\Bl w w':=by
 have l:=I2 (la+lb) O w;rw[show((la+lb:Nat):Int)=(la:Int)+(lb:Int)from by omega]at l;obtain⟨c,d⟩:∃c,c=w.alloc (L (cellsOf .u64 (List.replicate (la+lb) 0)).toArray 141):=⟨_,rfl⟩;have f:Bl w c:=by rw[d];exact Ba w _
 have k:DS c w.heap.size (List.replicate (la+lb) 0):=by rw[d];exact DS.made (BD w _)
 rw[<-d]at l;have q:=Z (Py w.heap.size (la+lb) (la+lb) (List.replicate (la+lb) 0) a la ca b lb cb m n c k (λx t=>by rw[CT t];unfold Y;omega) DH (Aa _) O s (Row.below i f) (Row.below j f)
  (λp e g=>by have:=I3 i e g;omega) λp e g=>by have:=I3 j e g;omega)
 clear d k i j;go_enter Tryz.func167,Tryz.ntmps167
 go_wp2_with(go_at_call 179;refine q.o.mono ?_;rintro e z ⟨u,rfl,⟨o,r⟩,_,_⟩;obtain⟨v,y,rfl⟩:=UN.form o)
 go_ret;exact⟨_,rfl,o,below_grown f r (Aa _)⟩
def YR(K P:E)(x y:Int)(w:G)(ha:Jj w K x)(hb:Jj w P y)(hl:(Jh Y x.natAbs).length+(Jh Y y.natAbs).length<=1099511627776):
 M F 87 #[K,P] w λe w'=>∃u,e=.returned u/\Jj w' u (x*y)/\Bl w w':=by
 obtain⟨a,la,ca,k,g⟩:=ha;cases k;obtain⟨b,lb,cb,k,hv⟩:=hb;cases k;have U:=g.len;have W:=hv.len;obtain⟨s,hs⟩:=ex (decide (x<0));obtain⟨t,o⟩:=ex (decide (y<0));have r:(if(!(s==t))=true then -((x.natAbs*y.natAbs:Nat):Int)else((x.natAbs*y.natAbs:Nat):Int))=x*y:=by
  rw[<-hs,<-o,<-Cx];rcases Int.lt_trichotomy x 0 with c|c|c<;>rcases Int.lt_trichotomy y 0 with d|d|d
  . have:=Int.mul_pos_of_neg_of_neg c d;simp[c,d];omega
  . subst d;simp
  . have:=Int.mul_neg_of_neg_of_pos c d;have f:¬y<0:=O
    simp[c,f];omega
  . subst c;simp
  . subst c;simp
  . subst c;simp
  . have:=Int.mul_neg_of_pos_of_neg c d;have f:¬x<0:=O
    simp[d,f];omega
  . subst d;simp
  . have:=Int.mul_pos c d;have f:¬x<0:=O
    have h2:¬y<0:=O
    simp[f,h2];omega
 rw[hs,o];obtain⟨W0,m⟩:=ex (((w.alloc (L #[H s,C a la ca] 39)).alloc (L #[H t,C b lb cb] 39)).alloc (L #[H false,C none 0 0] 39));obtain⟨l,b0,i,j⟩:=NM m;have S:=Z λ(V:G) (h:Bl W0 V)=>jF a la ca b lb cb _ _ V O (UN.below (UN.below g l) h) (UN.below (UN.below hv l) h);have Q:=Z (λ(V:G) (u:E) (g:UN V u (x.natAbs*y.natAbs))=>show M F 94 #[H (!(s==t)),u] V λe w'=>∃u,e=.returned u/\Jj w' u (x*y)/\Bl V w' by
  have f:=Kb (!(s==t)) u _ V g;rw[r]at f;exact f)
 clear g hv r hs o U W hl;go_enter Tryz.func87,Tryz.ntmps87
 go_wp2_with fail
 try rw[m]
 clear m;have hq:Bl W0 W0.drew:=(BB _ W0).drew;obtain⟨z,A⟩:=b0.cp;obtain⟨B,D⟩:=i.cp;have ai:¬(w.heap.size=w.heap.size+1+1):=O
 go_region_held3 (λw'=>w'.cell? ⟨w.heap.size,0,none⟩=some (H s)/\w'.cell? ⟨w.heap.size,1,none⟩=some (C a la ca)/\w'.cell? ⟨w.heap.size+1,0,none⟩=some (H t)/\w'.cell? ⟨w.heap.size+1,1,none⟩=some (C b lb cb)) (refine⟨?_,?_,?_,?_⟩<;>(first|(go_keep;done)|((repeat rw[JR O]);simp[*];done)))
  (first
   |(go_at_call 167;refine(S.o _ hq).mono ?_;rintro e w1 ⟨u1,rfl,v,ae⟩;obtain⟨na,nc,rfl⟩:=UN.form v;have hq:=Bt hq ae;obtain⟨z,A⟩:=(b0.below hq).cp;obtain⟨B,D⟩:=(i.below hq).cp)
   |(go_at_call 94;refine(Q.o _ _ v).mono ?_;rintro e w2 ⟨u2,rfl,q,ah⟩;obtain⟨sa,sl,sc,rfl⟩:=q.form;obtain⟨s2,n⟩:=ex (decide (x*y<0));rw[n]at q;rw[n];clear n;have hq:=Bt hq ah;obtain⟨z,A⟩:=(b0.below hq).cp;obtain⟨B,D⟩:=(i.below hq).cp;obtain⟨r0,r1⟩:=(j.below hq).cp;obtain⟨f0,f1⟩:=(j.below hq).fp))
 all_goals go_wp2_with fail
 have X:=Bt l hq;have T:=q.box (j.below hq) rfl rfl (x0:=H s2) (x1:=C sa sl sc);exact BA (by simp[results,Tryz.results87,go_sem,r0,r1]) rfl ⟨_,rfl,T,(X.setCell (p:=⟨_,0,none⟩) Di _).setCell (p:=⟨_,1,none⟩) Di _⟩
section
def Xd(r:Bool)(W:G)(cs:List E)(qs:List Rat):Prop:=
 cs.length=qs.length*4/\∀j,j<qs.length->∃x y z u,cs[j*4]?=some x/\cs[j*4+1]?=some y/\cs[j*4+2]?=some z/\cs[j*4+3]?=some u/\ED r W (N #[x,y,z,u]) (cf qs j)
variable{r:Bool}{xs:List Nat}{qs:List Rat}{cs:List E}{b:Nat}
theorem Xd.nil(r:Bool)(W:G):Xd r W [] []:=⟨rfl,λj a=>by simp at a⟩
def Xd.below{r:Bool}{W W':G}{cs:List E}{qs:List Rat}(h:Xd r W cs qs)(f:Bl W W'):Xd r W' cs qs:=by
 refine⟨h.1,λj g=>?_⟩;obtain⟨x,y,z,u,a,b,c,d,e⟩:=h.2 j g;exact⟨x,y,z,u,a,b,c,d,e.below f⟩
def Xd.keep{r:Bool}{W W':G}{cs:List E}{qs:List Rat}(h:Xd r W cs qs)(hk:∀k v ds,Row k W v ds->Row k W' v ds):Xd r W' cs qs:=by
 refine⟨h.1,λj f=>?_⟩;obtain⟨x,y,z,u,a,b,c,d,e⟩:=h.2 j f;exact⟨x,y,z,u,a,b,c,d,e.keep hk⟩
theorem Xd.one{r:Bool}{W:G}{cs:List E}{qs:List Rat}(h:Xd r W cs qs):∀v∈cs,v.oneCell'=true:=by
 intro v hv;obtain⟨k,hk,rfl⟩:=CV.1 hv;have hl:=h.1;obtain⟨x,y,z,u,b,c,d,e,a⟩:=h.2 (k/4) O;have f:=a.one;grind
theorem Xd.snoc{W:G}(h:Xd r W cs qs){x y z u:E}{q:Rat}(hq:ED r W (N #[x,y,z,u]) q):Xd r W (cs++[x,y,z,u]) (qs++[q]):=by
 have hl:=h.1;refine⟨by simp;omega,λj b=>?_⟩;rw[Am,List.length_singleton]at b;by_cases c:j<qs.length
 . obtain⟨l,m,n,k,d,e,f,g,i⟩:=h.2 j c;grind[Sd]
 . have a:j=qs.length:=O
   subst a;refine⟨x,y,z,u,?_,?_,?_,?_,?_⟩
   . grind
   . grind
   . grind
   . grind
   . rw[Sd,BF rfl];exact hq
theorem Dm.cells{W:G}(h:Dm r W b qs):∃cs,Xd r W cs qs/\∀j u,cs[j]?=some u->W.cell? ⟨b,j,none⟩=some u:=by
 obtain⟨ar,l,a⟩:=h;have m:qs.length*4<=ar.size:=by
  cases hq:qs.length with
  |zero=>omega
  |succ n=>
   obtain⟨x,y,z,u,_,_,_,c,_⟩:=a n O;grind
 refine⟨ar.toList.take (qs.length*4),⟨DH,λj f=>?_⟩,λj u e=>?_⟩
 . obtain⟨x,y,z,u,g,i,k,c,d⟩:=a j f;refine⟨x,y,z,u,?_,?_,?_,?_,d⟩
   . grind
   . grind
   . grind
   grind
 grind[cell_of]
theorem RowK.owns{W:G}{base:Nat}{v:E}{n:Nat}(h:W.ownsRow base (Dn r) 4 v n cs)(e:Xd r W cs qs)(hl:qs.length<=1099511627776):RowK r W v qs/\n=qs.length/\(v=C none 0 0\/∃g cap,v=C (some ⟨g,0,none⟩) n cap/\base<=g/\Dm r W g qs):=by
 obtain⟨q,f⟩:=h;have hn:n=qs.length:=by have:=e.1;omega
 subst hn;rcases f with⟨rfl,p⟩|⟨g,cap,cur,rfl,k,hg,hle,m,s,o⟩
 . grind[RowK.nil]
 . have hE:Dm r W g qs:=by
    refine⟨cur,hg,λj l=>?_⟩;obtain⟨x,y,z,u,a,b,c,d,i⟩:=e.2 j l;rw[<-o]at a b c d;rw[CS O,Fq]at a b c d;exact⟨x,y,z,u,a,b,c,d,i⟩
   refine⟨⟨_,cap,rfl,hle,by unfold maxLen at m;omega,hl,Or.inr ⟨g,rfl,hE⟩⟩,rfl,Or.inr ⟨g,cap,rfl,k,hE⟩⟩
def ArI(W:G)(b:Nat)(xs:List Nat):Prop:=∃a:List E,W.heap[b]?=some (L (cellsOf .i64 xs++a).toArray 3 (0,0))
theorem ArI.lt{W:G}(h:ArI W b xs):b<W.heap.size:=by obtain⟨_,h⟩:=h;grind
theorem ArI.cell{W:G}{b:Nat}{xs:List Nat}(h:ArI W b xs){j:Nat}(a:j<xs.length):W.cell? ⟨b,j,none⟩=some (.int .i64 (xs[j]?.getD 0:Nat)):=by
 obtain⟨c,h⟩:=h;grind[cellsOf,World.cell?]
def ArI.row{W:G}(h:ArI W b xs)(a len cap:Nat)(f:a+len<=xs.length)(g:len<=cap)(d:cap<=9223372036854775807)(i:len<=1099511627776):Row .i64 W (C (some ⟨b,a,none⟩) len cap) ((xs.drop a).take len):=by
 have e:((xs.drop a).take len).length=len:=by rw[Ap,Cb];omega
 refine⟨_,cap,by rw[e],O,d,O,Or.inr ⟨b,a,rfl,(by obtain⟨k,h⟩:=h;exact⟨_,_,h⟩),λj c=>?_⟩⟩;rw[e]at c;rw[h.cell O,CS c,Fk]
end
namespace M3
section
variable {P:Program} {ops:Array Oper} {ds:List Dat} {ws:List Nat} {J:List Bool->List Value->World->Prop} {f:Nat->Value} {V:World}
def yb:E->Option Bool
 |H b=>some b
 |_=>none
def Jx{b:Bool}{P Q a Q':Prop}(h:if b=true then P else Q)(hp:P->a)(hq:Q->Q'):if b=true then a else Q':=by
 cases b
 . exact hq h
 . exact hp h
def Xs{o:Oper}{mk:(Nat->E)->Act}{dp:List Nat}{x:E}(k:Nat)(b:Bool)(h:Av ds dp V f)(a:Region.wanted o (yielded ops (mk f).tmps)=(yb (f k)==some b):=by kernel_rfl)(e:ds.getD k .any=.eq x:=by rfl)(hk:k∈dp:=by decide):Region.wanted o (yielded ops (mk f).tmps)=(yb x==some b):=by
 rw[a,h.e k e hk]
end
end M3
def jG:∀k:Fin 201,k.val≠0->k.val/2^(Lib.bitLen k.val-1)=1/\1<=Lib.bitLen k.val/\Lib.bitLen k.val<=8:=EM
def VC{m e la:Nat}(h:la=(Jh Y m).length)(c:0<e):(Jh Y (m^e)).length<=la*e:=by
 have a:=Y4 (JA Jg m);rw[Jz Jg,<-h]at a;have b:m^e<Y^(la*e):=by
  rw[Fu];exact Nat.pow_lt_pow_left a O
 exact Yr Jg b
theorem jH(a:Option Addr)(la ca:Nat)(c:List Nat)(w:G)(s:Row .u64 w (C a la ca) c):
 M F 178 #[C a la ca] w λe w'=>∃k o,e=.returned (C k la o)/\Row .u64 w' (C k la o) c/\(∀p,k=some p->0<la->w.heap.size<=p.block/\p.block<w'.heap.size)/\Bl w w':=by
 obtain⟨hl,x,y,hk,r⟩:=JK s;rcases AN la with d|d
 . subst d;obtain rfl:c=[]:=AH hl.symm;cases a with
   |none=>
    refine(Tl 0 ca w).mono ?_;rintro e w' ⟨rfl,rfl⟩;exact⟨none,0,rfl,⟨none,0,rfl,Aa _,O,O,Or.inl rfl⟩,λp e _=>(by cases e),BB _ _⟩
   |some p=>
    refine(L0 p ca [] w DI λj n=>by simp at n).mono ?_;rintro e w' ⟨t,rfl,b,i⟩;rcases b.2 with⟨ev,_⟩|⟨g,cap,cur,ev,_,_,m,f,_⟩
    . subst ev;exact⟨none,0,rfl,⟨none,0,rfl,Aa _,O,O,Or.inl rfl⟩,λp e _=>(by cases e),i⟩
    . subst ev;exact⟨_,cap,rfl,⟨_,cap,rfl,As _,f,DI,Or.inl rfl⟩,λp _ h=>by simp at h,i⟩
 . obtain⟨ab,q,rfl,_,_⟩:=r 0 d;have l:=L0 ⟨ab,q,none⟩ ca c w O (λj n=>by
    grind[Yk])
   rw[<-hl]at l;refine l.mono ?_;rintro e w' ⟨t,rfl,b,i⟩;rcases b.2 with⟨_,ev⟩|⟨g,cap,cur,ev,u,v,m,f,_⟩
   . omega
   . subst ev;have hA:=DS.owns b;have z:=hA.row 0 la cap O m f hk;grind
def and_one:∀f:Fin 201,bits BinOp.and IntKind.u64 (f.val:Int) 1=((f.val%2:Nat):Int):=EM
def jI(a:Option Addr)(la ca m k:Nat)(w:G)(ra:Row .u64 w (C a la ca) (Jh Y m))(gq:1<=k)(gr:k<=200)(gy:la*k<=400000000000):
 M F 96 #[C a la ca,.int .u64 (k:Nat)] w λe w'=>∃u,e=.returned u/\UN w' u (m^k)/\Bl w w':=by
 obtain⟨bz,gn,ia,gw,Uc⟩:=JK ra;have Qy:=Z (jH a la ca _ w ra);have Ua:=Z ra;have Ud:IntKind.i64.wrap (k:Int)=(k:Int):=by simp[IntKind.wrap,IntKind.signed,IntKind.bits];omega
 obtain⟨L,bj⟩:∃L,L=la*k:=⟨_,rfl⟩;have hL:L<=400000000000:=O
 have Uk:IntKind.i64.wrap ((la:Int)*(k:Int))=(L:Int):=by
  have e:(la:Int)*(k:Int)=((la*k:Nat):Int):=by rw[Int.natCast_mul]
  rw[e,<-bj];simp[IntKind.wrap,IntKind.signed,IntKind.bits];omega
 have Qv:=Z bj;have Qz:=Z bz;clear Uc bz ra bj;go_enter Tryz.func96,Tryz.ntmps96
 go_upto_region 2 with(go_at_call 178;refine Qy.o.mono ?_;rintro e w2 ⟨W,zc,rfl,hz,fi,bm⟩)
 refine Xp Dh [[],[0],[],[2],[1,3],[4,4],[],[6],[],[8],[7,9],[10,10],[5,0,1,2,3,4,5],[11,12,0,1,2,3,4,5,6,7,8,9,10,11,12]] (by kernel_rfl) DK
  (λD a0 V=>∃c d:Nat,∃t6 t7 ae ah ai aj am an ap aq ay az bf bg:E,a0={ tmps:=#[C a la ca,.int .u64 (k:Nat),I,I,C none 0 0,C W la zc,t6,t7,I,C a la ca,C W la zc,ae,ah,ai,aj,am,an,ap,aq,ay,az,bf,bg,I,I,I,I,I,I,I,I,I,I,I,I,I,I,I,I,I,I,I,I,I,I,I,I,I,I],defers:=[] }/\
   Hid (D 0=true->ae=C a la ca)/\Hid (D 1=true->ah=.int .i64 (la:Nat))/\Hid (D 2=true->ai=.int .u64 (k:Nat))/\Hid (D 3=true->aj=.int .i64 (k:Nat))/\Hid (D 4=true->am=.int .i64 (L:Nat))/\Hid (D 5=true->an=C (some ⟨c,0,none⟩) L L)/\Hid (D 6=true->ap=C a la ca)/\Hid (D 7=true->aq=.int .i64 (la:Nat))/\Hid (D 8=true->ay=.int .u64 (k:Nat))/\Hid (D 9=true->az=.int .i64 (k:Nat))/\Hid (D 10=true->bf=.int .i64 (L:Nat))/\Hid (D 11=true->bg=C (some ⟨d,0,none⟩) L L)/\Hid (D 12=true->t6=C (some ⟨c,0,none⟩) L L)/\Hid (D 13=true->t7=C (some ⟨d,0,none⟩) L L)/\
   (D 5=true->DS V c (List.replicate L 0)/\w2.heap.size<=c)/\(D 11=true->DS V d (List.replicate L 0)/\w2.heap.size<=d)/\(D 5=true->D 11=true->c≠d)/\Bl w2 V)
  ⟨0,0,_,_,_,_,_,_,_,_,_,_,_,_,_,_,rfl,Z Dg,Z Dg,Z Dg,Z Dg,Z Dg,Z Dg,Z Dg,Z Dg,Z Dg,Z Dg,Z Dg,Z Dg,Z Dg,Z Dg,DI,DI,DI,(BB _ w2).drew⟩ ?step ?fin
 case step=>
  rintro D a0 V i ds n bu b bi ⟨c,d,t6,t7,ae,ah,ai,aj,am,an,ap,aq,ay,az,bf,bg,rfl,o,q,t,v,y,z,A,B,K,P,r,s,Q,S,q1,q2,q3,hq⟩;have Ug:i<14:=(AA.1 bu).1;obtain rfl|rfl|rfl|rfl|rfl|rfl|rfl|rfl|rfl|rfl|rfl|rfl|rfl|rfl:=Lo i O
  all_goals
   simp only[A2,AZ,AR]at bu;subst bu;clear Ug
  . clear b n;refine Za ?_;exact⟨c,d,_,_,_,_,_,_,_,_,_,_,_,_,_,_,rfl,Z λ_=>rfl,q,t,v,y,z,A,B,K,P,r,s,Q,S,q1,q2,q3,hq⟩
  . obtain rfl:=o.o (b 0 DI);clear b n;refine Za ?_;exact⟨c,d,_,_,_,_,_,_,_,_,_,_,_,_,_,_,rfl,Z λ_=>rfl,Z λ_=>rfl,t,v,y,z,A,B,K,P,r,s,Q,S,q1,q2,q3,hq⟩
  . clear b n;refine Za ?_;exact⟨c,d,_,_,_,_,_,_,_,_,_,_,_,_,_,_,rfl,o,q,Z λ_=>rfl,v,y,z,A,B,K,P,r,s,Q,S,q1,q2,q3,hq⟩
  . obtain rfl:=t.o (b 2 DI);clear b n;refine Za ?_;exact⟨c,d,_,_,_,_,_,_,_,_,_,_,_,_,_,_,rfl,o,q,Z λ_=>rfl,Z λ_=>rfl,y,z,A,B,K,P,r,s,Q,S,q1,q2,q3,hq⟩
  . obtain rfl:=q.o (b 1 DI);obtain rfl:=v.o (b 3 DI);clear b n;refine Za ?_;exact⟨c,d,_,_,_,_,_,_,_,_,_,_,_,_,_,_,rfl,o,Z λ_=>rfl,t,Z λ_=>rfl,Z λ_=>rfl,z,A,B,K,P,r,s,Q,S,q1,q2,q3,hq⟩
  . obtain rfl:=y.o (b 4 DI);have Qo:D 12=false:=Du n bi;have Qb:D 13=false:=Du n bi;have Ui:=I2 L O V;clear b n;refine Za ?_;exact⟨V.heap.size,d,_,_,_,_,_,_,_,_,_,_,_,_,_,_,rfl,o,q,t,v,Z λ_=>rfl,Z λ_=>rfl,A,B,K,P,r,s,Z (λh=>by simp[Qo]at h),Z (λh=>by simp[Qb]at h),λ_=>⟨DS.made (BD V _),hq.size⟩,λh=>⟨(q2 h).1.alloc _,(q2 h).2⟩,λ_ h e=>by have:=(q2 h).1.lt;omega,hq.alloc hq.size _⟩
  . clear b n;refine Za ?_;exact⟨c,d,_,_,_,_,_,_,_,_,_,_,_,_,_,_,rfl,o,q,t,v,y,z,Z λ_=>rfl,B,K,P,r,s,Q,S,q1,q2,q3,hq⟩
  . obtain rfl:=A.o (b 6 DI);clear b n;refine Za ?_;exact⟨c,d,_,_,_,_,_,_,_,_,_,_,_,_,_,_,rfl,o,q,t,v,y,z,Z λ_=>rfl,Z λ_=>rfl,K,P,r,s,Q,S,q1,q2,q3,hq⟩
  . clear b n;refine Za ?_;exact⟨c,d,_,_,_,_,_,_,_,_,_,_,_,_,_,_,rfl,o,q,t,v,y,z,A,B,Z λ_=>rfl,P,r,s,Q,S,q1,q2,q3,hq⟩
  . obtain rfl:=K.o (b 8 DI);clear b n;refine Za ?_;exact⟨c,d,_,_,_,_,_,_,_,_,_,_,_,_,_,_,rfl,o,q,t,v,y,z,A,B,Z λ_=>rfl,Z λ_=>rfl,r,s,Q,S,q1,q2,q3,hq⟩
  . obtain rfl:=B.o (b 7 DI);obtain rfl:=P.o (b 9 DI);clear b n;refine Za ?_;exact⟨c,d,_,_,_,_,_,_,_,_,_,_,_,_,_,_,rfl,o,q,t,v,y,z,A,Z λ_=>rfl,K,Z λ_=>rfl,Z λ_=>rfl,s,Q,S,q1,q2,q3,hq⟩
  . obtain rfl:=r.o (b 10 DI);have Qb:D 13=false:=Du n bi;have Ui:=I2 L O V;clear b n;refine Za ?_;exact⟨c,V.heap.size,_,_,_,_,_,_,_,_,_,_,_,_,_,_,rfl,o,q,t,v,y,z,A,B,K,P,Z λ_=>rfl,Z λ_=>rfl,Q,Z (λh=>by simp[Qb]at h),λh=>⟨(q1 h).1.alloc _,(q1 h).2⟩,λ_=>⟨DS.made (BD V _),hq.size⟩,λh _ e=>by have:=(q1 h).1.lt;omega,hq.alloc hq.size _⟩
  . obtain rfl:=z.o (b 5 DI);clear b n;refine Za ?_;exact⟨c,d,_,_,_,_,_,_,_,_,_,_,_,_,_,_,rfl,o,q,t,v,y,Z λ_=>rfl,A,B,K,P,r,s,Z λ_=>rfl,S,q1,q2,q3,hq⟩
  . obtain rfl:=s.o (b 11 DI);clear b n;refine Za ?_;exact⟨c,d,_,_,_,_,_,_,_,_,_,_,_,_,_,_,rfl,o,q,t,v,y,z,A,B,K,P,r,Z λ_=>rfl,Q,Z λ_=>rfl,q1,q2,q3,hq⟩
 rintro D a0 V g ⟨c,d,t6,t7,ae,ah,ai,aj,am,an,ap,aq,ay,az,bf,bg,rfl,o,q,t,v,y,z,A,B,K,P,r,s,Q,S,q1,q2,q3,hq⟩;obtain rfl:=o.o (g 0 DK);obtain rfl:=q.o (g 1 DK);obtain rfl:=t.o (g 2 DK);obtain rfl:=v.o (g 3 DK);obtain rfl:=y.o (g 4 DK);obtain rfl:=z.o (g 5 DK);obtain rfl:=A.o (g 6 DK);obtain rfl:=B.o (g 7 DK);obtain rfl:=K.o (g 8 DK);obtain rfl:=P.o (g 9 DK);obtain rfl:=r.o (g 10 DK);obtain rfl:=s.o (g 11 DK);obtain rfl:=Q.o (g 12 DK);obtain rfl:=S.o (g 13 DK);obtain⟨hA1,di⟩:=q1 (g 5 DK);obtain⟨hA2,dj⟩:=q2 (g 11 DK);have Qd:=q3 (g 5 DK) (g 11 DK);clear q1 q2 q3 g o q t v y z A B K P r s Q S;obtain⟨nb,ce⟩:=ex (Lib.bitLen k);have Qe:=jG ⟨k,O⟩ Di;simp only[ce]at Qe;obtain⟨ed,ib,ic⟩:=Qe;have Qs:=Z (λ(U:G)=>show M F 124 #[.int .u64 (k:Nat)] U λe w'=>e=.returned (.int .i64 (nb:Nat))/\w'=U by
  have h:=Tryz.bits_Len (k:Int) U O O;rw[CX,ce]at h;exact h)
 have Qq:=Z ed;clear ce ed Uk Ud;have Qx:Bl w V:=Bt bm hq
 have Qj:=Row.below hz hq;have Qw:Jh Y m=Jh Y (m^(k/2^(nb-1))):=by rw[Qq.o,Nat.pow_one]
 rw[Qw]at Qj;clear Qw;go_wp2_with(go_at_call 124;refine(Qs.o _).mono ?_;rintro e w4 ⟨rfl,rfl⟩)
 go_loopw [5,6,7,8] (λzv rv sv iv wr=>∃(j:Nat) (W:Option Addr) (zl zc x1 x2:Nat) (d1 d2:List Nat),iv=.int .i64 ((j:Int)-1)/\j<=8/\zv=C W zl zc/\rv=C (some ⟨x1,0,none⟩) L L/\sv=C (some ⟨x2,0,none⟩) L L/\x1≠x2/\w2.heap.size<=x1/\w2.heap.size<=x2/\DS wr x1 d1/\DS wr x2 d2/\DO Y d1/\DO Y d2/\d1.length=L/\d2.length=L/\Hid (Row .u64 wr (C W zl zc) (Jh Y (m^(k/2^j))))/\Hid (∀p,W=some p->0<zl->p.block≠x1)/\Bl w wr/\Hid (1<=k/2^j))
  (λ_ _ _ iv _=>(intOf iv+1).toNat)
 case atStart=>exact⟨nb-1,W,la,zc,c,d,_,_,by congr 1;omega,O,rfl,rfl,rfl,Qd,di,dj,hA1,hA2,λx T=>by rw[CT T];unfold Y;omega,λx T=>by rw[CT T];unfold Y;omega,AK,AK,Qj,λp e h0=>by have:=(fi p e h0).2;omega,Qx,by show 1<=_;rw[Qq.o];omega⟩
 case round=>
  clear hA1 hA2 Qj Qx hq hz fi di dj Qd Qs Qq Qy;obtain⟨j,W,zl,zc,x1,x2,d1,d2,rfl,hj,rfl,rfl,rfl,T,fg,fh,hA1,hA2,fo,dh,bz,gi,HZ,ck,hB,HE⟩:=hrel;by_cases dz:j=0
  . subst dz;go_wp2;go_ret;have h1:=HZ.o;rw[Nat.pow_zero,Nat.div_one]at h1;exact⟨_,rfl,h1,hB⟩
  . obtain⟨i,rfl⟩:∃i,j=i+1:=⟨j-1,O⟩;have e1:((i+1:Nat):Int)-1=(i:Nat):=O
    rw[e1];clear dz e1;have Ql:=(JK HZ.o).1;have Qk:=VC Qz.o (e:=k/2^(i+1)) HE.o;have Qr:k/2^(i+1)=k/2^i/2:=by rw[Ck,Nat.div_div_eq_div_mul]
    have Ub:=Fb k (2^i);rw[Qr]at HZ HE Ql Qk;obtain⟨f,hf⟩:=ex (k/2^i);rw[hf]at HZ HE Ql Qk Ub;have Qt:2*(f/2)<=k:=O
    have Uh:zl+zl<=L:=by
     have h1:=Ai la Qt;rw[Qv.o];have h2:la*(2*(f/2))=2*(la*(f/2)):=by rw[Nat.mul_left_comm]
     omega
    have HP:=Z (Py x1 L L d1 W zl zc W zl zc _ _ wr hA1 fo O Uh O O HZ.o HZ.o ck.o ck.o);clear Ql Qk Qt Qr;go_upto_region 8 with(go_at_call 179;refine HP.o.mono ?_;rintro e w5 ⟨u,rfl,⟨hu,dt⟩,bn,cn,co,df,gu⟩;obtain⟨ua,uc,rfl⟩:=UN.form hu)
    obtain⟨ul,cj⟩:=ex ((Jh Y (m^(f/2)*m^(f/2))).length);rw[cj]at hu bn ⊢;have Ue:=Z cj;clear cj;have Qg:((k:Int)/2^i)=(f:Int):=by rw[<-hf,C6,Int.natCast_pow];rfl
    have Qa:=and_one ⟨f,O⟩;simp only at Qa;have Qm:Bl w w5:=below_grown hB dt (by have:=bm.size;omega);have de:=hA2.kept dt λe=>T (by cases e;rfl);have Qu:=Z (show ∀p,ua=some p->0<ul->p.block≠x2 from λp e h0=>by
     rcases bn with X|⟨l,X⟩
     . cases X;cases e
     . cases X;cases e;exact T)
    have Qi:=Z (show m^(f/2)*m^(f/2)=m^(2*(f/2))by rw[<-CQ,<-Nat.two_mul]);have Qc:ul<=la*(2*(f/2)):=by
     have h1:=VC Qz.o (e:=2*(f/2)) (by have:=HE.o;omega);rw[<-Qi.o,Ue.o]at h1;exact h1
    have Qn:=Z (Row.below Ua.o Qm);have Qf:=Z hf;have Qh:w.heap.size<=x2:=by have:=bm.size;omega
    have Uc:=HE.o;clear bn hf;by_cases gj:f%2=1
    . have Qp:ul+la<=L:=by
       have X:2*(f/2)+1=f:=O
       have h1:=Ai la Ub;rw[Qv.o];have h3:la*f=la*(2*(f/2))+la:=by
        conv=>lhs;rw[<-X]
        rw[FL]
       omega
      have Qe:(bits .and .u64 ((k:Int)/2^i) 1==1)=true:=by rw[Qg,Qa,gj];rfl
      have Uj:=Z (Py x2 L L d2 ua ul uc a la ca _ m w5 de dh O Qp O O hu Qn.o Qu.o λp e h0=>by have:=I3 Ua.o e h0;omega);clear Qa Qc Qg;go_wp2_with(go_at_call 179;refine Uj.o.mono ?_;rintro e w6 ⟨u6,rfl,⟨ei,dx⟩,gh,fm,hA26,fx,gv⟩;obtain⟨ya,yc,rfl⟩:=UN.form ei)
      refine⟨⟨i,ya,_,yc,x1,x2,cn,fm,rfl,O,rfl,rfl,rfl,T,fg,fh,co.kept dx λe=>T (Co e),hA26,df,fx,O,O,?_,?_,below_grown Qm dx Qh,?_⟩,by simp[intOf]⟩
      . show Row .u64 w6 _ _;have e3:m^(k/2^i)=m^(f/2)*m^(f/2)*m:=by
         rw[Qf.o,Qi.o,<-Ck];congr 1;omega
        rw[e3];exact ei
      . show ∀p,ya=some p->_->p.block≠x1;intro p e h0;rcases gh with X|⟨l,X⟩
        . injection X with e3
          rw[e3]at e;cases e
        . injection X with e3
          rw[e3]at e;cases e;exact λh=>T h.symm
      . show 1<=k/2^i;rw[Qf.o];omega
    . have Uf:f%2=0:=O
      have Qe:(bits .and .u64 ((k:Int)/2^i) 1==1)=false:=by rw[Qg,Qa,Uf];rfl
      clear Qa Qc Qg;go_wp2;refine⟨⟨i,ua,ul,uc,x2,x1,d2,cn,rfl,O,rfl,rfl,rfl,λe=>T e.symm,fh,fg,de,co,dh,df,gi,O,?_,Qu,Qm,?_⟩,by simp[intOf]⟩
      . show Row .u64 w5 _ _;have e3:m^(k/2^i)=m^(f/2)*m^(f/2):=by
         rw[Qf.o,Qi.o];congr 1;omega
        rw[e3];exact hu
      . show 1<=k/2^i;rw[Qf.o];omega
def jJ(x:Int)(k:Nat):(if(decide (x<0)&&decide (k%2=1))=true then -((x.natAbs^k:Nat):Int)else((x.natAbs^k:Nat):Int))=x^k:=by
 by_cases a:x<0
 . obtain⟨n,rfl⟩:∃n:Nat,x=-(n:Int):=⟨x.natAbs,O⟩;rw[FJ,Az];by_cases hk:k%2=1
   . simp only[a,hk,decide_true,Bool.and_self,if_true]
     have:(-(n:Int))^k=-((n:Int)^k):=by
      obtain⟨j,rfl⟩:∃j,k=2*j+1:=⟨k/2,O⟩;rw[CJ,CJ,Int.pow_mul,Int.pow_mul,show(-(n:Int))^2=(n:Int)^2 from by rw[CJ,CJ,CJ,CJ,FK];simp;exact Int.neg_mul_neg _ _];exact Int.mul_neg _ _
     rw[this,Int.natCast_pow]
   . simp only[a,hk,decide_true,decide_false,Bool.and_false,CR,if_false]
     have:(-(n:Int))^k=(n:Int)^k:=by
      obtain⟨j,rfl⟩:∃j,k=2*j:=⟨k/2,O⟩;rw[Int.pow_mul,Int.pow_mul,show(-(n:Int))^2=(n:Int)^2 from by rw[CJ,CJ,CJ,CJ,FK];simp;exact Int.neg_mul_neg _ _]
     rw[this,Int.natCast_pow]
 . simp only[a,decide_false,Bool.false_and,CR,if_false];rw[Int.natCast_pow];congr 1;omega
def jK(s:Bool)(a:Option Addr)(la ca:Nat)(w:G):
 M F 36 #[N #[H s,C a la ca],.int .i64 0] w λe w'=>∃u,e=.returned (.tuple #[u,H true])/\Jj w' u 1/\Bl w w':=by
 have b:=JC.new (w.alloc (L #[H s,C a la ca] 39)) 39 (H false) (C none 0 0);have i:=L3 w (L #[H s,C a la ca] 39) (L #[H false,C none 0 0] 39);simp only[Ax]at b;go_enter Tryz.func36,Tryz.ntmps36
 go_wp2_with(go_at_call 35;refine(FM 1 O O _).mono ?_;rintro e m ⟨u,rfl,f,c⟩;obtain⟨j,l,k,rfl⟩:=f.form;obtain⟨t,d⟩:=ex (decide ((1:Int)<0));rw[d]at f;rw[d];clear d;obtain⟨r0,r1⟩:=(b.below c).cp;obtain⟨f0,f1⟩:=(b.below c).fp)
 have hq:=Bt i c
 have g:=f.box (b.below c) rfl rfl (x0:=H t) (x1:=C j l k);exact BA (by simp[results,Tryz.results36,go_sem,r0,r1]) rfl ⟨_,rfl,g,(hq.setCell (p:=⟨_,0,none⟩) Di _).setCell (p:=⟨_,1,none⟩) Di _⟩
def jL(t:E)(x:Int)(k:Nat)(w:G)(D:Jj w t x)(Q:1<=k)(S:k<=200)(q:(Jh Y x.natAbs).length*k<=400000000000):
 M F 36 #[t,.int .i64 (k:Nat)] w λe w'=>∃u,e=.returned (.tuple #[u,H true])/\Jj w' u (x^k)/\Bl w w':=by
 obtain⟨a,la,ca,B,c⟩:=D;cases B;have m:=c.len;rw[<-m]at q;have d:=jJ x k;obtain⟨s,hs⟩:=ex (decide (x<0));rw[hs]at d ⊢;obtain⟨W0,g⟩:=ex ((w.alloc (L #[H s,C a la ca] 39)).alloc (L #[H false,C none 0 0] 39));have l:Bl w W0:=by rw[<-g];exact L3 w _ _
 have b0:JC W0 w.heap.size 39 (H s) (C a la ca):=by rw[<-g];exact(JC.new w _ _ _).alloc _
 have f:JC W0 (w.heap.size+1) 39 (H false) (C none 0 0):=by
  have h:=JC.new (w.alloc (L #[H s,C a la ca] 39)) 39 (H false) (C none 0 0);rw[Ax,g]at h;exact h
 have z:=Z (jI a la ca _ k W0 (UN.below c l) Q S q);have v:=Z (λ(V:G) (u:E) (b:Bool) (o:b=(s&&decide (k%2=1))) (c:UN V u (x.natAbs^k))=>show M F 94 #[H b,u] V λe w'=>∃u,e=.returned u/\Jj w' u (x^k)/\Bl V w' by
  have n:=Kb b u _ V c;rw[o,d]at n;rw[o];exact n)
 obtain⟨X,k1⟩:=b0.cp;have n1:¬((k:Int)<0):=O
 have n2:¬((200:Int)<(k:Int)):=O
 clear c d hs m;cases s<;>rcases(show(k:Int)%2=1\/(k:Int)%2=0 by omega)with T|T
 all_goals
  go_enter Tryz.func36,Tryz.ntmps36
  go_wp2_with(first
   |(go_at_call 96;refine z.o.mono ?_;rintro e w1 ⟨u1,rfl,r,K⟩;obtain⟨na,nc,rfl⟩:=UN.form r)
   |(go_at_call 94;refine(v.o _ _ _ (by simp;try omega) r).mono ?_;rintro e w2 ⟨u2,rfl,j,P⟩;obtain⟨W,sl,sc,rfl⟩:=j.form;obtain⟨U,i⟩:=ex (decide (x^k<0));rw[i]at j;rw[i];clear i;have hq:=Bt K P;obtain⟨r0,r1⟩:=(f.below hq).cp;obtain⟨f0,f1⟩:=(f.below hq).fp))
  have A:=Bt l hq;have y:=j.box (f.below hq) rfl rfl (x0:=H U) (x1:=C W sl sc);exact BA (by simp[results,Tryz.results36,go_sem,r0,r1]) rfl ⟨_,rfl,y,(A.setCell (p:=⟨_,0,none⟩) Di _).setCell (p:=⟨_,1,none⟩) Di _⟩

