import Derived.Test.YtcahodpphikgnaaGreatDoorT21
import Derived.Test.YtcahodpphikgnaaGreatDoorT14
import Derived.Test.YtcahodpphikgnaaGreatDoorT15
import Derived.Test.YtcahodpphikgnaaGreatDoorT05
import Derived.Test.YtcahodpphikgnaaGreatDoorT16
import Derived.Test.YtcahodpphikgnaaGreatDoorT17
set_option linter.all false
open Go.Value renaming slice->C,bool->E,agg->L,int->S
open Go renaming World->G,Value->H,undef->M,Calls->N
open Go.Proofs.Tryz renaming prog->F
open Go.Obj renaming cells->I
open Go.IntKind renaming i64->R
set_option maxRecDepth 99999
set_option maxHeartbeats 0
namespace Go.Proofs.YtcahodpphikgnaaGreatDoor
open List renaming replicate->Nl
open Proofs.Tryz
open Go.RowKit Go.Shelf
attribute [local go_sem] Oper.semAt_some
def BZ:=@of_decide_eq_true
def LX(a:Nj)(cap:Nat)(w:G):
 N F 13 #[L #[E false,C a 0 cap]] w λe b=>e=.returned (.string ⟨#[48]⟩)/\Bl w b:=by
 have b0:=Jd.new w 25 (E false) (C a 0 cap);have c:=b0.c1;go_enter func13,ntmps13
 go_wp2;go_ret;exact⟨rfl,Ba w _⟩
def LY(s:Bool)(a:Nj)(l cap:Nat)(T:ByteArray)(w:G)(hl:0<l)(i:T.size<=100000000000000)
(c:∀V,Bl w V->N F 48 #[C a l cap] V λe b=>e=.returned (.string T)/\Bl V b):
 N F 13 #[L #[E s,C a l cap]] w λe b=>e=.returned (.string (if s then(⟨#[45]⟩:ByteArray)++T else T))/\Bl w b:=by
 have b0:=Jd.new w 25 (E s) (C a l cap);have d:Bl w (w.alloc (I #[E s,C a l cap] 25)):=Ba w _;obtain⟨j,k⟩:=b0.cp;have f:=Z c;clear c;cases s;all_goals
  go_enter func13,ntmps13
  go_wp2_with(go_at_call 48;refine(f.o _ d).mono ?_;rintro e m ⟨rfl,g⟩)
  go_ret;exact⟨Br,Bt d g⟩
theorem ES(n:Nat):(J6 n).length<=20*(Jb O n).length+1:=by
 unfold J6;split
 . simp
 . rw[Fq];have a:n<O^(Jb O n).length:=by
    grind[JJ,Jf,Jc,Je]
   have b:O^(Jb O n).length<=10^(20*(Jb O n).length):=by
    rw[Nat.pow_mul];exact Ci uo _
   have:=Jt (B:=10) Y (Ap a b);omega
theorem Xd(v:H)(z:Int)(w:G)(h:Jg w v z)(j:Lib.TabIs F w "internal/strconv.uint64pow10" .u64 Lib.pow10Tab):
 N F 13 #[v] w λe f=>e=.returned (.string ⟨(JZ z).toArray⟩)/\Bl w f:=by
 obtain⟨a,l,cap,rfl,b⟩:=h;have hl:=b.len;by_cases c:z.natAbs=0
 . have k:z=0:=Y
   subst k;have i:l=0:=by rw[hl];simp[Jn]
   subst i;exact LX a cap w
 . have g:0<l:=by rw[hl];exact Xs.2 c
   refine(LY _ a l cap ⟨(J6 z.natAbs).toArray⟩ w g (by
    have m:=ES z.natAbs;have n:=(Jk b).2.2.2.1;show(J6 z.natAbs).toArray.size<=_;grind) λV d=>LW a l cap z.natAbs V (Row.below b d) c (JL j d)).mono ?_
   rintro e f ⟨rfl,o⟩;grind[JZ,Ds]
def Jg.form{W:G}{v:H}{z:Int}(h:Jg W v z):∃a l cap,v=L #[E (decide (z<0)),C a l cap]:=by
 obtain⟨a,l,cap,e,_⟩:=h;exact⟨a,l,cap,e⟩
def Jg.alloc{W:G}{v:H}{z:Int}(h:Jg W v z)(o:Obj):Jg (W.alloc o) v z:=h.below (Ba W o)
def Jg.box{W:G}{b:Nat}{t:TypeId}{u0 u1 x0 x1 v:H}{z:Int}(h:Jg W v z)(q:Jd W b t u0 u1)(d:JK u0=true)(f:JK u1=true):Jg ((W.setCell ⟨b,0,none⟩ x0).setCell ⟨b,1,none⟩ x1) v z:=by
 obtain⟨a,l,cap,e,c⟩:=h;exact⟨a,l,cap,e,Row.set (Row.set c q.c0 d _) (u0:=u1) (q.set0 x0).c1 f _⟩
def JO(W:G)(B:Nat)(t:TypeId)(x y z u:H):Prop:=W.heap[B]?=some (I #[x,y,z,u] t (0,0))
section
variable {W W':World} {B:Nat} {t:TypeId} {x y z u:Value}
def JO.lt(h:JO W B t x y z u):B<W.heap.size:=(Ac.1 h).1
def JO.c0(h:JO W B t x y z u):W.cell? ⟨B,0,none⟩=some x:=by simp[World.cell?,show W.heap[B]?=_ from h]
def JO.c1(h:JO W B t x y z u):W.cell? ⟨B,1,none⟩=some y:=by simp[World.cell?,show W.heap[B]?=_ from h]
def JO.cp(h:JO W B t x y z u):type_of% (And.intro h.c0 h.c1):=⟨h.c0,h.c1⟩
def JO.c2(h:JO W B t x y z u):W.cell? ⟨B,2,none⟩=some z:=by simp[World.cell?,show W.heap[B]?=_ from h]
def JO.c3(h:JO W B t x y z u):W.cell? ⟨B,3,none⟩=some u:=by simp[World.cell?,show W.heap[B]?=_ from h]
def JO.cq(h:JO W B t x y z u):type_of% (And.intro h.c0 (And.intro h.c1 (And.intro h.c2 h.c3))):=⟨h.c0,h.c1,h.c2,h.c3⟩
def JO.f0(h:JO W B t x y z u):W.frozen? ⟨B,0,none⟩=false:=by simp[World.frozen?,show W.heap[B]?=_ from h]
def JO.f1(h:JO W B t x y z u):W.frozen? ⟨B,1,none⟩=false:=by simp[World.frozen?,show W.heap[B]?=_ from h]
def JO.fp(h:JO W B t x y z u):type_of% (And.intro h.f0 h.f1):=⟨h.f0,h.f1⟩
def JO.f2(h:JO W B t x y z u):W.frozen? ⟨B,2,none⟩=false:=by simp[World.frozen?,show W.heap[B]?=_ from h]
def JO.f3(h:JO W B t x y z u):W.frozen? ⟨B,3,none⟩=false:=by simp[World.frozen?,show W.heap[B]?=_ from h]
def JO.fq(h:JO W B t x y z u):type_of% (And.intro h.f0 (And.intro h.f1 (And.intro h.f2 h.f3))):=⟨h.f0,h.f1,h.f2,h.f3⟩
def JO.new(W:G)(t:TypeId)(x y z u:H):JO (W.alloc (I #[x,y,z,u] t)) W.heap.size t x y z u:=BD W _
def JO.below(h:JO W B t x y z u)(a:Bl W W'):JO W' B t x y z u:=(a.block B h.lt).trans h
def JO.alloc(h:JO W B t x y z u)(o:Obj):JO (W.alloc o) B t x y z u:=h.below (Ba W o)
theorem JO.set0(h:JO W B t x y z u)(v:H):JO (W.setCell ⟨B,0,none⟩ v) B t v y z u:=by
 obtain⟨b,a⟩:=Ac.1 h;show(W.heap.modify B _)[B]?=_;grind
theorem JO.set1(h:JO W B t x y z u)(v:H):JO (W.setCell ⟨B,1,none⟩ v) B t x v z u:=by
 obtain⟨b,a⟩:=Ac.1 h;show(W.heap.modify B _)[B]?=_;grind
theorem JO.set2(h:JO W B t x y z u)(v:H):JO (W.setCell ⟨B,2,none⟩ v) B t x y v u:=by
 obtain⟨b,a⟩:=Ac.1 h;show(W.heap.modify B _)[B]?=_;grind
end
def put4(W:G)(B:Nat)(x y z u:H):G:=(((W.setCell ⟨B,0,none⟩ x).setCell ⟨B,1,none⟩ y).setCell ⟨B,2,none⟩ z).setCell ⟨B,3,none⟩ u
def Jp{n B:Nat}{w W:G}(h:Below n w W)(a:n<=B)(x y z u:H):Below n w (put4 W B x y z u):=(((h.setCell (p:=⟨B,0,none⟩) a _).setCell (p:=⟨B,1,none⟩) a _).setCell (p:=⟨B,2,none⟩) a _).setCell (p:=⟨B,3,none⟩) a _
def Row.put4{k:IntKind}{W:G}{v:H}{ds:Ja}(h:Row k W v ds){B:Nat}{t:TypeId}{x y z u:H}(q:JO W B t x y z u)(d:JK x=true)(e:JK y=true)(f:JK z=true)(g:JK u=true)(a b c i:H):Row k (put4 W B a b c i) v ds:=
 Row.set (Row.set (Row.set (Row.set h q.c0 d _) (q.set0 a).c1 e _) ((q.set0 a).set1 b).c2 f _) (((q.set0 a).set1 b).set2 c).c3 g _
def Jg.put4{W:G}{v:H}{i:Int}(h:Jg W v i){B:Nat}{t:TypeId}{x y z u:H}(q:JO W B t x y z u)(c:JK x=true)(d:JK y=true)(f:JK z=true)(g:JK u=true)(k m n j:H):Jg (put4 W B k m n j) v i:=by
 obtain⟨a,l,cap,e,b⟩:=h;exact⟨a,l,cap,e,Row.put4 b q c d f g _ _ _ _⟩
def Jh.put4{W:G}{v:H}{i:Int}(h:Jh W v i){B:Nat}{t:TypeId}{x y z u:H}(q:JO W B t x y z u)(c:JK x=true)(d:JK y=true)(f:JK z=true)(g:JK u=true)(k m n j:H):Jh (put4 W B k m n j) v i:=by
 obtain⟨a,l,cap,e,b⟩:=h;exact⟨a,l,cap,e,Row.put4 b q c d f g _ _ _ _⟩
def Ju(W:G)(v:H)(q:Rat):Prop:=∃s a l c t b k d,v=L #[E s,C a l c,E t,C b k d]/\Jg W (L #[E s,C a l c]) q.num/\Jg W (L #[E t,C b k d]) (C6 q)
def Ju.below{W W':G}{v:H}{q:Rat}(h:Ju W v q)(f:Bl W W'):Ju W' v q:=by
 obtain⟨s,a,l,c,t,b,k,d,e,g,i⟩:=h;exact⟨s,a,l,c,t,b,k,d,e,g.below f,i.below f⟩
def Ju.put4{W:G}{v:H}{p:Rat}(h:Ju W v p){B:Nat}{t:TypeId}{x y z u:H}(q:JO W B t x y z u)(f:JK x=true)(g:JK y=true)(i:JK z=true)(j:JK u=true)(r w A o:H):Ju (put4 W B r w A o) v p:=by
 obtain⟨s,a,l,c,t,b,k,d,e,m,n⟩:=h;exact⟨s,a,l,c,t,b,k,d,e,m.put4 q f g i j _ _ _ _,n.put4 q f g i j _ _ _ _⟩
def Jy(W:G)(v:H)(q:Rat):Prop:=∃a l c s b k d t,v=L #[C a l c,E s,C b k d,E t]/\Jh W (L #[C a l c,E s]) q.num/\Jh W (L #[C b k d,E t]) (q.den:Int)
def Jy.below{W W':G}{v:H}{q:Rat}(h:Jy W v q)(f:Bl W W'):Jy W' v q:=by
 obtain⟨s,a,l,c,t,b,k,d,e,g,i⟩:=h;exact⟨s,a,l,c,t,b,k,d,e,g.below f,i.below f⟩
def Jy.put4{W:G}{v:H}{p:Rat}(h:Jy W v p){B:Nat}{t:TypeId}{x y z u:H}(q:JO W B t x y z u)(f:JK x=true)(g:JK y=true)(i:JK z=true)(j:JK u=true)(r w A o:H):Jy (put4 W B r w A o) v p:=by
 obtain⟨s,a,l,c,t,b,k,d,e,m,n⟩:=h;exact⟨s,a,l,c,t,b,k,d,e,m.put4 q f g i j _ _ _ _,n.put4 q f g i j _ _ _ _⟩
section
def J5(W:G)(v:H)(x y:Int):Prop:=∃s a l c t b k d,v=L #[E s,C a l c,E t,C b k d]/\Jg W (L #[E s,C a l c]) x/\Jg W (L #[E t,C b k d]) y
variable{V':G}
def Ju.pair{W:G}{v:H}{q:Rat}(h:Ju W v q):J5 W v q.num (C6 q):=h
theorem J5.form{W:G}{v:H}{x y:Int}(h:J5 W v x y):∃s a l c t b k d,v=L #[E s,C a l c,E t,C b k d]:=by
 obtain⟨s,a,l,c,t,b,k,d,e,_⟩:=h;grind
def J5.below{W W':G}{v:H}{x y:Int}(h:J5 W v x y)(f:Bl W W'):J5 W' v x y:=by
 obtain⟨s,a,l,c,t,b,k,d,e,g,i⟩:=h;exact⟨s,a,l,c,t,b,k,d,e,g.below f,i.below f⟩
def J5.keep{V:G}{v:H}{x y:Int}(h:J5 V v x y)(f:∀k v ds,Row k V v ds->Row k V' v ds):J5 V' v x y:=by
 obtain⟨s,a,l,c,t,b,k,d,e,⟨g,p,c1,j,n⟩,⟨i,q,c2,m,o⟩⟩:=h;exact⟨s,a,l,c,t,b,k,d,e,⟨g,p,c1,j,f _ _ _ n⟩,⟨i,q,c2,m,f _ _ _ o⟩⟩
def Jy.keep{V:G}{v:H}{q:Rat}(h:Jy V v q)(f:∀k v ds,Row k V v ds->Row k V' v ds):Jy V' v q:=by
 obtain⟨s,a,l,c,t,b,k,d,e,⟨g,p,c1,j,n⟩,⟨i,r,c2,m,o⟩⟩:=h;exact⟨s,a,l,c,t,b,k,d,e,⟨g,p,c1,j,f _ _ _ n⟩,⟨i,r,c2,m,f _ _ _ o⟩⟩
theorem LZ{α:Type}(l:List α)(x y:α):(l++[x]).set l.length y=l++[y]:=by
 grind
theorem Jg.form2{W:G}{v:H}{z:Int}(h:Jg W v z):∃s a l c,v=L #[E s,C a l c]:=by
 obtain⟨a,l,c,e,_⟩:=h;grind
theorem Jh.form2{W:G}{v:H}{z:Int}(h:Jh W v z):∃a l c s,v=L #[C a l c,E s]:=by
 obtain⟨a,l,c,e,_⟩:=h;grind
theorem Ju.form{W:G}{v:H}{q:Rat}(h:Ju W v q):∃s a l c t b k d,v=L #[E s,C a l c,E t,C b k d]:=by
 obtain⟨s,a,l,c,t,b,k,d,e,_⟩:=h;grind
theorem Jy.form{W:G}{v:H}{q:Rat}(h:Jy W v q):∃a l c s b k d t,v=L #[C a l c,E s,C b k d,E t]:=by
 obtain⟨s,a,l,c,t,b,k,d,e,_⟩:=h;grind
theorem X4(W:G):Jg W (L #[E false,C Option.none 0 0]) 0:=
 ⟨Option.none,0,0,Br,by grind[UN,Jn,Row.nil]⟩
theorem ET(W:G):Jh W (L #[C Option.none 0 0,E false]) 0:=
 ⟨Option.none,0,0,Br,by grind[RN,Jn,Row.nil]⟩
def DU(W:G):Ju W (L #[E false,C Option.none 0 0,E false,C Option.none 0 0]) 0:=⟨_,_,_,_,_,_,_,_,rfl,X4 W,X4 W⟩
def EU(r:Bool)(W:G)(v:H)(q:Rat):Prop:=match r with|true=>Ju W v q|false=>Jy W v q
def FT(r:Bool):TypeId:=match r with|true=>27|false=>34
def EU.keep{r:Bool}{W W':G}{v:H}{q:Rat}(h:EU r W v q)(a:∀k v ds,Row k W v ds->Row k W' v ds):EU r W' v q:=by
 cases r with
 |true=>exact J5.keep h a
 |false=>exact Jy.keep h a
def EW(r:Bool)(W:G)(b:Nat)(qs:X):Prop:=
 ∃cs:Array H,W.heap[b]?=some (I cs (FT r) (0,0))/\∀j,j<qs.length->∃x y z u,cs[j*4]?=some x/\cs[j*4+1]?=some y/\cs[j*4+2]?=some z/\cs[j*4+3]?=some u/\EU r W (L #[x,y,z,u]) (cf qs j)
def EW.keep{r:Bool}{W W':G}{b:Nat}{qs:X}(h:EW r W b qs)(l:W'.heap[b]?=W.heap[b]?)(n:∀k v ds,Row k W v ds->Row k W' v ds):EW r W' b qs:=by
 obtain⟨cs,f,g⟩:=h;refine⟨cs,l.trans f,λj m=>?_⟩;obtain⟨x,y,z,u,a,c,d,e,i⟩:=g j m;exact⟨x,y,z,u,a,c,d,e,i.keep n⟩
def cell_of{W:G}{b o:Nat}{cs:Array H}{t:TypeId}{m:Nat × Nat}{x:H}(h:W.heap[b]?=some (I cs t m))(e:cs[o]?=some x):W.cell? ⟨b,o,none⟩=some x:=by simp[World.cell?,h,e]
def RowK(r:Bool)(W:G)(v:H)(qs:X):Prop:=
 ∃a cap,v=C a qs.length cap/\qs.length<=cap/\cap<=9223372036854775807/\qs.length<=1099511627776/\(qs=[]\/∃b,a=some ⟨b,0,none⟩/\EW r W b qs)
structure Sqs(qs:X):Prop where
 all:∀i,Sq (cf qs i)
end
namespace M3
structure Dat where
 ty:TypeId
 has:World->Value->Prop
 noPoly:Bool
 below:∀ {V V':World} {v:Value},has V v->Bl V V'->has V' v
 keep:∀ {V V':World} {v:Value},has V v->(∀k v ds,Row k V v ds->Row k V' v ds)->(noPoly=true\/∀v qs,RowK true V v qs->RowK true V' v qs)->has V' v
def Dat.int(z:Int):Dat where
 ty:=25
 has V v:=Jg V v z
 noPoly:=true
 below h hb:=Jg.below h hb
 keep h hk _:=by
  obtain⟨a,l,c,e,b⟩:=h;exact⟨a,l,c,e,hk _ _ _ b⟩
def Dat.rat(q:Rat):Dat where
 ty:=27
 has V v:=Ju V v q
 noPoly:=true
 below h hb:=Ju.below h hb
 keep h hk _:=J5.keep h hk
def Dat.big(z:Int):Dat where
 ty:=32
 has V v:=Jh V v z
 noPoly:=true
 below h hb:=Jh.below h hb
 keep h hk _:=by
  obtain⟨a,l,c,e,b⟩:=h;exact⟨a,l,c,e,hk _ _ _ b⟩
def Dat.ref(q:Rat):Dat where
 ty:=34
 has V v:=Jy V v q
 noPoly:=true
 below h hb:=Jy.below h hb
 keep h hk _:=Jy.keep h hk
def Dat.zref:Dat where
 ty:=34
 has _ v:=v=L #[C none 0 0,E false,C none 0 0,E false]
 noPoly:=true
 below h _:=h
 keep h _ _:=h
def Dat.pair(x y:Int):Dat where
 ty:=27
 has V v:=J5 V v x y
 noPoly:=true
 below h hb:=J5.below h hb
 keep h hk _:=J5.keep h hk
def Has(V:G)(v:H)(d:Dat):Prop:=d.has V v
def Has.below{V V':G}{v:H}{d:Dat}(h:Has V v d)(a:Bl V V'):Has V' v d:=d.below h a
def Has.alloc{V:G}{v:H}{d:Dat}(h:Has V v d)(o:Obj):Has (V.alloc o) v d:=h.below (Ba V o)
def Has.keep{V V':G}{v:H}{d:Dat}(h:Has V v d)(a:∀k v ds,Row k V v ds->Row k V' v ds)(hp:d.noPoly=true\/∀v qs,RowK true V v qs->RowK true V' v qs):Has V' v d:=d.keep h a hp
def Bx(V:G)(B:Nat)(t:TypeId)(cs:Array H):Prop:=V.heap[B]?=some (I cs t (0,0))
variable{cs:Array H}{d:Dat}{x0:H}{V':G}
def Bx.lt{V:G}{B:Nat}{t:TypeId}(h:Bx V B t cs):B<V.heap.size:=(Ac.1 h).1
def Bx.below{V:G}{B:Nat}{t:TypeId}(h:Bx V B t cs)(a:Bl V V'):Bx V' B t cs:=(a.block B h.lt).trans h
def Bx.far{V:G}{B:Nat}{t:TypeId}(h:Bx V B t cs){p:Addr}(hp:B≠p.block)(u:H):Bx (V.setCell p u) B t cs:=(BS V p u B hp).trans h
def Bx.f{V:G}{B:Nat}{t:TypeId}(h:Bx V B t cs)(i:Nat):V.frozen? ⟨B,i,Option.none⟩=false:=by simp[World.frozen?,show V.heap[B]?=_ from h]
def Bx.all{V:G}{B:Nat}{t:TypeId}(h:Bx V B t cs):∀i,V.cell? ⟨B,i,Option.none⟩=cs[i]?:=λi=>by simp[World.cell?,show V.heap[B]?=_ from h]
def noPoly:List (Option (Nat × Dat))->Bool
 |[]=>true
 |some (_,d)::t=>d.noPoly&&noPoly t
 |Option.none::t=>noPoly t
theorem La{bs:List (Option (Nat × Dat))}(h:noPoly bs=true){i:Nat}{x:Nat × Dat}(e:bs[i]?=some (some x)):x.2.noPoly=true:=by
 induction bs generalizing i with
 |nil=>simp at e
 |cons b t a=>
  cases b with
  |none=>
   cases i with
   |zero=>simp at e
   |succ i=>exact a h (by simpa using e)
  |some y=>
   grind[noPoly]
def Bu(w V:G)(bs:List (Option (Nat × Dat))):Prop:=
 (∀(i:Nat) B d,bs[i]?=some (some (B,d))->(∃cs,Bx V B d.ty cs/\Has V (L cs) d)/\w.heap.size<=B)/\
 (∀(i j:Nat) B d a,bs[i]?=some (some (B,d))->bs[j]?=some (some (B,a))->i=j)/\Bl w V
theorem Bu.nil(w:G):Bu w w []:=⟨λi B z h=>by simp at h,λi j B z a h=>by simp at h,BC _ w⟩
def Bu.int{w V:G}{bs:List (Option (Nat × Dat))}(b:Bu w V bs){i B:Nat}{z:Int}(h:bs[i]?=some (some (B,.int z))):∃s a l c,Jd V B 25 (E s) (C a l c)/\Jg V (L #[E s,C a l c]) z:=by
 obtain⟨⟨cs,d,f⟩,_⟩:=b.1 i B _ h;obtain⟨a,l,c,e,g⟩:=f;cases e;exact⟨_,a,l,c,d,a,l,c,rfl,g⟩
def Bu.big{w V:G}{bs:List (Option (Nat × Dat))}(b:Bu w V bs){i B:Nat}{z:Int}(h:bs[i]?=some (some (B,.big z))):∃a l c s,Jd V B 32 (C a l c) (E s)/\Jh V (L #[C a l c,E s]) z:=by
 obtain⟨⟨cs,d,f⟩,_⟩:=b.1 i B _ h;obtain⟨a,l,c,e,g⟩:=f;cases e;exact⟨a,l,c,_,d,a,l,c,rfl,g⟩
def Bu.rat{w V:G}{bs:List (Option (Nat × Dat))}(g:Bu w V bs){i B:Nat}{q:Rat}(h:bs[i]?=some (some (B,.rat q))):
 ∃s a l c t b k d,JO V B 27 (E s) (C a l c) (E t) (C b k d)/\Ju V (L #[E s,C a l c,E t,C b k d]) q/\Jg V (L #[E s,C a l c]) q.num/\Jg V (L #[E t,C b k d]) (C6 q):=by
 obtain⟨⟨cs,n,f⟩,_⟩:=g.1 i B _ h;have o:=f;obtain⟨s,a,l,c,t,b,k,d,e,j,m⟩:=f;cases e;exact⟨s,a,l,c,t,b,k,d,n,o,j,m⟩
def Bu.pair{w V:G}{bs:List (Option (Nat × Dat))}(g:Bu w V bs){i B:Nat}{x y:Int}(h:bs[i]?=some (some (B,.pair x y))):
 ∃s a l c t b k d,JO V B 27 (E s) (C a l c) (E t) (C b k d)/\J5 V (L #[E s,C a l c,E t,C b k d]) x y/\Jg V (L #[E s,C a l c]) x/\Jg V (L #[E t,C b k d]) y:=by
 obtain⟨⟨cs,n,f⟩,_⟩:=g.1 i B _ h;have o:=f;obtain⟨s,a,l,c,t,b,k,d,e,j,m⟩:=f;cases e;exact⟨s,a,l,c,t,b,k,d,n,o,j,m⟩
def Bu.ref{w V:G}{bs:List (Option (Nat × Dat))}(g:Bu w V bs){i B:Nat}{q:Rat}(h:bs[i]?=some (some (B,.ref q))):
 ∃a l c s b k d t,JO V B 34 (C a l c) (E s) (C b k d) (E t)/\Jy V (L #[C a l c,E s,C b k d,E t]) q/\Jh V (L #[C a l c,E s]) q.num/\Jh V (L #[C b k d,E t]) (q.den:Int):=by
 obtain⟨⟨cs,n,f⟩,_⟩:=g.1 i B _ h;have o:=f;obtain⟨s,a,l,c,t,b,k,d,e,j,m⟩:=f;cases e;exact⟨s,a,l,c,t,b,k,d,n,o,j,m⟩
def Bu.below{w V V':G}{bs:List (Option (Nat × Dat))}(a:Bu w V bs)(b:Bl V V'):Bu w V' bs:=
 ⟨λi B z h=>by
  obtain⟨⟨cs,c,d⟩,e⟩:=a.1 i B z h;exact⟨⟨cs,c.below b,d.below b⟩,e⟩,a.2.1,Bt a.2.2 b⟩
def Bu.drew{w V:G}{bs:List (Option (Nat × Dat))}(a:Bu w V bs):Bu w V.drew bs:=a.below ((BC _ V).drew)
def Bu.sub{w V:G}{bs cs:List (Option (Nat × Dat))}(a:Bu w V bs)(f:Nat->Nat)(g:∀(i j:Nat),f i=f j->i=j)(h:∀(i:Nat) x,cs[i]?=some (some x)->bs[f i]?=some (some x)):Bu w V cs:=
 ⟨λi B d b=>a.1 (f i) B d (h i _ b),λi j B d c b e=>g i j (a.2.1 (f i) (f j) B d c (h i _ b) (h j _ e)),a.2.2⟩
theorem Bu.none{w V:G}{bs:List (Option (Nat × Dat))}(a:Bu w V bs):Bu w V (bs++[Option.none]):=by
 refine a.sub id (λ_ _ h=>h) λi x h=>?_;grind
theorem Bu.fill{w V:G}{bs:List (Option (Nat × Dat))}(b:Bu w V bs){i:Nat}(h:bs[i]?=some Option.none)(d:Dat)(p:Has V (L cs) d):
 Bu w (V.alloc (I cs d.ty)) (bs.set i (some (V.heap.size,d))):=by
 have g:Bl V (V.alloc (I cs d.ty)):=Ba V _;have m:i<bs.length:=(AB.1 h).1;have f:=b.below g;have r:∀(j:Nat) B d,bs[j]?=some (some (B,d))->B<V.heap.size:=λj B d h=>by
  obtain⟨⟨_,c,_⟩,_⟩:=b.1 j B d h;exact c.lt
 refine⟨λj B n a=>?_,λj k B d1 o c l=>?_,f.2.2⟩
 . by_cases e:i=j
   . subst e;rw[List.getElem?_set_self m]at a;simp at a;obtain⟨rfl,rfl⟩:=a;exact⟨⟨cs,BD V _,p.below g⟩,b.2.2.size⟩
   . rw[CA e]at a;exact f.1 j B n a
 . by_cases e:i=j<;>by_cases q:i=k
   . omega
   . grind
   . grind
   . rw[CA e]at c;rw[CA q]at l;exact b.2.1 j k B d1 o c l
def Bu.push{w V:G}{bs:List (Option (Nat × Dat))}(a:Bu w V bs)(d:Dat)(b:Has V (L cs) d):Bu w (V.alloc (I cs d.ty)) (bs++[some (V.heap.size,d)]):=by
 have h:=a.none.fill (i:=bs.length) Br d b;rwa[LZ]at h
def DO{w:G}(a:TypeId)(d1:Dat){c1:Array H}(c:Has w (L c1) d1)(b:d1.ty=a:=by rfl):∃W,Hid (w.alloc (I c1 a)=W)/\Hid (Bu w W [some (w.heap.size,d1)]):=by
 subst b;exact⟨_,Z rfl,Z ((Bu.nil w).push d1 c)⟩
theorem EX{w:G}(b:TypeId)(d1:Dat){c1:Array H}(f:Has w (L c1) d1)(c:TypeId)(a:Dat){c2:Array H}(g:Has w (L c2) a)(d:d1.ty=b:=by rfl)(e:a.ty=c:=by rfl):∃W,Hid ((w.alloc (I c1 b)).alloc (I c2 c)=W)/\Hid (Bu w W [some (w.heap.size,d1),some (w.heap.size+1,a)]):=by
 subst d e;have i:=((Bu.nil w).push d1 f).push a (g.alloc _);grind[BA,Z]
theorem Gn{w:G}(c:TypeId)(d1:Dat){c1:Array H}(j:Has w (L c1) d1)(d:TypeId)(a:Dat){c2:Array H}(k:Has w (L c2) a)(e:TypeId)(b:Dat){c3:Array H}(l:Has w (L c3) b)(f:d1.ty=c:=by rfl)(g:a.ty=d:=by rfl)(i:b.ty=e:=by rfl):∃W,Hid (((w.alloc (I c1 c)).alloc (I c2 d)).alloc (I c3 e)=W)/\Hid (Bu w W [some (w.heap.size,d1),some (w.heap.size+1,a),some (w.heap.size+1+1,b)]):=by
 subst f g i;have m:=(((Bu.nil w).push d1 j).push a (k.alloc _)).push b ((l.alloc _).alloc _);grind[BA,Z]
theorem Bu.repl{w V:G}{bs:List (Option (Nat × Dat))}(f:Bu w V bs){i B:Nat}(h:bs[i]?=some (some (B,d)))(c:Dat)(D:Bx V' B c.ty cs)(K:Has V (L cs) c)
(p:∀k v ds,Row k V v ds->Row k V' v ds)(P:∀a t cs,a≠B->Bx V a t cs->Bx V' a t cs)(A:Bl w V')
(hp:noPoly bs=true\/∀v qs,RowK true V v qs->RowK true V' v qs)(Q:c.noPoly=true\/∀v qs,RowK true V v qs->RowK true V' v qs):Bu w V' (bs.set i (some (B,c))):=by
 have q:i<bs.length:=(AB.1 h).1;obtain⟨_,T⟩:=f.1 i B d h;refine⟨λj a d1 b=>?_,λj k a d1 u y z=>?_,A⟩
 . by_cases n:i=j
   . subst n;rw[List.getElem?_set_self q]at b;simp at b;obtain⟨rfl,rfl⟩:=b;exact⟨⟨cs,D,K.keep p Q⟩,T⟩
   . rw[CA n]at b;obtain⟨⟨s,l,m⟩,U⟩:=f.1 j a d1 b;have r:a≠B:=λe=>n (by rw[e]at b;exact f.2.1 i j B d d1 h b);exact⟨⟨s,P _ _ _ r l,m.keep p (hp.imp (λh=>La h b) id)⟩,U⟩
 . have o:∀(j:Nat) d1,(bs.set i (some (B,c)))[j]?=some (some (a,d1))->∃g,bs[j]?=some (some (a,g)):=λj d1 b=>by
    grind
   obtain⟨g,l⟩:=o j d1 y;obtain⟨x,m⟩:=o k u z;exact f.2.1 j k a g x l m
theorem Gp{V:G}{B:Nat}{t:TypeId}(h:Bx V B t cs){o:Nat}(e:cs[o]?=some x0)(m:JK x0=true)(r:Bool)(p:t≠FT r)(x:H)(v:H)(qs:X)(d:RowK r V v qs):RowK r (V.setCell ⟨B,o,Option.none⟩ x) v qs:=by
 obtain⟨a,cap,ev,j,k,l,c⟩:=d;refine⟨a,cap,ev,j,k,l,?_⟩;rcases c with c|⟨b,g,f⟩
 . exact Aq c
 . refine AN ⟨b,g,f.keep (BS V ⟨B,o,Option.none⟩ x b ?_) λ_ _ _ d=>Row.set d (cell_of h e) m _⟩;rintro rfl;obtain⟨n,i,_⟩:=f;rw[show V.heap[b]?=_ from h]at i;grind
def Gq{V:G}{B:Nat}{t:TypeId}{a:H}(q:Jd V B t x0 a){r:Bool}(b:t≠FT r)(c:JK x0=true)(d:JK a=true)(x y:H):∀v qs,RowK r V v qs->RowK r ((V.setCell ⟨B,0,Option.none⟩ x).setCell ⟨B,1,Option.none⟩ y) v qs:=
 λv qs h=>Gp (cs:=#[x,a]) (q.set0 x) (o:=1) rfl d r b y v qs (Gp (cs:=#[x0,a]) q (o:=0) rfl c r b x v qs h)
def FU{V:G}{B:Nat}{t:TypeId}{x y:H}(q:Jd V B t x y)(b:JK x=true)(c:JK y=true)(a d:H):∀k v ds,Row k V v ds->Row k ((V.setCell ⟨B,0,Option.none⟩ a).setCell ⟨B,1,Option.none⟩ d) v ds:=
 λ_ _ _ h=>Row.set (Row.set h q.c0 b _) (q.set0 a).c1 c _
def Bu.putInt{w V:G}{bs:List (Option (Nat × Dat))}(b:Bu w V bs){i B:Nat}{z0:Int}(h:bs[i]?=some (some (B,.int z0))){x y:H}{z:Int}(j:Jg V (L #[x,y]) z):
 Bu w ((V.setCell ⟨B,0,Option.none⟩ x).setCell ⟨B,1,Option.none⟩ y) (bs.set i (some (B,.int z))):=by
 obtain⟨s,a,l,c,d,_⟩:=b.int h;obtain⟨_,f⟩:=b.1 i B _ h;exact b.repl h (.int z) (cs:=#[x,y]) ((d.set0 x).set1 y) j (FU d rfl rfl x y) (λk t cs e g=>(g.far (p:=⟨B,0,Option.none⟩) e _).far (p:=⟨B,1,Option.none⟩) e _) ((b.2.2.setCell (p:=⟨B,0,Option.none⟩) f _).setCell (p:=⟨B,1,Option.none⟩) f _) (AN (Gq d Bz rfl rfl x y)) (Aq rfl)
def Bu.putBig{w V:G}{bs:List (Option (Nat × Dat))}(b:Bu w V bs){i B:Nat}{z0:Int}(h:bs[i]?=some (some (B,.big z0))){x y:H}{z:Int}(j:Jh V (L #[x,y]) z):
 Bu w ((V.setCell ⟨B,0,Option.none⟩ x).setCell ⟨B,1,Option.none⟩ y) (bs.set i (some (B,.big z))):=by
 obtain⟨a,l,c,s,d,_⟩:=b.big h;obtain⟨_,f⟩:=b.1 i B _ h;exact b.repl h (.big z) (cs:=#[x,y]) ((d.set0 x).set1 y) j (FU d rfl rfl x y) (λk t cs e g=>(g.far (p:=⟨B,0,Option.none⟩) e _).far (p:=⟨B,1,Option.none⟩) e _) ((b.2.2.setCell (p:=⟨B,0,Option.none⟩) f _).setCell (p:=⟨B,1,Option.none⟩) f _) (AN (Gq d Bz rfl rfl x y)) (Aq rfl)
def Bu.zref{w V:G}{bs:List (Option (Nat × Dat))}(a:Bu w V bs){i B:Nat}(h:bs[i]?=some (some (B,.zref))):JO V B 34 (C Option.none 0 0) (E false) (C Option.none 0 0) (E false):=by
 obtain⟨⟨cs,b,c⟩,_⟩:=a.1 i B _ h;cases(show Value.agg cs=_ from c);exact b
def Has.set2{V:G}{v:H}(h:Has V v d){B:Nat}{t:TypeId}{x y:H}(q:Jd V B t x y)(e:JK x=true)(f:JK y=true)(a b:H)(c:d.noPoly=true:=by rfl):Has ((V.setCell ⟨B,0,Option.none⟩ a).setCell ⟨B,1,Option.none⟩ b) v d:=h.keep (FU q e f a b) (Aq c)
def Has.put4{V:G}{v:H}{d:Dat}(h:Has V v d){B:Nat}{t:TypeId}{x y z u:H}(q:JO V B t x y z u)(b:JK x=true)(c:JK y=true)(e:JK z=true)(f:JK u=true)(j k l i:H)(a:d.noPoly=true:=by rfl):Has (Go.Proofs.YtcahodpphikgnaaGreatDoor.put4 V B j k l i) v d:=h.keep (λ_ _ _ g=>Row.put4 g q b c e f _ _ _ _) (Aq a)
def Bu.ne{w V:G}{bs:List (Option (Nat × Dat))}(c:Bu w V bs)(i j:Nat){B a:Nat}{b:Dat}(h:bs[i]?=some (some (B,d)))(f:bs[j]?=some (some (a,b)))(g:i≠j):B≠a:=λe=>by
 subst e;exact g (c.2.1 i j B d b h f)
def Bu.ge{w V:G}{bs:List (Option (Nat × Dat))}(a:Bu w V bs)(i:Nat){B:Nat}(h:bs[i]?=some (some (B,d))):w.heap.size<=B:=(a.1 i B d h).2
def Dy(V:G)(t:H)(d1 a:Dat):Prop:=∃u1 u2,t=.tuple #[u1,u2,E true]/\Has V u1 d1/\Has V u2 a
def Dy.below{V V':G}{t:H}{d1 a:Dat}(h:Dy V t d1 a)(b:Bl V V'):Dy V' t d1 a:=by
 obtain⟨u1,u2,e,c,d⟩:=h;exact⟨u1,u2,e,c.below b,d.below b⟩
end M3
section
variable {V:World} {B:Nat} {t:TypeId} {x y z u:Value}
def Jd.ka(h:Jd V B t x y):V.cell? ⟨B,0,none⟩=some x/\V.cell? ⟨B,1,none⟩=some y:=⟨h.c0,h.c1⟩
def Jd.fa(h:Jd V B t x y):V.frozen? ⟨B,0,none⟩=false/\V.frozen? ⟨B,1,none⟩=false:=⟨h.f0,h.f1⟩
def JO.kb(h:JO V B t x y z u):V.cell? ⟨B,0,none⟩=some x/\V.cell? ⟨B,1,none⟩=some y/\V.cell? ⟨B,2,none⟩=some z/\V.cell? ⟨B,3,none⟩=some u:=⟨h.c0,h.c1,h.c2,h.c3⟩
def JO.fb(h:JO V B t x y z u):V.frozen? ⟨B,0,none⟩=false/\V.frozen? ⟨B,1,none⟩=false/\V.frozen? ⟨B,2,none⟩=false/\V.frozen? ⟨B,3,none⟩=false:=⟨h.f0,h.f1,h.f2,h.f3⟩
end
def Jh.alloc{W:G}{v:H}{z:Int}(h:Jh W v z)(o:Obj):Jh (W.alloc o) v z:=h.below (Ba W o)
def Jh.form{W:G}{v:H}{z:Int}(h:Jh W v z):∃a l cap,v=L #[C a l cap,E (decide (z<0))]:=by
 obtain⟨a,l,cap,e,_⟩:=h;exact⟨a,l,cap,e⟩
def Jh.box{W:G}{b:Nat}{t:TypeId}{u0 u1 x0 x1 v:H}{z:Int}(h:Jh W v z)(q:Jd W b t u0 u1)(d:JK u0=true)(f:JK u1=true):Jh ((W.setCell ⟨b,0,none⟩ x0).setCell ⟨b,1,none⟩ x1) v z:=by
 obtain⟨a,l,cap,e,c⟩:=h;exact⟨a,l,cap,e,Row.set (Row.set c q.c0 d _) (u0:=u1) (q.set0 x0).c1 f _⟩
def Lb(va vb:H)(x y:Int)(w:G)(k:Jh w va x)(l:Jh w vb y)(ae:C7 x<=400000000000)(ag:C7 y<=400000000000):
 N F 95 #[va,vb] w λe d=>∃u,e=.returned u/\Jh d u (x-y)/\Bl w d:=by
 obtain⟨a,j,g,rfl⟩:=k.form;obtain⟨b,lb,i,rfl⟩:=l.form;obtain⟨s,hs⟩:=ex (decide (x<0));obtain⟨t,B⟩:=ex (decide (y<0));rw[hs]at k ⊢;rw[B]at l ⊢;clear hs B;obtain⟨W0,f⟩:=ex (((w.alloc (I #[C a j g,E s] 32)).alloc (I #[C b lb i,E t] 32)).alloc (I #[C none 0 0,E false] 32));have m:Bl w W0:=by rw[<-f];exact YT w _ _ _
 have b0:Jd W0 w.heap.size 32 (C a j g) (E s):=by rw[<-f];exact((Jd.new w _ _ _).alloc _).alloc _
 have n:Jd W0 (w.heap.size+1) 32 (C b lb i) (E t):=by
  have h:=(Jd.new (w.alloc (I #[C a j g,E s] 32)) 32 (C b lb i) (E t)).alloc (I #[C none 0 0,E false] 32);rw[BA,f]at h;exact h
 have o:Jd W0 (w.heap.size+1+1) 32 (C none 0 0) (E false):=by
  have h:=Jd.new ((w.alloc (I #[C a j g,E s] 32)).alloc (I #[C b lb i,E t] 32)) 32 (C none 0 0) (E false);rw[BA,BA,f]at h;exact h
 have HN:=Z λ(V:G) (h:Bl W0 V)=>F5 _ y V ((l.below m).below h);have HS:=Z λ(V:G) (u:H) (h:Bl W0 V) (hu:Jh V u (-y))=>F4 _ u x (-y) V ((k.below m).below h) hu ae (by unfold C7 at *;rw[CO];exact ag);clear k l;go_enter func95,ntmps95
 go_wp2_with fail
 try rw[f]
 clear f;have c:Bl W0 W0.drew:=(BC _ W0).drew;obtain⟨D,K⟩:=b0.cp;obtain⟨P,Q⟩:=n.cp;have ah:¬(w.heap.size=w.heap.size+1+1):=Y
 go_region_held3 (λd=>d.cell? ⟨w.heap.size,0,none⟩=some (C a j g)/\d.cell? ⟨w.heap.size,1,none⟩=some (E s)/\d.cell? ⟨w.heap.size+1,0,none⟩=some (C b lb i)/\d.cell? ⟨w.heap.size+1,1,none⟩=some (E t)) (refine⟨?_,?_,?_,?_⟩<;>(first|(go_keep;done)|((repeat rw[Js Y]);simp[*];done)))
  (first
   |(go_at_call 62;refine(HN.o _ c).mono ?_;rintro e w1 ⟨u1,rfl,z,aa⟩;obtain⟨na,nl,nc,rfl⟩:=z.form;obtain⟨s1,q⟩:=ex (decide (-y<0));rw[q]at z;rw[q];clear q;have c:=Bt c aa;obtain⟨D,K⟩:=(b0.below c).cp;obtain⟨P,Q⟩:=(n.below c).cp)
   |(go_at_call 66;refine(HS.o _ _ c z).mono ?_;rintro e w2 ⟨u2,rfl,A,ad⟩;obtain⟨U,X,W,rfl⟩:=A.form;obtain⟨T,r⟩:=ex (decide (x+-y<0));rw[r]at A;rw[r];clear r;have c:=Bt c ad;obtain⟨D,K⟩:=(b0.below c).cp;obtain⟨P,Q⟩:=(n.below c).cp;obtain⟨r0,r1⟩:=(o.below c).cp;obtain⟨f0,f1⟩:=(o.below c).fp))
 all_goals go_wp2_with fail
 have Qc:=Bt m c;have Qb:=A.box (o.below c) rfl rfl (x0:=C U X W) (x1:=E T);exact BB (v:=L #[C U X W,E T]) (by simp[results,results95,go_sem,r0,r1]) rfl ⟨_,rfl,by rw[Int.sub_eq_add_neg];exact Qb,(Qc.setCell (p:=⟨_,0,none⟩) so _).setCell (p:=⟨_,1,none⟩) so _⟩
def Lc(va vb:H)(x y:Int)(w:G)(g:Jg w va x)(hb:Jg w vb y)(ae:(Jb O x.natAbs).length<1099511627776)(ag:(Jb O y.natAbs).length<1099511627776):
 N F 65 #[va,vb] w λe d=>∃u,e=.returned u/\Jg d u (x-y)/\Bl w d:=by
 obtain⟨a,U,B,rfl⟩:=g.form;obtain⟨b,lb,f,e0,i⟩:=hb;cases e0;obtain⟨s,hs⟩:=ex (decide (x<0));obtain⟨t,q⟩:=ex (decide (y<0));rw[hs]at g ⊢;rw[q];clear hs;obtain⟨W0,m⟩:=ex (((w.alloc (I #[E s,C a U B] 25)).alloc (I #[E t,C b lb f] 25)).alloc (I #[E false,C none 0 0] 25));obtain⟨l,b0,j,k⟩:=ED m;have A:(if(!t)=true then -(y.natAbs:Int)else y.natAbs)=-y:=by
  rw[<-q];by_cases h:y<0
  . simp only[h,decide_true,Bool.not_true,Co,if_false];omega
  . simp only[h,decide_false,Bool.not_false,if_true];omega
 have HN:=Z (λ(V:G) (h:Bl W0 V)=>show N F 58 #[E (!t),C b lb f] V λe d=>∃u,e=.returned u/\Jg d u (-y)/\Bl V d by
  have D:=YZ (!t) (C b lb f) y.natAbs V (UN.below (UN.below i l) h);rw[A]at D;exact D)
 have HS:=Z λ(V:G) (u:H) (h:Bl W0 V) (i:Jg V u (-y))=>Kp _ u x (-y) V ((g.below l).below h) i ae (by rw[CO];exact ag);clear g i A q;go_enter func65,ntmps65
 go_wp2_with fail
 try rw[m]
 clear m;have c:Bl W0 W0.drew:=(BC _ W0).drew;obtain⟨K,P⟩:=b0.cp;obtain⟨Q,T⟩:=j.cp;have ah:¬(w.heap.size=w.heap.size+1+1):=Y
 go_region_held3 (λd=>d.cell? ⟨w.heap.size,0,none⟩=some (E s)/\d.cell? ⟨w.heap.size,1,none⟩=some (C a U B)/\d.cell? ⟨w.heap.size+1,0,none⟩=some (E t)/\d.cell? ⟨w.heap.size+1,1,none⟩=some (C b lb f)) (refine⟨?_,?_,?_,?_⟩<;>(first|(go_keep;done)|((repeat rw[Js Y]);simp[*];done)))
  (first
   |(go_at_call 58;refine(HN.o _ c).mono ?_;rintro e w1 ⟨u1,rfl,r,aa⟩;obtain⟨na,nl,nc,rfl⟩:=r.form;obtain⟨s1,n⟩:=ex (decide (-y<0));rw[n]at r;rw[n];clear n;have c:=Bt c aa;obtain⟨K,P⟩:=(b0.below c).cp;obtain⟨Q,T⟩:=(j.below c).cp)
   |(go_at_call 42;refine(HS.o _ _ c r).mono ?_;rintro e w2 ⟨u2,rfl,z,ad⟩;obtain⟨X,sl,sc,rfl⟩:=z.form;obtain⟨W,o⟩:=ex (decide (x+-y<0));rw[o]at z;rw[o];clear o;have c:=Bt c ad;obtain⟨K,P⟩:=(b0.below c).cp;obtain⟨Q,T⟩:=(j.below c).cp;obtain⟨r0,r1⟩:=(k.below c).cp;obtain⟨f0,f1⟩:=(k.below c).fp))
 all_goals go_wp2_with fail
 have Qc:=Bt l c;have Qb:=z.box (k.below c) rfl rfl (x0:=E W) (x1:=C X sl sc);exact BB (v:=L #[E W,C X sl sc]) (by simp[results,results65,go_sem,r0,r1]) rfl ⟨_,rfl,by rw[Int.sub_eq_add_neg];exact Qb,(Qc.setCell (p:=⟨_,0,none⟩) so _).setCell (p:=⟨_,1,none⟩) so _⟩
section
def C8(W:G)(b:Nat)(xs:Ja):Prop:=∃a:List H,W.heap[b]?=some (I (cellsOf R xs++a).toArray 3 (0,0))
variable{xs:Ja}{b c k l n:Nat}
theorem C8.lt{W:G}(h:C8 W b xs):b<W.heap.size:=by obtain⟨_,h⟩:=h;grind
theorem C8.cell{W:G}{b:Nat}{xs:Ja}(h:C8 W b xs){j:Nat}(a:j<xs.length):W.cell? ⟨b,j,none⟩=some (S R (xs[j]?.getD 0:Nat)):=by
 obtain⟨c,h⟩:=h;grind[cellsOf,World.cell?]
def C8.frozen{W:G}{b:Nat}{xs:Ja}(h:C8 W b xs)(j:Nat):W.frozen? ⟨b,j,none⟩=false:=by obtain⟨_,h⟩:=h;simp[World.frozen?,h]
def C8.of_block{W W':G}(h:C8 W b xs)(e:W'.heap[b]?=W.heap[b]?):C8 W' b xs:=by obtain⟨a,h⟩:=h;exact⟨a,e.trans h⟩
def C8.below{W W':G}(h:C8 W b xs)(a:Bl W W'):C8 W' b xs:=h.of_block (a.block b h.lt)
theorem C8.set{W:G}{b:Nat}{xs:Ja}(h:C8 W b xs)(j v:Nat):C8 (W.setCell ⟨b,j,none⟩ (S R (v:Nat))) b (xs.set j v):=by
 obtain⟨c,h⟩:=h;obtain⟨g,f⟩:=Ac.1 h;have e:∃a,(cellsOf R xs++c).set j (S R (v:Nat))=cellsOf R (xs.set j v)++a:=by
  rcases At j xs.length with d|d
  . exact⟨c,by grind[cellsOf,List.map_set]⟩
  . grind[Yu,List.set_eq_of_length_le]
 obtain⟨a,e⟩:=e;refine⟨a,?_⟩;show(W.heap.modify b _)[b]?=_;grind
def C8.made{W:G}(h:W.heap[b]?=some (I (cellsOf R xs).toArray 3 (0,0))):C8 W b xs:=⟨[],by rw[CS];exact h⟩
def C8.row{W:G}(h:C8 W b xs)(a len cap:Nat)(f:a+len<=xs.length)(g:len<=cap)(d:cap<=9223372036854775807)(i:len<=1099511627776):Row R W (C (some ⟨b,a,none⟩) len cap) ((xs.drop a).take len):=by
 have e:((xs.drop a).take len).length=len:=by rw[Ah,Ce];omega
 refine⟨_,cap,by rw[e],Y,d,Y,AN ⟨b,a,rfl,(by obtain⟨k,h⟩:=h;exact⟨_,_,h⟩),λj c=>?_⟩⟩;rw[e]at c;rw[h.cell Y,Cc c,List.getElem?_drop]
theorem Ld(n:Nat):madeCells #[S R 0] n=(cellsOf R (Nl n 0)).toArray:=by
 grind[madeCells,cellsOf]
def Gr(n:Nat)(h:n<=2199023255552)(w:G):(Instr.makeSlice 30 (S R (n:Int)) (S R (n:Int))).run F w=.ok (C (some ⟨w.heap.size,0,none⟩) n n) (w.alloc (I (cellsOf R (Nl n 0)).toArray 3)):=by
 rw[<-Ld];exact run_make_row' 30 3 (S R 0) 8 underlying30 Tryz.infoInt rfl R R n Y Y w
theorem FV(B:Nat):∀(D:Ja) (j d:Nat),j<D.length->val B (D.set j d)+B^j*D[j]?.getD 0=val B D+B^j*d
 |[],_,_,h=>by cases h
 |x::D,0,d,_=>by simp[val];omega
 |x::D,j+1,d,h=>by
  have a:=FV B D j d (by simpa using h);grind[val]
def Gs(B n:Nat):val B (Nl n 0)=0:=by
 induction n with
 |zero=>rfl
 |succ n a=>rw[Ch,val,a];simp
def Bs.set{B:Nat}{D:Ja}(h:Bs B D)(j:Nat){d:Nat}(b:d<B):Bs B (D.set j d):=λx c=>by
 rcases List.mem_or_eq_of_mem_set c with a|a
 . exact h x a
 . rw[a];exact b
def X8(a bs:Ja)(i:Nat)(D:Ja):Prop:=
 D.length=a.length+bs.length+1/\Bs 10000 D/\val 10000 D=val 10000 (a.take i)*val 10000 bs
def DP(a bs:Ja)(i k c:Nat)(D:Ja):Prop:=
 D.length=a.length+bs.length+1/\Bs 10000 D/\c<10000/\
  val 10000 D+10000^(i+k)*c=val 10000 (a.take i)*val 10000 bs+10000^i*(a[i]?.getD 0*val 10000 (bs.take k))
theorem X8.start(a bs:Ja):X8 a bs 0 (Nl (a.length+bs.length+1) 0):=
 ⟨AQ,λx b=>by grind,by rw[Gs];simp[val]⟩
def X8.inner{a bs:Ja}{i:Nat}{D:Ja}(h:X8 a bs i D):DP a bs i 0 0 D:=by
 obtain⟨b,c,d⟩:=h;refine⟨b,c,Y,?_⟩;rw[d];simp[val]
theorem DP.total{a bs:Ja}{i:Nat}{D:Ja}(h:DP a bs i k c D)(d:bs.length<=k):val 10000 D+10000^(i+k)*c=val 10000 (a.take (i+1))*val 10000 bs:=by
 obtain⟨_,_,_,b⟩:=h;grind[Ab,Jj]
def DP.done{a bs:Ja}{i:Nat}{D:Ja}(h:DP a bs i k 0 D)(b:bs.length<=k):X8 a bs (i+1) D:=by
 have:=h.total b;exact⟨h.1,h.2.1,Y⟩
def DP.over{a bs:Ja}{i:Nat}{D:Ja}(h:DP a bs i k c D)(g:Bs 10000 a)(j:Bs 10000 bs)(n:i<a.length)(o:bs.length<k):c=0:=by
 have l:=h.total Y;have d:=JJ (g.take (i+1));have e:=JJ j;rw[Ah,Cl Y]at d;have f:val 10000 (a.take (i+1))*val 10000 bs<10000^(i+1)*10000^bs.length:=Nat.mul_lt_mul'' d e;rw[<-Cm]at f;have m:10000^(i+1+bs.length)<=10000^(i+k):=Am Y Y;rcases Ag c with b|b
 . exact b
 . have:=Ai (10000^(i+k)) b;omega
theorem DP.step{a bs:Ja}{i:Nat}{D:Ja}(h:DP a bs i k c D)(d:Bs 10000 a)(e:Bs 10000 bs)(m:i+k<D.length)(c1:Nat)(l:c1=c+D[i+k]?.getD 0+a[i]?.getD 0*bs[k]?.getD 0):
 DP a bs i (k+1) (c1/10000) (D.set (i+k) (c1%10000)):=by
 obtain⟨f,b,g,j⟩:=h;have x1:=d.getD Y i;have n:=e.getD Y k;have o:=b.getD Y (i+k);have p:a[i]?.getD 0*bs[k]?.getD 0<=9999*9999:=C0 Y Y;refine⟨C3,b.set _ (Au _ Y),Y,?_⟩;grind[FV,Jj,Az]
theorem X8.fin{a bs D:Ja}{m:Nat}(h:X8 a bs a.length D)(d:a=Jb 10000 m)(e:bs=Jb 10000 n):Jl D=Jb 10000 (m*n):=by
 obtain⟨_,b,c⟩:=h;grind[JE,Je]
def Jd.keptG{W W':G}{B:Nat}{t:TypeId}{x y:H}{g:Nat}(h:Jd W B t x y)(a:W.grownBy W' (some g))(b:B≠g):Jd W' B t x y:=
 (a.block B h.lt λe=>b (by cases e;rfl)).trans h
theorem Le{x y:Nat}(a:x<10000)(b:y<10000):x*y<=99980001/\R.wrap ((x:Int)*(y:Int))=((x*y:Nat):Int):=by
 have h:x*y<=9999*9999:=C0 Y Y;grind[IntKind.wrap,IntKind.bits]
def Lf(a b:Nj)(j lb z A m n:Nat)(s t:Bool)(w:G)(ra:RN w (C a j z) m)(rb:RN w (C b lb A) n)(bi:j<=400000000000)(bj:lb<=400000000000):
 N F 67 #[L #[C a j z,E s],L #[C b lb A,E t]] w λe w'=>∃c lc cc,e=.returned (L #[C c lc cc,E ((s != t)&&decide (0<lc))])/\RN w' (C c lc cc) (m*n)/\Bl w w':=by
 obtain⟨W0,Q⟩:=ex (((w.alloc (I #[C a j z,E s] 32)).alloc (I #[C b lb A,E t] 32)).alloc (I #[C none 0 0,E false] 32));have Qk:Bl w W0:=by rw[<-Q];exact YT w _ _ _
 have b0:Jd W0 w.heap.size 32 (C a j z) (E s):=by rw[<-Q];exact((Jd.new w _ _ _).alloc _).alloc _
 have b1:Jd W0 (w.heap.size+1) 32 (C b lb A) (E t):=by
  have h:=(Jd.new (w.alloc (I #[C a j z,E s] 32)) 32 (C b lb A) (E t)).alloc (I #[C none 0 0,E false] 32);rw[BA,Q]at h;exact h
 have bR:Jd W0 (w.heap.size+1+1) 32 (C none 0 0) (E false):=by
  have h:=Jd.new ((w.alloc (I #[C a j z,E s] 32)).alloc (I #[C b lb A,E t] 32)) 32 (C none 0 0) (E false);rw[BA,BA,Q]at h;exact h
 have Ql:W0.heap.size=w.heap.size+3:=by rw[<-Q];simp
 obtain⟨aa,az,bk,bf,aj⟩:=Jk ra;obtain⟨ad,bc,bm,bg,ak⟩:=Jk rb;have HF:=Z λD (h:X8 (Jb 10000 m) (Jb 10000 n) (Jb 10000 m).length D)=>h.fin (m:=m) (n:=n) rfl rfl;have xa:=Jf (B:=10000) Y m;have xb:=Jf (B:=10000) Y n;have Qd:=Gr (j+lb+1) Y W0;rw[show((j+lb+1:Nat):Int)=(j:Int)+(lb:Int)+1 from by omega]at Qd;obtain⟨o,K⟩:=ex (W0.alloc (I (cellsOf R (Nl (j+lb+1) 0)).toArray 3));rw[K]at Qd;obtain⟨g,hg⟩:∃g,g=W0.heap.size:=⟨_,rfl⟩;rw[<-hg]at Qd Ql;have Qh:C8 o g (Nl (j+lb+1) 0):=by rw[<-K,hg];exact C8.made (BD W0 _)
 have U:Bl w o:=by rw[<-K];exact Qk.alloc Qk.size _
 have q0:Jd o w.heap.size 32 (C a j z) (E s):=by rw[<-K];exact b0.alloc _
 have q1:Jd o (w.heap.size+1) 32 (C b lb A) (E t):=by rw[<-K];exact b1.alloc _
 have qR:Jd o (w.heap.size+1+1) 32 (C none 0 0) (E false):=by rw[<-K];exact bR.alloc _
 have k0:=b0.c0;have k1:=b1.c0;have HS:=Z (X8.start (Jb 10000 m) (Jb 10000 n));generalize Jb 10000 m=us at *;generalize Jb 10000 n=vs at *;obtain⟨H1,H2,Qe,V⟩:=Da aj ak aa ad;rw[<-aa,<-ad]at HS;have bd:w.heap.size+2<g:=Y
 clear Ql;clear aj ak aa ad ra rb K hg b0 b1 bR;go_enter func67,ntmps67
 go_wp2;clear Q Qd k0 k1;go_loopw [6] (λiv wr=>∃(i:Nat) (D:Ja),iv=S R i/\i<=j/\Hid (X8 us vs i D)/\C8 wr g D/\o.grownBy wr (some g))
  (λiv _=>j-(intOf iv).toNat)
 case atStart=>exact⟨0,_,rfl,AM _,HS.o,Qh,Yd _ _⟩
 case round=>
  clear HS Qh;obtain⟨i,D,rfl,hi,T,l,f⟩:=hrel;have m0:=(q0.keptG f Y).c0;have m1:=(q0.keptG f Y).c1;have m2:=(q1.keptG f Y).c0;have m3:=(q1.keptG f Y).c1;by_cases am:i<j
  . have HI:=Z T.o.inner;clear T;obtain⟨ab,ao,rfl,ap,ah⟩:=H1.o i am;go_wp2;go_loopw [7,8] (λcv kv wr=>∃(c k:Nat) (D:Ja),cv=S R c/\kv=S R k/\k<=lb+1/\c<10000/\Hid (DP us vs i k c D)/\C8 wr g D/\o.grownBy wr (some g)) (λ_ kv _=>lb+2-(intOf kv).toNat)
    case atStart=>exact⟨0,0,D,rfl,rfl,Y,Y,HI,l,f⟩
    case round=>
     clear HI l f m0 m1 m2 m3;obtain⟨c,k,D,rfl,rfl,hk,hc,r,l,f⟩:=hrel;have m0:=(q0.keptG f Y).c0;have m2:=(q1.keptG f Y).c0;have Qf:=r.o.1;rw[<-Qe.o,<-V.o]at Qf;by_cases ay:k<lb
     . obtain⟨bb,bo,rfl,aq,ai⟩:=H2.o k ay;have bn:wr.cell? ⟨ab,ao+i,none⟩=some (S R (us[i]?.getD 0:Nat)):=(BM (w:=o) (f.block ab (by have:=U.size;omega) λe=>by cases e;omega)).trans ((U.cell (p:=⟨ab,ao+i,none⟩) ap).trans ah);have bp:wr.cell? ⟨bb,bo+k,none⟩=some (S R (vs[k]?.getD 0:Nat)):=(BM (w:=o) (f.block bb (by have:=U.size;omega) λe=>by cases e;omega)).trans ((U.cell (p:=⟨bb,bo+k,none⟩) aq).trans ai);have Qm:wr.cell? ⟨g,i+k,none⟩=some (S R (D[i+k]?.getD 0:Nat)):=l.cell Y;have Qn:=l.frozen (i+k);have y1:=xa.getD Y i;have y2:=xb.getD Y k;have y3:=r.o.2.1.getD Y (i+k);have P:=Z (r.o.step xa xb Y _ rfl);obtain⟨z1,z2⟩:=Le y1 y2;generalize us[i]?.getD 0=x at *;generalize vs[k]?.getD 0=y at *;generalize D[i+k]?.getD 0=d at *;generalize x*y=p at *;clear ah ai;go_upto_region 11 with fail
       go_quiet (fail)
       go_wp2;have e2:((c:Int)+(d:Int)+(p:Int))%10000=(((c+d+p)%10000:Nat):Int):=Y
       rw[e2];exact⟨⟨(c+d+p)/10000,k+1,D.set (i+k) ((c+d+p)%10000),by go_num,Br,Y,P.o.2.2.1,P,C8.set (W:=wr.drewN nq) l _ _,Jr (B:=wr.drewN nq) ⟨f.os,f.tape,f.output,f.size,f.block⟩ (JF _ _ _ _)⟩,by simp[intOf];omega⟩
     . rcases Ag c with ag|ag
       . subst ag;have HN:=Z (r.o.done (by rw[<-V.o];omega));clear r;go_wp2;exact⟨⟨i+1,D,Br,Y,HN,l,f⟩,by simp[intOf];omega⟩
       . have bh:k<=lb:=by
          rcases At lb k with h|h
          . have:=r.o.over xa xb (by rw[<-Qe.o];exact am) (by rw[<-V.o];exact h);omega
          . exact h
         have Qm:wr.cell? ⟨g,i+k,none⟩=some (S R (D[i+k]?.getD 0:Nat)):=l.cell Y;have Qn:=l.frozen (i+k);have y3:=r.o.2.1.getD Y (i+k);have Qi:vs[k]?.getD 0=0:=by rw[AC (by rw[<-V.o];omega)];rfl
         have P:=Z (r.o.step xa xb Y _ rfl);rw[Qi,AX,AK]at P;clear Qi;generalize D[i+k]?.getD 0=d at *;go_wp2;have e2:((c:Int)+(d:Int))%10000=(((c+d)%10000:Nat):Int):=Y
         rw[e2];exact⟨⟨(c+d)/10000,k+1,D.set (i+k) ((c+d)%10000),by go_num,Br,Y,P.o.2.2.1,P,C8.set l _ _,Jr f (JF _ _ _ _)⟩,by simp[intOf];omega⟩
  . obtain rfl:i=j:=Y
    have Qg:Row R wr (C (some ⟨g,0,none⟩) (i+lb+1) (i+lb+1)) D:=by
     have Qf:=T.o.1;rw[<-Qe.o,<-V.o]at Qf;have h1:=l.row 0 (i+lb+1) (i+lb+1) Y (Aa _) Y Y;rwa[As,Ab Y]at h1
    have Qo:=Z (HF.o D (by rw[<-Qe.o];exact T.o));have Qj:Bl w wr:=below_grown U f Y;have rR:=qR.keptG f Y;have p0:=q0.keptG f Y;have p1:=q1.keptG f Y;clear T HF H1 H2;go_upto_region 14 with fail
    have q:Bl wr wr.drew:=(BC _ wr).drew;have bt:¬(w.heap.size=w.heap.size+1+1):=Y
    go_region_held3 (λw'=>w'.cell? ⟨w.heap.size,1,none⟩=some (E s)/\w'.cell? ⟨w.heap.size+1,1,none⟩=some (E t)) (refine⟨?_,?_⟩<;>(first|(go_keep;done)|((repeat rw[Js Y]);simp[*];done)))
     (first
      |(go_at_call 56;refine(Dj _ D _ (Row.below Qg q)).mono ?_;rintro e w1 ⟨u,rfl,X,rfl⟩;rw[Qo.o]at X;obtain⟨a',c',rfl⟩:=RN.form X)
      |(go_at_call 93;refine(Df _ _ _ _ _).mono ?_;rintro e w2 ⟨rfl,ae⟩;have X:=Row.below X ae;have q:=Bt q ae;have m1:=(p0.below q).c1;have m3:=(p1.below q).c1;obtain⟨r0,r1⟩:=(rR.below q).cp;obtain⟨f0,f1⟩:=(rR.below q).fp))
    all_goals go_wp2_with fail
    obtain⟨hr,an⟩:=JH (C a' (Jb 10000 (m*n)).length c') (E (!(s==t)&&decide (0<(Jb 10000 (m*n)).length))) (Bt Qj q) Y (rR.below q) rfl rfl X;exact BB (v:=L #[C a' (Jb 10000 (m*n)).length c',E (!(s==t)&&decide (0<(Jb 10000 (m*n)).length))]) (by simp[results,results67,go_sem,r0,r1]) rfl ⟨_,_,_,rfl,hr,an⟩
def XQ(n o:H)(x y:Int)(w:G)(A:Jh w n x)(B:Jh w o y)(D:C7 x<=400000000000)(K:C7 y<=400000000000):
 N F 67 #[n,o] w λe j=>∃u,e=.returned u/\Jh j u (x*y)/\Bl w j:=by
 obtain⟨a,P,p,rfl,l⟩:=A;obtain⟨b,lb,q,rfl,m⟩:=B;have Q:=(Jk l).1;have T:=(Jk m).1;unfold C7 at D K;refine(Lf a b P lb p q _ _ _ _ w l m Y Y).mono ?_;rintro e j ⟨c,i,r,rfl,k,z⟩;refine⟨_,rfl,⟨c,i,r,?_,?_⟩,z⟩
 . have hl:=(Jk k).1;have s:((decide (x<0) != decide (y<0))&&decide (0<i))=decide (x*y<0):=by
    rw[Cj];simp only[AU,BV];have t:0<i↔x.natAbs*y.natAbs≠0:=by
     rw[hl,CD,Ne,Jq Y]
    rw[t];rcases CL x 0 with d|d|d<;>rcases CL y 0 with f|f|f
    . have:=Int.mul_pos_of_neg_of_neg d f;simp[d,f];omega
    . subst f;simp
    . have:=Int.mul_neg_of_neg_of_pos d f;have g:¬y<0:=Y
      simp only[d,g,decide_true,decide_false,this,iff_true];exact⟨rfl,Nat.mul_ne_zero Y Y⟩
    . subst d;simp
    . subst d;simp
    . subst d;simp
    . have:=Int.mul_neg_of_pos_of_neg d f;have g:¬x<0:=Y
      simp only[f,g,decide_true,decide_false,this,iff_true];exact⟨rfl,Nat.mul_ne_zero Y Y⟩
    . subst f;simp
    . have:=Int.mul_pos d f;have g:¬x<0:=Y
      have v:¬y<0:=Y
      simp[g,v];omega
   rw[s]
 . rw[Int.natAbs_mul];exact k
def EY{n:Int}(a:-9223372036854775808<=n)(b:n<=9223372036854775807):C7 n<=400000000000:=by
 have c:=Jt (B:=10000) Y (n:=n.natAbs) (k:=5) Y;unfold C7;omega
def Dl{W:G}{a:Nj}(h:RN W (C a l c) n):Jh W (L #[C a l c,E false]) (n:Int):=by
 refine⟨a,l,c,?_,by rw[AW];exact h⟩
 have:decide ((n:Int)<0)=false:=BE Y
 rw[this]
def Gt{W:G}{a:Nj}{q:Bool}{z:Int}(h:Jh W (L #[C a l c,E q]) z)(d:z=(n:Int)):RN W (C a l c) n/\q=false:=by
 obtain⟨g,i,c',e,b⟩:=h;simp only[Value.agg.injEq,Array.mk.injEq,List.cons.injEq,Value.slice.injEq,Value.bool.injEq,and_true]at e;obtain⟨⟨rfl,rfl,rfl⟩,f⟩:=e;rw[d,AW]at b;refine⟨b,?_⟩;rw[f,d];exact BE Y
def Lg(a:Nj)(o g:Nat)(b:Nj)(lb x m n:Nat)(w:G)(ra:RN w (C a o g) m)(W:RN w (C b lb x) n)(ad:m<n*10000)(ag:lb<=400000000000):
 N F 121 #[C a o g,C b lb x] w λe X=>e=.returned (S R ((m/n:Nat):Int))/\Bl w X:=by
 have Qi:C7 (n:Int)<=400000000000:=by unfold C7;rw[AW,<-(Jk W).1];exact ag
 obtain⟨Qk,Qj,Ql,Qm⟩:=Da Qi ra W ad;clear ra W ad Qi;go_enter func121,ntmps121
 go_wp2_with fail
 go_loopw [5,6] (λU Q wr=>∃lo d:Nat,U=S R (lo:Nat)/\Q=S R (d:Nat)/\lo<d/\d<=10000/\Hid (n*lo<=m/\m<n*d)/\Bl w wr)
  (λU Q _=>(intOf Q-intOf U).toNat)
 case atStart=>exact⟨0,10000,rfl,rfl,Y,Y,Z ⟨Y,Qm.o⟩,BC _ w⟩
 case round=>
  obtain⟨lo,d,rfl,rfl,y,h2,p,i⟩:=hrel;obtain⟨f,ah⟩:∃f:Nat,(d:Int)-(lo:Int)=(f:Int):=⟨d-lo,Y⟩;have w1:R.wrap (f:Int)=(f:Int):=IntWalk.i64_in _ Y;by_cases ai:1<f
  . obtain⟨sm,ak⟩:∃sm:Nat,(lo:Int)+(d:Int)=(sm:Int):=⟨lo+d,Y⟩;have w2:R.wrap (sm:Int)=(sm:Int):=IntWalk.i64_in _ Y;obtain⟨c,aj⟩:∃c:Nat,(sm:Int)/2=(c:Int):=⟨sm/2,Y⟩;have w3:R.wrap (c:Int)=(c:Int):=IntWalk.i64_in _ Y;have h3:lo<c/\c<d:=Y
    have Qg:=Z (DX (c:Nat) Y Y wr);have Qf:=Z λ(V:G) (u:H) (h:Bl wr V) (P:Jh V u (c:Nat))=>XQ (L #[C b lb x,E false]) u (n:Nat) (c:Nat) V (Dl (RN.below (RN.below Ql.o i) h)) P Qk.o (EY Y Y);obtain⟨cm,B⟩:=ex (J9 (n*c) m:Int);have Qe:=Z (show ∀(V:G) (u:H),Bl wr V->RN V u (n*c)->N F 99 #[u,C a o g] V λe X=>e=.returned (S R cm)/\Bl V X from λV u h P=>by
     have y:=Ev 10000 Y u (C a o g) (Jb 10000 (n*c)) (Jb 10000 m) V P (RN.below (RN.below Qj.o i) h) (Jf Y _) (Jf Y _) (JM Y _) (JM Y _);rw[Je Y,Je Y,B]at y;exact y)
    have Qd:=Z B;clear B;go_upto_region 6 with(first
     |(go_at_call 46;refine Qg.o.mono ?_;rintro e w5 ⟨u5,rfl,k,z⟩;obtain⟨a5,l5,c5,rfl⟩:=k.form;obtain⟨s5,D⟩:=ex (decide (((c:Nat):Int)<0));rw[D]at k;rw[D];clear D)
     |(go_at_call 67;refine(Qf.o _ _ z k).mono ?_;rintro e w6 ⟨u6,rfl,l,aa⟩;obtain⟨t,T,v,rfl⟩:=l.form;obtain⟨s6,K⟩:=ex (decide (((n:Nat):Int)*((c:Nat):Int)<0));rw[K]at l;rw[K];clear K))
    obtain⟨ae,rfl⟩:=Gt (n:=n*c) l (by rw[CJ]);have bx:=Jd.new w6 32 (C t T v) (E false);obtain⟨s,j⟩:=ex (w6.alloc (I #[C t T v,E false] 32));have r:Bl wr s:=by rw[<-j];exact((Bt z aa).alloc (Bt z aa).size _)
    have Qh:RN s (C t T v) (n*c):=by rw[<-j];exact RN.below ae (Ba w6 _)
    rw[j]at bx ⊢;have k0:=bx.c0;clear j Qg Qf k l ae;have Qb:Bl w s:=Bt i r;by_cases hle:cm<=0
    . have q:n*c<=m:=by
       have h:=Qd.o;unfold J9 at h;split at h
       . omega
       . split at h<;>omega
      go_wp2_with(go_at_call 99;refine(Qe.o _ _ r Qh).mono ?_;rintro e w8 ⟨rfl,A⟩)
      exact⟨⟨c,d,rfl,rfl,Y,h2,Z ⟨q,p.o.2⟩,Bt Qb A⟩,by simp[intOf];omega⟩
    . have q:m<n*c:=by
       have h:=Qd.o;unfold J9 at h;split at h
       . omega
       . split at h
         . assumption
         . omega
      go_wp2_with(go_at_call 99;refine(Qe.o _ _ r Qh).mono ?_;rintro e w8 ⟨rfl,A⟩)
      exact⟨⟨lo,c,rfl,rfl,Y,Y,Z ⟨p.o.1,q⟩,Bt Qb A⟩,by simp[intOf];omega⟩
  . have HE:=Z (show m/n=lo by
     obtain⟨e1,e2⟩:=p.o;have e3:d=lo+1:=Y
     rw[e3,CF,Nat.mul_one]at e2;apply Nat.le_antisymm
     . apply Cf;rw[Ak Y,Nat.succ_mul,Ao lo];exact e2
     . rw[Cx Y,Ao];exact e1)
    go_wp2_with fail
    go_ret;exact⟨by rw[HE.o];rfl,i⟩
end
namespace M3
def Dat.eq(x:H):Dat where
 ty:=0
 has _ v:=v=x
 noPoly:=true
 below h _:=h
 keep h _ _:=h
def Dat.any:Dat where
 ty:=0
 has _ _:=True
 noPoly:=true
 below h _:=h
 keep h _ _:=h
def blk:H->Nat
 |.pointer (some a)=>a.block
 |_=>0
def Dat.ptr:Dat where
 ty:=0
 has _ v:=v=.pointer (some ⟨blk v,0,none⟩)
 noPoly:=true
 below h _:=h
 keep h _ _:=h
def Dat.tup2(d1 a:Dat):Dat where
 ty:=0
 has V v:=Dy V v d1 a
 noPoly:=d1.noPoly&&a.noPoly
 below h hb:=Dy.below h hb
 keep h hk hp:=by
  obtain⟨x,y,e,b,c⟩:=h;exact⟨x,y,e,d1.keep b hk (hp.imp (λg=>(CN.1 g).1) id),a.keep c hk (hp.imp (λg=>(CN.1 g).2) id)⟩
def upd(f:Nat->H)(i:Nat)(u:H):Nat->H:=λj=>if j=i then u else f j
def more(D:Nat->Bool)(i:Nat):Nat->Bool:=λj=>j==i || D j
def Hs(ds:List Dat)(D:Nat->Bool)(V:G)(f:Nat->H):Prop:=∀k,D k=true->Has V (f k) (ds.getD k .any)
def Av(ds:List Dat)(dp:Ja)(V:G)(f:Nat->H):Prop:=∀k,k∈dp->Has V (f k) (ds.getD k .any)
def Dz(tab:List Ja)(i:Nat)(D:Nat->Bool)(l:Nat):Bool:=l != i&&((tab.getD i []).contains l || (!((tab.getD l []).contains i)&&D l))
def bl(tab:List Ja)(ws:Ja)(i:Nat)(D:Nat->Bool):List Bool:=ws.map (Dz tab i D)
section
variable {P:Program} {ops:Array Oper} {mk:(Nat->Value)->Act} {ds:List Dat} {ws:Ja} {J:List Bool->List Value->World->Prop} {tab:List Ja} {D:Nat->Bool} {f:Nat->Value} {V W:World} {dp:Ja} {i:Nat} {u x:Value} {o:Oper}
variable{b:H}
theorem Hs.mv(h:Hs ds D V f)(m:∀d v,(d∈ds\/d=.any)->Has V v d->Has W v d):Hs ds D W f:=λk a=>m _ _ (by
 grind) (h k a)
theorem Hs.put(h:Hs ds D V f)(i:Nat)(c:Has V u (ds.getD i .any)):Hs ds (more D i) V (upd f i u):=λk b=>by
 unfold upd;by_cases a:k=i
 . subst a;rw[BT rfl];exact c
 . rw[BR a];refine h k ?_;unfold more at b;grind
def Av.g(h:Av ds dp V f)(k:Nat)(a:k∈dp:=by decide):Has V (f k) (ds.getD k .any):=h k a
def Av.e(h:Av ds dp V f)(k:Nat)(e:ds.getD k .any=.eq x:=by rfl)(a:k∈dp:=by decide):f k=x:=by
 have:=h k a;rw[e]at this;exact this
def St(ds:List Dat)(ws:Ja)(J:List Bool->List H->G->Prop)(D:Nat->Bool)(f:Nat->H)(V:G):Prop:=Hs ds D V f/\J (ws.map D) (ws.map f) V
def c1{F:FuncId}{b:Ending->G->Prop}{a x:H}(h:a=x)(q:N P F #[x] V b):N P F #[a] V b:=by rw[h];exact q
def c2{F:FuncId}{c:Ending->G->Prop}{a x y:H}(h:a=x)(k:b=y)(q:N P F #[x,y] V c):N P F #[a,b] V c:=by rw[h,k];exact q
def c3{F:FuncId}{d:Ending->G->Prop}{a x y c z:H}(h:a=x)(k:b=y)(m:c=z)(q:N P F #[x,y,z] V d):N P F #[a,b,c] V d:=by rw[h,k,m];exact q
def Hs.e(h:Hs ds (λ_=>true) V f)(k:Nat)(e:ds.getD k .any=.eq x:=by rfl):f k=x:=by
 have:=h k rfl;rw[e]at this;exact this
def Hs.p(h:Hs ds (λ_=>true) V f)(k:Nat)(e:ds.getD k .any=.ptr:=by rfl):∃B,f k=.pointer (some ⟨B,0,none⟩):=by
 have:=h k rfl;rw[e]at this;exact⟨_,this⟩
def Lh{F:FuncId}{av:Array H}{d1 a:Dat}(q:N P F av V λe W=>∃u1 u2,e=.returned (.tuple #[u1,u2,E true])/\Has W u1 d1/\Has W u2 a/\Bl V W):N P F av V λe W=>∃u,e=.returned u/\Has W u (.tup2 d1 a)/\Bl V W:=q.mono λ_ _ ⟨_,_,e,b,c,d⟩=>⟨_,e,⟨_,_,rfl,b,c⟩,d⟩
def rv{F:FuncId}{av:Array H}{x:H}(q:N P F av V λe W=>e=.returned x/\Bl V W):N P F av V λe W=>∃u,e=.returned u/\Has W u (.eq x)/\Bl V W:=q.mono λ_ _ ⟨e,a⟩=>⟨_,e,rfl,a⟩
def Out(P:Program)(o:Oper)(a:Act)(V:G)(K:Act->G->Prop):Prop:=
 (∃r u W,(execOp a.eval o).run P V=.ok r W/\(r=.value u\/(r=.skip/\u=M))/\K (a.put o.dst u) W)\/∃F av,(execOp a.eval o).run P V=.ok (.enter F av) V/\N P F av V λe W=>∃u,e=.returned u/\K (a.put o.dst u) W
def EZ:Oper->Bool
 |{ op:=.defer _,.. }=>true
 |_=>false
section
variable {Q:Exit->Act->World->Prop} {K:Act->World->Prop} {a:Act}
def Out.op(h:Out P o a V K)(g:ops[i]?=some o)(f:Region.wanted o (yielded ops a.tmps)=true):wpOp P ops Q i K a V:=by
 unfold wpOp;rw[g];simp only[f,if_true];refine Aq ?_;unfold Oper.wp;rcases h with⟨r,u,W,c,j,b⟩|⟨F,av,c,d⟩
 . rw[c];rcases j with rfl|⟨rfl,rfl⟩
   . exact b
   . exact b
 . rw[c];refine d.mono ?_;rintro e W ⟨u,rfl,b⟩;exact b
end
def Does(P:Program)(ops:Array Oper)(i:Nat)(a:Act)(V:G)(K:Act->G->Prop):Prop:=∃o,ops[i]?=some o/\EZ o=false/\((Region.wanted o (yielded ops a.tmps)=true/\Out P o a V K)\/(Region.wanted o (yielded ops a.tmps)=false/\K (a.put o.dst M) V))
section
variable {Q:Exit->Act->World->Prop} {K K':Act->World->Prop} {a:Act}
def Does.op(h:Does P ops i a V K):wpOp P ops Q i K a V:=by
 obtain⟨o,c,_,⟨b,h⟩|⟨b,h⟩⟩:=h
 . exact h.op c b
 . unfold wpOp;rw[c];simp only[b,Co,if_false];exact h
def Does.mono(h:Does P ops i a V K)(b:∀f V',K f V'->K' f V'):Does P ops i a V K':=by
 obtain⟨o,g,j,⟨c,h⟩|⟨c,h⟩⟩:=h
 . refine⟨o,g,j,Aq ⟨c,?_⟩⟩;rcases h with⟨r,u,W,d,m,h⟩|⟨F,av,d,l⟩
   . exact Aq ⟨r,u,W,d,m,b _ _ h⟩
   . exact AN ⟨F,av,d,l.mono λe W ⟨u,k,h⟩=>⟨u,k,b _ _ h⟩⟩
 . exact⟨o,g,j,AN ⟨c,b _ _ h⟩⟩
end
def Stp(P:Program)(ops:Array Oper)(mk:(Nat->H)->Act)(ds:List Dat)(ws:Ja)(J:List Bool->List H->G->Prop)(tab:List Ja)(i:Nat):Prop:=
 ∀D f V,Av ds (tab.getD i []) V f->Hs ds D V f->J (bl tab ws i D) (ws.map f) V->ws.map D=bl tab ws i D->
  Does P ops i (mk f) V λa V'=>∃u,a=mk (upd f i u)/\St ds ws J (more D i) (upd f i u) V'
theorem St.step(d:ws.contains i=false)(h:J (ws.map D) (ws.map f) V):J (ws.map (more D i)) (ws.map (upd f i u)) V:=by
 have c:∀l∈ws,l≠i:=λl hl e=>by
  grind
 have a:ws.map (more D i)=ws.map D:=Cg λl hl=>by unfold more;grind
 have b:ws.map (upd f i u)=ws.map f:=Cg λl hl=>BR (c l hl);rw[a,b];exact h
def SB{n:Nat}{a:Nat->Prop}(h:a 0)(t:∀i,i<n->a (i+1)):∀i,i<n+1->a i
 |0,_=>h
 |i+1,b=>t i (Nat.lt_of_succ_lt_succ b)
def Stp.end_{a:Nat->Prop}:∀i,i<0->a i:=λ_ h=>absurd h (Nat.not_lt_zero _)
def Stp.cl{F:FuncId}{args:(Nat->H)->Array H}
(l:∀ {f V D},Av ds (tab.getD i []) V f->J (bl tab ws i D) (ws.map f) V->N P F (args f) V λe W=>∃u,e=.returned u/\Has W u (ds.getD i .any)/\Bl V W)
(k:∀b v V W,J b v V->Bl V W->J b v W:=by first|exact λ_ _ _ _ h a=>h.below a|exact λ_ _ _ _ h a=>⟨h.1.below a,h.2.below a⟩)(q:ops[i]?=some o:=by rfl)(m:∀ {f V},Av ds (tab.getD i []) V f->Region.wanted o (yielded ops (mk f).tmps)=true:=by exact λ_=>rfl)(n:ws.contains i=false:=by rfl)
(t:∀f V,(execOp (mk f).eval o).run P V=.ok (.enter F (args f)) V:=by intro f V;kernel_rfl)(p:∀f u,(mk f).put o.dst u=mk (upd f i u):=by intro f u;kernel_rfl)(r:EZ o=false:=by rfl):Stp P ops mk ds ws J tab i:=λD f V g hs j a=>⟨o,q,r,Aq ⟨m g,AN ⟨F,args f,t f V,by
 refine(l g j).mono ?_;rintro e W ⟨u,rfl,s,c⟩;exact⟨u,rfl,u,p f u,(hs.mv λd v _ h=>h.below c).put i s,St.step n (k _ _ _ _ (by rw[a];exact j) c)⟩⟩⟩⟩
def Stp.vl(j:ops[i]?=some o)(m:∀ {f V D},Av ds (tab.getD i []) V f->J (bl tab ws i D) (ws.map f) V->∃u,(execOp (mk f).eval o).run P V=.ok (.value u) V/\Has V u (ds.getD i .any))
(d:∀ {f V},Av ds (tab.getD i []) V f->Region.wanted o (yielded ops (mk f).tmps)=true:=by exact λ_=>rfl)(e:ws.contains i=false:=by rfl)(g:∀f u,(mk f).put o.dst u=mk (upd f i u):=by intro f u;kernel_rfl)(k:EZ o=false:=by rfl):Stp P ops mk ds ws J tab i:=λD f V a hs b c=>by
 obtain⟨u,n,l⟩:=m a b;exact⟨o,j,k,Aq ⟨d a,Aq ⟨_,u,V,n,Aq rfl,u,g f u,hs.put i l,St.step e (by rw[c];exact b)⟩⟩⟩
def Stp.wr(p:ops[i]?=some o)(w:∀ {f V D},Av ds (tab.getD i []) V f->J (bl tab ws i D) (ws.map f) V->∃r u W,(execOp (mk f).eval o).run P V=.ok r W/\(r=.value u\/(r=.skip/\u=M))/\Has W u (ds.getD i .any)/\(∀d v,(d∈ds\/d=.any)->Has V v d->Has W v d)/\J (ws.map (more (Dz tab i D) i)) (ws.map (upd f i u)) W)
(j:∀ {f V},Av ds (tab.getD i []) V f->Region.wanted o (yielded ops (mk f).tmps)=true:=by exact λ_=>rfl)(n:∀f u,(mk f).put o.dst u=mk (upd f i u):=by intro f u;kernel_rfl)(q:EZ o=false:=by rfl):Stp P ops mk ds ws J tab i:=λD f V b hs k g=>by
 obtain⟨r,u,W,x,s,t,m,a⟩:=w b k;have e:ws.map (more (Dz tab i D) i)=ws.map (more D i):=Cg λl hl=>by
  have c:=List.map_inj_left.1 g l hl;show(l==i || Dz tab i D l)=(l==i || D l);rw[<-c]
 rw[e]at a;exact⟨o,p,q,Aq ⟨j b,Aq ⟨r,u,W,x,s,u,n f u,(hs.mv m).put i t,a⟩⟩⟩
theorem Li(b:∀l dp,tab[l]?=some dp->D l=true->∀k∈dp,D k=true)(c:∀k∈tab.getD i [],D k=true)(a:D i=false)(d:∀l∈ws,l<tab.length):ws.map D=bl tab ws i D:=Cg λl hl=>by
 grind[Dz]
def D0(a:Act):List (Option Tmp)->Nat->(Nat->H)->Act
 |[],_,_=>a
 |d::ds,k,f=>D0 (a.put d (f k)) ds (k+1) f
def FW(a:Act):Option (Option Tmp)->H
 |some (some t)=>a.tmps.getD t M
 |_=>M
def Gu(a:Act):∀(ds:List (Option Tmp)) (k:Nat) (f:Nat->H),(∀j,j<ds.length->f (k+j)=FW a ds[j]?)->D0 a ds k f=a
 |[],_,_,_=>rfl
 |d::ds,k,f,h=>by
  have e:a.put d (f k)=a:=by
   have c:f k=FW a (some d):=h 0 (Nat.zero_lt_succ _);rw[c];cases d with
   |none=>rfl
   |some t=>
    show({ a with tmps:=a.tmps.setIfInBounds t (a.tmps.getD t M) }:Act)=a
    have:a.tmps.setIfInBounds t (a.tmps.getD t M)=a.tmps:=by
     apply Array.ext_getElem?;intro i;rw[Array.getElem?_setIfInBounds];by_cases b:t=i
     . subst b;by_cases hs:t<a.tmps.size
       . simp[hs]
       . simp[hs]
     . rw[BR b]
    rw[this]
  show D0 (a.put d (f k)) ds (k+1) f=a;rw[e];exact Gu a ds (k+1) f λj g=>by
   rw[Nat.add_right_comm,Nat.add_assoc];exact h (j+1) (Nat.succ_lt_succ g)
def DV(ops:Array Oper)(a:Act)(f:Nat->H):Act:=D0 a (ops.toList.map Oper.dst) 0 f
def Lj{a:Act}{dp:Ja}{K:Act->G->Prop}(p:∀l dp,tab[l]?=some dp->D l=true->∀k∈dp,D k=true)(q:tab[i]?=some dp)(g:∀k∈dp,D k=true)(n:D i=false)(s:(ws.all λl=>decide (l<tab.length))=true)
(t:∀i,i<tab.length->Stp P ops (DV ops a) ds ws J tab i)(c:St ds ws J D f V)(o:∀b V',(∃f,b=DV ops a f/\St ds ws J (more D i) f V')->K b V'):Does P ops i (DV ops a f) V K:=by
 have e:tab.getD i []=dp:=C3
 have d:=Li p (e ▸ g) n λl hl=>BZ (AZ.1 s l hl);exact(t i (AB.1 q).1 D f V (λk r=>c.1 k (g k (by rw[<-e];exact r))) c.1 (by rw[<-d];exact c.2) d).mono λb V' ⟨u,j,m⟩=>o _ _ ⟨_,j,m⟩
def Lk(e:(ws.all λl=>decide (l<tab.length))=true)(c:decide (ds.length<=tab.length)=true)(b:∀i,i<tab.length->D i=true)(a:St ds ws J D f V):Hs ds (λ_=>true) V f/\J (ws.map λ_=>true) (ws.map f) V:=by
 refine⟨λk _=>?_,?_⟩
 . by_cases d:k<tab.length
   . exact a.1 k (b k d)
   . have:=BZ c;rw[List.getD_eq_getElem?_getD,AC Y];trivial
 . rw[Cg (g:=D) λl hl=>(b l (BZ (AZ.1 e l hl))).symm];exact a.2
def D3(tab a:List Ja):Bool:=tab.length==a.length&&(List.range a.length).all λi=>(a.getD i []).all λk=>(tab.getD i []).contains k || (tab.getD i []).any λj=>decide (j<i)&&(a.getD j []).contains k
theorem Gv{a:List Ja}(h:D3 tab a=true)(i:Nat)(b:i<a.length)(k:Nat)(c:k∈a.getD i []):k∈tab.getD i []\/∃j,j<i/\j∈tab.getD i []/\k∈a.getD j []:=by
 have d:=AZ.1 (AZ.1 (CN.1 h).2 i (List.mem_range.2 b)) k c;grind
theorem FX{a:List Ja}(h:D3 tab a=true):tab.length=a.length:=eq_of_beq (CN.1 h).1
def getD_at{t:List Ja}{i:Nat}(h:i<t.length):t[i]?=some (t.getD i []):=C3
theorem Gw{a:List Ja}(h:D3 tab a=true)(c:∀l dp,tab[l]?=some dp->D l=true->∀k∈dp,D k=true)(l:Nat):D l=true->∀k∈a.getD l [],D k=true:=by
 induction l using Nat.strongRecOn with
 |ind l e=>
  intro b k d;grind[FX,Gv]
theorem Ll{b:List Ja}{a:Act}{dp:Ja}{K:Act->G->Prop}(h:D3 tab b=true)(g:∀l dp,tab[l]?=some dp->D l=true->∀k∈dp,D k=true)(v:tab[i]?=some dp)(m:∀k∈dp,D k=true)(q:D i=false)(t:(ws.all λl=>decide (l<b.length))=true)
(u:∀i,i<b.length->Stp P ops (DV ops a) ds ws J b i)(r:St ds ws J D f V)(s:∀d V',(∃f,d=DV ops a f/\St ds ws J (more D i) f V')->K d V'):Does P ops i (DV ops a f) V K:=by
 have hl:i<b.length:=by grind[FX]
 have e:tab.getD i []=dp:=C3
 refine Lj (λl dp hl p k n=>Gw h g l p k C3) (getD_at hl) (λk n=>?_) q t u r s;rcases Gv h i hl k n with c|⟨j,_,c,o⟩
 . exact m k (e ▸ c)
 . exact Gw h g j (m j (e ▸ c)) k o
def FY{id:Nat}{a:Act}{w:G}{Q:Exit->Act->G->Prop}(v:P.follows .mixedOrders=true)(b:List Ja)(ds:List Dat)(ws:Ja)(J:List Bool->List H->G->Prop)
(start:J (ws.map λ_=>false) (ws.map λk=>FW a (ops.toList.map Oper.dst)[k]?) w.drew)
(x:∀i,i<b.length->Stp P ops (DV ops a) ds ws J b i)
(fin:∀f V,Hs ds (λ_=>true) V f->J (ws.map λ_=>true) (ws.map f) V->Q .normal (DV ops a f) V)
(e:D3 (Region.tabAfter .any ops) b=true:=by kernel_rfl)(u:Y0 (Region.tabAfter .any ops)=true:=by kernel_rfl)(g:(ws.all λl=>decide (l<b.length))=true:=by rfl)(s:decide (ds.length<=b.length)=true:=by rfl):(Code.region id ops true).wp P Q a w:=by
 refine J8 v _ rfl u (λD m V=>∃f,m=DV ops a f/\St ds ws J D f V) ⟨_,(Gu a _ 0 _ λj _=>by rw[Cd]).symm,Cy (λ_ h=>Bool.noConfusion h) start⟩ ?_ ?_
 . rintro D _ V i dp r d t p ⟨f,rfl,c⟩;exact(Ll e r d t p g x c λ_ _ h=>h).op
 . rintro D _ V q ⟨f,rfl,c⟩;obtain⟨n,o⟩:=Lk g s (λi d=>q i (by rw[FX e];exact d)) c;exact fin f V n o
def Db{p q:Prop}(k:q)(h:q->p:=by intro x;simp only[DV,D0,List.map_cons,List.map_nil,Act.put,List.setIfInBounds_toArray,List.set_cons_succ,List.set_cons_zero,Nat.reduceAdd];exact x):p:=h k
end
end M3
namespace M3
section
variable {w V:World} {bs:List (Option (Nat × Dat))} {B:Nat} {ρ:Operand->Value} {x y:Operand} {dst:Option Tmp} {ty:TypeId} {ps:String} {af:Array Edge} {gd:Option (Nat × Bool)} {q q0:Rat} {z z0:Int} {p p0:X} {v p1 u1:Value} {ds:List Dat} {T:World->Value->Prop}
variable{d d1:Dat}{b:Int}
def Gx(i:Nat)(e:Bu w V bs)(h:bs[i]?=some (some (B,.rat q)):=by rfl)(hp:p1=.pointer (some ⟨B,0,none⟩):=by rfl)(f:ρ x=p1:=by kernel_rfl):∃u,(execOp ρ { dst:=dst,op:=.load 27 x,type:=ty,pos:=ps,after:=af,guard:=gd }).run F V=.ok (.value u) V/\Has V u (.rat q):=by
 rw[hp]at f;obtain⟨s,a,l,c,t,b,k,d,n,r,_,_⟩:=e.rat h;obtain⟨g,j,m,o⟩:=n.kb;exact⟨_,by go_simp,r⟩
def Gy(i:Nat)(b:Bu w V bs)(h:bs[i]?=some (some (B,.int z)):=by rfl)(hp:p1=.pointer (some ⟨B,0,none⟩):=by rfl)(d:ρ x=p1:=by kernel_rfl):∃u,(execOp ρ { dst:=dst,op:=.load 25 x,type:=ty,pos:=ps,after:=af,guard:=gd }).run F V=.ok (.value u) V/\Has V u (.int z):=by
 rw[hp]at d;obtain⟨s,a,l,c,n,r⟩:=b.int h;obtain⟨e,f⟩:=n.ka;exact⟨_,by go_simp,r⟩
def Lm(i:Nat){a:Int}(e:Bu w V bs)(h:bs[i]?=some (some (B,.pair a b)):=by rfl)(hp:p1=.pointer (some ⟨B,0,none⟩):=by rfl)(f:ρ x=p1:=by kernel_rfl):∃u,(execOp ρ { dst:=dst,op:=.load 25 x,type:=ty,pos:=ps,after:=af,guard:=gd }).run F V=.ok (.value u) V/\Has V u (.int a):=by
 rw[hp]at f;obtain⟨s,a,l,c,t,b,k,d,n,_,r,_⟩:=e.pair h;obtain⟨g,j,m,o⟩:=n.kb;exact⟨_,by go_simp,r⟩
def Ln(i:Nat){a:Int}(e:Bu w V bs)(h:bs[i]?=some (some (B,.pair a b)):=by rfl)(hp:p1=.pointer (some ⟨B,0,none⟩):=by rfl)(f:ρ x=p1:=by kernel_rfl):∃u,(execOp ρ { dst:=dst,op:=.load 27 x,type:=ty,pos:=ps,after:=af,guard:=gd }).run F V=.ok (.value u) V/\Has V u (.pair a b):=by
 rw[hp]at f;obtain⟨s,a,l,c,t,b,k,d,n,r,_,_⟩:=e.pair h;obtain⟨g,j,m,o⟩:=n.kb;exact⟨_,by go_simp,r⟩
def Ea(i:Nat)(e:Bu w V bs)(h:bs[i]?=some (some (B,.rat q)):=by rfl)(hp:p1=.pointer (some ⟨B,0,none⟩):=by rfl)(f:ρ x=p1:=by kernel_rfl):∃u,(execOp ρ { dst:=dst,op:=.load 25 x,type:=ty,pos:=ps,after:=af,guard:=gd }).run F V=.ok (.value u) V/\Has V u (.int q.num):=by
 rw[hp]at f;obtain⟨s,a,l,c,t,b,k,d,n,_,r,_⟩:=e.rat h;obtain⟨g,j,m,o⟩:=n.kb;exact⟨_,by go_simp,r⟩
def mv{y:H}(h:ρ x=y:=by kernel_rfl):∃u,(execOp ρ { dst:=dst,op:=.move x,type:=ty,pos:=ps,after:=af,guard:=gd }).run F V=.ok (.value u) V/\Has V u (.eq y):=⟨_,rfl,h⟩
def av{y:H}(h:ρ x=y:=by kernel_rfl):∃u,(execOp ρ { dst:=dst,op:=.assign x,type:=ty,pos:=ps,after:=af,guard:=gd }).run F V=.ok (.value u) V/\Has V u (.eq y):=⟨_,rfl,h⟩
def mw(a:Has V u1 d)(h:ρ x=u1:=by kernel_rfl):∃u,(execOp ρ { dst:=dst,op:=.move x,type:=ty,pos:=ps,after:=af,guard:=gd }).run F V=.ok (.value u) V/\Has V u d:=⟨_,rfl,h ▸ a⟩
def aw(a:Has V u1 d)(h:ρ x=u1:=by kernel_rfl):∃u,(execOp ρ { dst:=dst,op:=.assign x,type:=ty,pos:=ps,after:=af,guard:=gd }).run F V=.ok (.value u) V/\Has V u d:=⟨_,rfl,h ▸ a⟩
def Wr(ρ:Operand->H)(o:Oper)(V:G)(ds:List Dat)(d:Dat)(T:G->H->Prop):Prop:=∃r u W,(execOp ρ o).run F V=.ok r W/\(r=.value u\/(r=.skip/\u=M))/\Has W u d/\(∀d v,(d∈ds\/d=.any)->Has V v d->Has W v d)/\T W u
def D4(i:Nat)(g:Bu w V bs)(f:Has V u1 (.int z))(h:bs[i]?=some (some (B,.int z0)):=by rfl)(hp:p1=.pointer (some ⟨B,0,none⟩):=by rfl)(p:ρ x=p1:=by kernel_rfl)(q:ρ y=u1:=by kernel_rfl)(o:ds.all Dat.noPoly=true:=by rfl)(j:∀ {s a l c x y},Jd V B 25 (E s) (C a l c)->Bu w ((V.setCell ⟨B,0,none⟩ x).setCell ⟨B,1,none⟩ y) (bs.set i (some (B,.int z)))->T ((V.setCell ⟨B,0,none⟩ x).setCell ⟨B,1,none⟩ y) M:=by exact λ_ m=>m):Wr ρ { dst:=none,op:=.store 25 x y,type:=ty,pos:=ps,after:=af,guard:=gd } V ds (.eq M) T:=by
 rw[hp]at p;obtain⟨s,a,l,c,n,r⟩:=g.int h;obtain⟨u,A⟩:=n.ka;obtain⟨f0,f1⟩:=n.fa;obtain⟨K,t,D,c1,e⟩:=Jg.form2 (show Jg V _ _ from f);rw[e]at f;rw[e]at q;exact⟨.skip,M,_,by go_simp,AN ⟨rfl,rfl⟩,rfl,λd v b k=>k.set2 n rfl rfl _ _ (by rcases b with b|rfl;exact AZ.1 o d b;rfl),j n (g.putInt h f)⟩
def D5(i:Nat)(a:Bu w V bs)(h:bs[i]?=some none:=by rfl)(b:∀ {o},Bu w (V.alloc o) (bs.set i (some (V.heap.size,.int 0)))->T (V.alloc o) (.pointer (some ⟨V.heap.size,0,none⟩)):=by exact λm=>m):Wr ρ { dst:=dst,op:=.alloc 25,type:=ty,pos:=ps,after:=af,guard:=gd } V ds .ptr T:=
 ⟨_,.pointer (some ⟨V.heap.size,0,none⟩),_,by go_simp;exact rfl,Aq rfl,rfl,λ_ _ _ k=>k.alloc _,b (a.fill h (.int 0) (X4 V))⟩
def nb(b:List Bool)(v:List H)(a l:Nat)(d0 d1:Dat):Option (Nat × Dat):=if b.getD a false then some (blk (v.getD a M),if b.getD l false then d1 else d0)else none
def Lo{a:Dat}(h:Has V p1 (.tup2 d1 a))(c:ρ x=p1:=by kernel_rfl):∃u,(execOp ρ { dst:=dst,op:=.extract x 0,type:=ty,pos:=ps,after:=af,guard:=gd }).run F V=.ok (.value u) V/\Has V u d1:=by
 obtain⟨u,v,e,b,d⟩:=h;rw[e]at c;exact⟨_,by go_simp,b⟩
def Lp{a:Dat}(h:Has V p1 (.tup2 d1 a))(c:ρ x=p1:=by kernel_rfl):∃u,(execOp ρ { dst:=dst,op:=.extract x 1,type:=ty,pos:=ps,after:=af,guard:=gd }).run F V=.ok (.value u) V/\Has V u a:=by
 obtain⟨u,v,e,d,b⟩:=h;rw[e]at c;exact⟨_,by go_simp,b⟩
def Lq{a:Dat}(h:Has V p1 (.tup2 d1 a))(b:ρ x=p1:=by kernel_rfl):∃u,(execOp ρ { dst:=dst,op:=.extract x 2,type:=ty,pos:=ps,after:=af,guard:=gd }).run F V=.ok (.value u) V/\Has V u (.eq (E true)):=by
 obtain⟨u,v,e,c,d⟩:=h;rw[e]at b;exact⟨_,by go_simp,rfl⟩
end
def FZ{p q:Prop}(k:p)(h:p->q:=by intro x;simp only[nb,List.map_cons,List.map_nil,List.getD_cons_zero,List.getD_cons_succ,if_true,blk]at x;exact x):q:=h k
end M3
def Lr(a:Nj)(c i:Nat)(b:Nj)(lb j m n:Nat)(w:G)(z:c+lb<=1099511627776)
(l:Row .u64 w (C a c i) (Jb O m))(o:Row .u64 w (C b lb j) (Jb O n)):
 N F 86 #[C a c i,C b lb j] w λe t=>∃u,e=.returned u/\UN t u (m*n)/\Bl w t:=by
 have r:=YP (c+lb) Y w;rw[show((c+lb:Nat):Int)=(c:Int)+(lb:Int)from by omega]at r;obtain⟨d,f⟩:∃d,d=w.alloc (I (cellsOf .u64 (Nl (c+lb) 0)).toArray 94):=⟨_,rfl⟩;have g:Bl w d:=by rw[f];exact Ba w _
 have q:Bv d w.heap.size (Nl (c+lb) 0):=by rw[f];exact Bv.made (BD w _)
 rw[<-f]at r;have v:=Z (FM w.heap.size (c+lb) (c+lb) (Nl (c+lb) 0) a c i b lb j m n d q (λx A=>by rw[Cb A];unfold O;omega) C3 (Aa _) Y z (Row.below l g) (Row.below o g)
  (λp e k=>by have:=XK l e k;omega) λp e k=>by have:=XK o e k;omega)
 clear f q l o;go_enter func86,ntmps86
 go_wp2_with(go_at_call 105;refine v.o.mono ?_;rintro e K ⟨u,rfl,⟨s,y⟩,_,_⟩;obtain⟨B,D,rfl⟩:=UN.form s)
 go_ret;exact⟨_,rfl,s,below_grown g y (Aa _)⟩
def Xl(X vb:H)(x y:Int)(w:G)(ha:Jg w X x)(hb:Jg w vb y)(hl:(Jb O x.natAbs).length+(Jb O y.natAbs).length<=1099511627776):
 N F 51 #[X,vb] w λe g=>∃u,e=.returned u/\Jg g u (x*y)/\Bl w g:=by
 obtain⟨a,D,m,o,j⟩:=ha;cases o;obtain⟨b,lb,n,o,B⟩:=hb;cases o;have Qc:=j.len;have Qd:=B.len;obtain⟨s,hs⟩:=ex (decide (x<0));obtain⟨t,z⟩:=ex (decide (y<0));have K:(if(!(s==t))=true then -((x.natAbs*y.natAbs:Nat):Int)else((x.natAbs*y.natAbs:Nat):Int))=x*y:=by
  rw[<-hs,<-z,<-Int.natAbs_mul];rcases CL x 0 with d|d|d<;>rcases CL y 0 with f|f|f
  . have:=Int.mul_pos_of_neg_of_neg d f;simp[d,f];omega
  . subst f;simp
  . have:=Int.mul_neg_of_neg_of_pos d f;have i:¬y<0:=Y
    simp[d,i];omega
  . subst d;simp
  . subst d;simp
  . subst d;simp
  . have:=Int.mul_neg_of_pos_of_neg d f;have i:¬x<0:=Y
    simp[f,i];omega
  . subst f;simp
  . have:=Int.mul_pos d f;have i:¬x<0:=Y
    have h2:¬y<0:=Y
    simp[i,h2];omega
 rw[hs,z];obtain⟨W0,r⟩:=ex (((w.alloc (I #[E s,C a D m] 25)).alloc (I #[E t,C b lb n] 25)).alloc (I #[E false,C none 0 0] 25));obtain⟨q,b0,k,l⟩:=ED r;have HT:=Z λ(V:G) (h:Bl W0 V)=>Lr a D m b lb n _ _ V Y (UN.below (UN.below j q) h) (UN.below (UN.below B q) h);have HS:=Z (λ(V:G) (u:H) (j:UN V u (x.natAbs*y.natAbs))=>show N F 58 #[E (!(s==t)),u] V λe g=>∃u,e=.returned u/\Jg g u (x*y)/\Bl V g by
  have i:=YZ (!(s==t)) u _ V j;rw[K]at i;exact i)
 clear j B K hs z Qc Qd hl;go_enter func51,ntmps51
 go_wp2_with fail
 try rw[r]
 clear r;have c:Bl W0 W0.drew:=(BC _ W0).drew;obtain⟨Q,T⟩:=b0.cp;obtain⟨U,W⟩:=k.cp;have ae:¬(w.heap.size=w.heap.size+1+1):=Y
 go_region_held3 (λg=>g.cell? ⟨w.heap.size,0,none⟩=some (E s)/\g.cell? ⟨w.heap.size,1,none⟩=some (C a D m)/\g.cell? ⟨w.heap.size+1,0,none⟩=some (E t)/\g.cell? ⟨w.heap.size+1,1,none⟩=some (C b lb n)) (refine⟨?_,?_,?_,?_⟩<;>(first|(go_keep;done)|((repeat rw[Js Y]);simp[*];done)))
  (first
   |(go_at_call 86;refine(HT.o _ c).mono ?_;rintro e w1 ⟨u1,rfl,P,aa⟩;obtain⟨na,nc,rfl⟩:=UN.form P;have c:=Bt c aa;obtain⟨Q,T⟩:=(b0.below c).cp;obtain⟨U,W⟩:=(k.below c).cp)
   |(go_at_call 58;refine(HS.o _ _ P).mono ?_;rintro e w2 ⟨u2,rfl,A,ad⟩;obtain⟨sa,sl,sc,rfl⟩:=A.form;obtain⟨s2,v⟩:=ex (decide (x*y<0));rw[v]at A;rw[v];clear v;have c:=Bt c ad;obtain⟨Q,T⟩:=(b0.below c).cp;obtain⟨U,W⟩:=(k.below c).cp;obtain⟨r0,r1⟩:=(l.below c).cp;obtain⟨f0,f1⟩:=(l.below c).fp))
 all_goals go_wp2_with fail
 have Qe:=Bt q c;have Qa:=A.box (l.below c) rfl rfl (x0:=E s2) (x1:=C sa sl sc);exact BB (by simp[results,results51,go_sem,r0,r1]) rfl ⟨_,rfl,Qa,(Qe.setCell (p:=⟨_,0,none⟩) so _).setCell (p:=⟨_,1,none⟩) so _⟩
def Ls:∀k:Fin 201,k.val≠0->k.val/2^(Lib.bitLen k.val-1)=1/\1<=Lib.bitLen k.val/\Lib.bitLen k.val<=8:=D8
def Gz{m e a:Nat}(h:a=(Jb O m).length)(d:0<e):(Jb O (m^e)).length<=a*e:=by
 have b:=JJ (Jf Jc m);rw[Je Jc,<-h]at b;have c:m^e<O^(a*e):=by
  rw[Nat.pow_mul];exact Nat.pow_lt_pow_left b Y
 exact Jt Jc c
theorem Lt(a:Nj)(b d:Nat)(i:Ja)(w:G)(A:Row .u64 w (C a b d) i):
 N F 78 #[C a b d] w λe c=>∃n s,e=.returned (C n b s)/\Row .u64 c (C n b s) i/\(∀p,n=some p->0<b->w.heap.size<=p.block/\p.block<c.heap.size)/\Bl w c:=by
 obtain⟨hl,P,Q,z,y⟩:=Jk A;rcases Ag b with k|k
 . subst k;obtain rfl:i=[]:=Ad hl.symm;cases a with
   |none=>
    refine(GM 0 d w).mono ?_;rintro e c ⟨rfl,rfl⟩;exact⟨none,0,rfl,⟨none,0,rfl,Aa _,Y,Y,Aq rfl⟩,λp e _=>(by cases e),BC _ _⟩
   |some p=>
    refine(Y1 p d [] w Br λj r=>by simp at r).mono ?_;rintro e c ⟨B,rfl,f,m⟩;rcases f.2 with⟨ev,_⟩|⟨g,cap,v,ev,_,_,q,l,_⟩
    . subst ev;exact⟨none,0,rfl,⟨none,0,rfl,Aa _,Y,Y,Aq rfl⟩,λp e _=>(by cases e),m⟩
    . subst ev;exact⟨_,cap,rfl,⟨_,cap,rfl,AM _,l,Br,Aq rfl⟩,λp _ h=>by simp at h,m⟩
 . obtain⟨t,u,rfl,_,_⟩:=y 0 k;have o:=Y1 ⟨t,u,none⟩ d i w Y (λj r=>by
    grind[Xu])
   rw[<-hl]at o;refine o.mono ?_;rintro e c ⟨B,rfl,f,m⟩;rcases f.2 with⟨_,ev⟩|⟨g,cap,v,ev,D,K,q,l,_⟩
   . omega
   . subst ev;have x:=Bv.owns f;have T:=x.row 0 b cap Y q l z;grind
def and_one:∀f:Fin 201,bits BinOp.and IntKind.u64 (f.val:Int) 1=((f.val%2:Nat):Int):=D8
def Lu(a:Nj)(c ca m k:Nat)(w:G)(ra:Row .u64 w (C a c ca) (Jb O m))(du:1<=k)(dw:k<=200)(e7:c*k<=400000000000):
 N F 74 #[C a c ca,S .u64 (k:Nat)] w λe w'=>∃u,e=.returned u/\UN w' u (m^k)/\Bl w w':=by
 obtain⟨bh,dt,eb,e6,Uc⟩:=Jk ra;have Qy:=Z (Lt a c ca _ w ra);have Ua:=Z ra;have Ud:R.wrap (k:Int)=(k:Int):=by simp[IntKind.wrap,IntKind.signed,IntKind.bits];omega
 obtain⟨b,bc⟩:∃b,b=c*k:=⟨_,rfl⟩;have hL:b<=400000000000:=Y
 have Uk:R.wrap ((c:Int)*(k:Int))=(b:Int):=by
  have e:(c:Int)*(k:Int)=((c*k:Nat):Int):=by rw[CJ]
  rw[e,<-bc];simp[IntKind.wrap,IntKind.signed,IntKind.bits];omega
 have Qv:=Z bc;have Qz:=Z bh;clear Uc bh ra bc;go_enter func74,ntmps74
 go_upto_region 2 with(go_at_call 78;refine Qy.o.mono ?_;rintro e w2 ⟨za,zc,rfl,hz,cy,bd⟩)
 refine J8 DT [[],[0],[],[2],[1,3],[4,4],[],[6],[],[8],[7,9],[10,10],[5,0,1,2,3,4,5],[11,12,0,1,2,3,4,5,6,7,8,9,10,11,12]] Nk Bz
  (λD a0 V=>∃n o:Nat,∃t6 t7 ad ae ag ah ai aj ak am an ap aq ay:H,a0={ tmps:=#[C a c ca,S .u64 (k:Nat),M,M,C none 0 0,C za c zc,t6,t7,M,C a c ca,C za c zc,ad,ae,ag,ah,ai,aj,ak,am,an,ap,aq,ay,M,M,M,M,M,M,M,M,M,M,M,M,M,M,M,M,M,M,M,M,M,M,M,M,M,M],defers:=[] }/\
   Hid (D 0=true->ad=C a c ca)/\Hid (D 1=true->ae=S R (c:Nat))/\Hid (D 2=true->ag=S .u64 (k:Nat))/\Hid (D 3=true->ah=S R (k:Nat))/\Hid (D 4=true->ai=S R (b:Nat))/\Hid (D 5=true->aj=C (some ⟨n,0,none⟩) b b)/\Hid (D 6=true->ak=C a c ca)/\Hid (D 7=true->am=S R (c:Nat))/\Hid (D 8=true->an=S .u64 (k:Nat))/\Hid (D 9=true->ap=S R (k:Nat))/\Hid (D 10=true->aq=S R (b:Nat))/\Hid (D 11=true->ay=C (some ⟨o,0,none⟩) b b)/\Hid (D 12=true->t6=C (some ⟨n,0,none⟩) b b)/\Hid (D 13=true->t7=C (some ⟨o,0,none⟩) b b)/\
   (D 5=true->Bv V n (Nl b 0)/\w2.heap.size<=n)/\(D 11=true->Bv V o (Nl b 0)/\w2.heap.size<=o)/\(D 5=true->D 11=true->n≠o)/\Bl w2 V)
  ⟨0,0,_,_,_,_,_,_,_,_,_,_,_,_,_,_,rfl,Z B6,Z B6,Z B6,Z B6,Z B6,Z B6,Z B6,Z B6,Z B6,Z B6,Z B6,Z B6,Z B6,Z B6,Br,Br,Br,(BC _ w2).drew⟩ ?step ?fin
 case step=>
  rintro D a0 V i ds r bg d az ⟨n,o,t6,t7,ad,ae,ag,ah,ai,aj,ak,am,an,ap,aq,ay,rfl,s,t,z,A,B,K,P,Q,T,W,v,y,X,aa,q1,q2,q3,g⟩;have Ug:i<14:=(AB.1 bg).1;obtain rfl|rfl|rfl|rfl|rfl|rfl|rfl|rfl|rfl|rfl|rfl|rfl|rfl|rfl:=Dn i Y
  all_goals
   simp only[A4,A0,A9]at bg;subst bg;clear Ug
  . clear d r;refine Za ?_;exact⟨n,o,_,_,_,_,_,_,_,_,_,_,_,_,_,_,rfl,Z λ_=>rfl,t,z,A,B,K,P,Q,T,W,v,y,X,aa,q1,q2,q3,g⟩
  . obtain rfl:=s.o (d 0 Br);clear d r;refine Za ?_;exact⟨n,o,_,_,_,_,_,_,_,_,_,_,_,_,_,_,rfl,Z λ_=>rfl,Z λ_=>rfl,z,A,B,K,P,Q,T,W,v,y,X,aa,q1,q2,q3,g⟩
  . clear d r;refine Za ?_;exact⟨n,o,_,_,_,_,_,_,_,_,_,_,_,_,_,_,rfl,s,t,Z λ_=>rfl,A,B,K,P,Q,T,W,v,y,X,aa,q1,q2,q3,g⟩
  . obtain rfl:=z.o (d 2 Br);clear d r;refine Za ?_;exact⟨n,o,_,_,_,_,_,_,_,_,_,_,_,_,_,_,rfl,s,t,Z λ_=>rfl,Z λ_=>rfl,B,K,P,Q,T,W,v,y,X,aa,q1,q2,q3,g⟩
  . obtain rfl:=t.o (d 1 Br);obtain rfl:=A.o (d 3 Br);clear d r;refine Za ?_;exact⟨n,o,_,_,_,_,_,_,_,_,_,_,_,_,_,_,rfl,s,Z λ_=>rfl,z,Z λ_=>rfl,Z λ_=>rfl,K,P,Q,T,W,v,y,X,aa,q1,q2,q3,g⟩
  . obtain rfl:=B.o (d 4 Br);have Qo:D 12=false:=DB r az;have Qb:D 13=false:=DB r az;have Ui:=YP b Y V;clear d r;refine Za ?_;exact⟨V.heap.size,o,_,_,_,_,_,_,_,_,_,_,_,_,_,_,rfl,s,t,z,A,Z λ_=>rfl,Z λ_=>rfl,P,Q,T,W,v,y,Z (λh=>by simp[Qo]at h),Z (λh=>by simp[Qb]at h),λ_=>⟨Bv.made (BD V _),g.size⟩,λh=>⟨(q2 h).1.alloc _,(q2 h).2⟩,λ_ h e=>by have:=(q2 h).1.lt;omega,g.alloc g.size _⟩
  . clear d r;refine Za ?_;exact⟨n,o,_,_,_,_,_,_,_,_,_,_,_,_,_,_,rfl,s,t,z,A,B,K,Z λ_=>rfl,Q,T,W,v,y,X,aa,q1,q2,q3,g⟩
  . obtain rfl:=P.o (d 6 Br);clear d r;refine Za ?_;exact⟨n,o,_,_,_,_,_,_,_,_,_,_,_,_,_,_,rfl,s,t,z,A,B,K,Z λ_=>rfl,Z λ_=>rfl,T,W,v,y,X,aa,q1,q2,q3,g⟩
  . clear d r;refine Za ?_;exact⟨n,o,_,_,_,_,_,_,_,_,_,_,_,_,_,_,rfl,s,t,z,A,B,K,P,Q,Z λ_=>rfl,W,v,y,X,aa,q1,q2,q3,g⟩
  . obtain rfl:=T.o (d 8 Br);clear d r;refine Za ?_;exact⟨n,o,_,_,_,_,_,_,_,_,_,_,_,_,_,_,rfl,s,t,z,A,B,K,P,Q,Z λ_=>rfl,Z λ_=>rfl,v,y,X,aa,q1,q2,q3,g⟩
  . obtain rfl:=Q.o (d 7 Br);obtain rfl:=W.o (d 9 Br);clear d r;refine Za ?_;exact⟨n,o,_,_,_,_,_,_,_,_,_,_,_,_,_,_,rfl,s,t,z,A,B,K,P,Z λ_=>rfl,T,Z λ_=>rfl,Z λ_=>rfl,y,X,aa,q1,q2,q3,g⟩
  . obtain rfl:=v.o (d 10 Br);have Qb:D 13=false:=DB r az;have Ui:=YP b Y V;clear d r;refine Za ?_;exact⟨n,V.heap.size,_,_,_,_,_,_,_,_,_,_,_,_,_,_,rfl,s,t,z,A,B,K,P,Q,T,W,Z λ_=>rfl,Z λ_=>rfl,X,Z (λh=>by simp[Qb]at h),λh=>⟨(q1 h).1.alloc _,(q1 h).2⟩,λ_=>⟨Bv.made (BD V _),g.size⟩,λh _ e=>by have:=(q1 h).1.lt;omega,g.alloc g.size _⟩
  . obtain rfl:=K.o (d 5 Br);clear d r;refine Za ?_;exact⟨n,o,_,_,_,_,_,_,_,_,_,_,_,_,_,_,rfl,s,t,z,A,B,Z λ_=>rfl,P,Q,T,W,v,y,Z λ_=>rfl,aa,q1,q2,q3,g⟩
  . obtain rfl:=y.o (d 11 Br);clear d r;refine Za ?_;exact⟨n,o,_,_,_,_,_,_,_,_,_,_,_,_,_,_,rfl,s,t,z,A,B,K,P,Q,T,W,v,Z λ_=>rfl,X,Z λ_=>rfl,q1,q2,q3,g⟩
 rintro D a0 V q ⟨n,o,t6,t7,ad,ae,ag,ah,ai,aj,ak,am,an,ap,aq,ay,rfl,s,t,z,A,B,K,P,Q,T,W,v,y,X,aa,q1,q2,q3,g⟩;obtain rfl:=s.o (q 0 Bz);obtain rfl:=t.o (q 1 Bz);obtain rfl:=z.o (q 2 Bz);obtain rfl:=A.o (q 3 Bz);obtain rfl:=B.o (q 4 Bz);obtain rfl:=K.o (q 5 Bz);obtain rfl:=P.o (q 6 Bz);obtain rfl:=Q.o (q 7 Bz);obtain rfl:=T.o (q 8 Bz);obtain rfl:=W.o (q 9 Bz);obtain rfl:=v.o (q 10 Bz);obtain rfl:=y.o (q 11 Bz);obtain rfl:=X.o (q 12 Bz);obtain rfl:=aa.o (q 13 Bz);obtain⟨hA1,bz⟩:=q1 (q 5 Bz);obtain⟨hA2,ce⟩:=q2 (q 11 Bz);have Qd:=q3 (q 5 Bz) (q 11 Bz);clear q1 q2 q3 q s t z A B K P Q T W v y X aa;obtain⟨nb,bi⟩:=ex (Lib.bitLen k);have Qe:=Ls ⟨k,Y⟩ so;simp only[bi]at Qe;obtain⟨ck,ed,ef⟩:=Qe;have Qs:=Z (λ(U:G)=>show N F 104 #[S .u64 (k:Nat)] U λe w'=>e=.returned (S R (nb:Nat))/\w'=U by
  have h:=Tryz.bits_Len (k:Int) U Y Y;rw[Int.toNat_natCast,bi]at h;exact h)
 have Qq:=Z ck;clear bi ck Uk Ud;have Qx:Bl w V:=Bt bd g
 have Qj:=Row.below hz g;have Qw:Jb O m=Jb O (m^(k/2^(nb-1))):=by rw[Qq.o,Nat.pow_one]
 rw[Qw]at Qj;clear Qw;go_wp2_with(go_at_call 104;refine(Qs.o _).mono ?_;rintro e w4 ⟨rfl,rfl⟩)
 go_loopw [5,6,7,8] (λzv rv sv iv wr=>∃(j:Nat) (za:Nj) (zl zc x1 x2:Nat) (d1 d2:Ja),iv=S R ((j:Int)-1)/\j<=8/\zv=C za zl zc/\rv=C (some ⟨x1,0,none⟩) b b/\sv=C (some ⟨x2,0,none⟩) b b/\x1≠x2/\w2.heap.size<=x1/\w2.heap.size<=x2/\Bv wr x1 d1/\Bv wr x2 d2/\Bs O d1/\Bs O d2/\d1.length=b/\d2.length=b/\Hid (Row .u64 wr (C za zl zc) (Jb O (m^(k/2^j))))/\Hid (∀p,za=some p->0<zl->p.block≠x1)/\Bl w wr/\Hid (1<=k/2^j))
  (λ_ _ _ iv _=>(intOf iv+1).toNat)
 case atStart=>exact⟨nb-1,za,c,zc,n,o,_,_,by congr 1;omega,Y,rfl,rfl,rfl,Qd,bz,ce,hA1,hA2,λx hx=>by rw[Cb hx];unfold O;omega,λx hx=>by rw[Cb hx];unfold O;omega,AQ,AQ,Qj,λp e h0=>by have:=(cy p e h0).2;omega,Qx,by show 1<=_;rw[Qq.o];omega⟩
 case round=>
  clear hA1 hA2 Qj Qx g hz cy bz ce Qd Qs Qq Qy;obtain⟨j,za,zl,zc,x1,x2,d1,d2,rfl,hj,rfl,rfl,rfl,hx,co,cw,hA1,hA2,de,bu,bh,di,HZ,bk,hB,HE⟩:=hrel;by_cases cj:j=0
  . subst cj;go_wp2;go_ret;have h1:=HZ.o;rw[Nat.pow_zero,Nat.div_one]at h1;exact⟨_,rfl,h1,hB⟩
  . obtain⟨i,rfl⟩:∃i,j=i+1:=⟨j-1,Y⟩;have e1:((i+1:Nat):Int)-1=(i:Nat):=Y
    rw[e1];clear cj e1;have Ql:=(Jk HZ.o).1;have Qk:=Gz Qz.o (e:=k/2^(i+1)) HE.o;have Qr:k/2^(i+1)=k/2^i/2:=by rw[AL,CH]
    have Ub:=Cr k (2^i);rw[Qr]at HZ HE Ql Qk;obtain⟨f,hf⟩:=ex (k/2^i);rw[hf]at HZ HE Ql Qk Ub;have Qt:2*(f/2)<=k:=Y
    have Uh:zl+zl<=b:=by
     have h1:=Ai c Qt;rw[Qv.o];have h2:c*(2*(f/2))=2*(c*(f/2)):=by rw[Nat.mul_left_comm]
     omega
    have HP:=Z (FM x1 b b d1 za zl zc za zl zc _ _ wr hA1 de Y Uh Y Y HZ.o HZ.o bk.o bk.o);clear Ql Qk Qt Qr;go_upto_region 8 with(go_at_call 105;refine HP.o.mono ?_;rintro e w5 ⟨u,rfl,⟨hu,cg⟩,bf,bm,bn,bt,dx⟩;obtain⟨ua,uc,rfl⟩:=UN.form hu)
    obtain⟨ul,bj⟩:=ex ((Jb O (m^(f/2)*m^(f/2))).length);rw[bj]at hu bf ⊢;have Ue:=Z bj;clear bj;have Qg:((k:Int)/2^i)=(f:Int):=by rw[<-hf,CE,Int.natCast_pow];rfl
    have Qa:=and_one ⟨f,Y⟩;simp only at Qa;have Qm:Bl w w5:=below_grown hB cg (by have:=bd.size;omega);have bp:=hA2.kept cg λe=>hx (by cases e;rfl);have Qu:=Z (show ∀p,ua=some p->0<ul->p.block≠x2 from λp e h0=>by
     rcases bf with e2|⟨l,e2⟩
     . cases e2;cases e
     . cases e2;cases e;exact hx)
    have Qi:=Z (show m^(f/2)*m^(f/2)=m^(2*(f/2))by rw[<-Cm,<-Nat.two_mul]);have Qc:ul<=c*(2*(f/2)):=by
     have h1:=Gz Qz.o (e:=2*(f/2)) (by have:=HE.o;omega);rw[<-Qi.o,Ue.o]at h1;exact h1
    have Qn:=Z (Row.below Ua.o Qm);have Qf:=Z hf;have Qh:w.heap.size<=x2:=by have:=bd.size;omega
    have Uc:=HE.o;clear bf hf;by_cases dj:f%2=1
    . have Qp:ul+c<=b:=by
       have e2:2*(f/2)+1=f:=Y
       have h1:=Ai c Ub;rw[Qv.o];have h3:c*f=c*(2*(f/2))+c:=by
        conv=>lhs;rw[<-e2]
        rw[Nat.mul_succ]
       omega
      have Qe:(bits .and .u64 ((k:Int)/2^i) 1==1)=true:=by rw[Qg,Qa,dj];rfl
      have Uj:=Z (FM x2 b b d2 ua ul uc a c ca _ m w5 bp bu Y Qp Y Y hu Qn.o Qu.o λp e h0=>by have:=XK Ua.o e h0;omega);clear Qa Qc Qg;go_wp2_with(go_at_call 105;refine Uj.o.mono ?_;rintro e w6 ⟨u6,rfl,⟨cn,ci⟩,dh,cz,hA26,dg,dz⟩;obtain⟨ya,yc,rfl⟩:=UN.form cn)
      refine⟨⟨i,ya,_,yc,x1,x2,bm,cz,rfl,Y,rfl,rfl,rfl,hx,co,cw,bn.kept ci λe=>hx (Cs e),hA26,bt,dg,Y,Y,?_,?_,below_grown Qm ci Qh,?_⟩,by simp[intOf]⟩
      . show Row .u64 w6 _ _;have e3:m^(k/2^i)=m^(f/2)*m^(f/2)*m:=by
         rw[Qf.o,Qi.o,<-AL];congr 1;omega
        rw[e3];exact cn
      . show ∀p,ya=some p->_->p.block≠x1;intro p e h0;rcases dh with e2|⟨l,e2⟩
        . injection e2 with e3
          rw[e3]at e;cases e
        . injection e2 with e3
          rw[e3]at e;cases e;exact λh=>hx h.symm
      . show 1<=k/2^i;rw[Qf.o];omega
    . have Uf:f%2=0:=Y
      have Qe:(bits .and .u64 ((k:Int)/2^i) 1==1)=false:=by rw[Qg,Qa,Uf];rfl
      clear Qa Qc Qg;go_wp2;refine⟨⟨i,ua,ul,uc,x2,x1,d2,bm,rfl,Y,rfl,rfl,rfl,λe=>hx e.symm,cw,co,bp,bn,bu,bt,di,Y,?_,Qu,Qm,?_⟩,by simp[intOf]⟩
      . show Row .u64 w5 _ _;have e3:m^(k/2^i)=m^(f/2)*m^(f/2):=by
         rw[Qf.o,Qi.o];congr 1;omega
        rw[e3];exact hu
      . show 1<=k/2^i;rw[Qf.o];omega
def Lv(x:Int)(k:Nat):(if(decide (x<0)&&decide (k%2=1))=true then -((x.natAbs^k:Nat):Int)else((x.natAbs^k:Nat):Int))=x^k:=by
 by_cases a:x<0
 . obtain⟨n,rfl⟩:∃n:Nat,x=-(n:Int):=⟨x.natAbs,Y⟩;rw[CO,AW];by_cases b:k%2=1
   . simp only[a,b,decide_true,Bool.and_self,if_true]
     have:(-(n:Int))^k=-((n:Int)^k):=by
      obtain⟨j,rfl⟩:∃j,k=2*j+1:=⟨k/2,Y⟩;rw[Cp,Cp,Int.pow_mul,Int.pow_mul,show(-(n:Int))^2=(n:Int)^2 from by rw[Cp,Cp,Cp,Cp,Int.pow_zero];simp;exact Int.neg_mul_neg _ _];exact Int.mul_neg _ _
     rw[this,Int.natCast_pow]
   . simp only[a,b,decide_true,decide_false,Bool.and_false,Co,if_false]
     have:(-(n:Int))^k=(n:Int)^k:=by
      obtain⟨j,rfl⟩:∃j,k=2*j:=⟨k/2,Y⟩;rw[Int.pow_mul,Int.pow_mul,show(-(n:Int))^2=(n:Int)^2 from by rw[Cp,Cp,Cp,Cp,Int.pow_zero];simp;exact Int.neg_mul_neg _ _]
     rw[this,Int.natCast_pow]
 . simp only[a,decide_false,Bool.false_and,Co,if_false];rw[Int.natCast_pow];congr 1;omega
def Lw(s:Bool)(a:Nj)(i d:Nat)(w:G):
 N F 41 #[L #[E s,C a i d],S R 0] w λe j=>∃u,e=.returned (.tuple #[u,E true])/\Jg j u 1/\Bl w j:=by
 have b:=Jd.new (w.alloc (I #[E s,C a i d] 25)) 25 (E false) (C none 0 0);have l:=Dv w (I #[E s,C a i d] 25) (I #[E false,C none 0 0] 25);simp only[BA]at b;go_enter func41,ntmps41
 go_wp2_with(go_at_call 40;refine(EN 1 Y Y _).mono ?_;rintro e v ⟨u,rfl,g,c⟩;obtain⟨o,r,q,rfl⟩:=g.form;obtain⟨t,f⟩:=ex (decide ((1:Int)<0));rw[f]at g;rw[f];clear f;obtain⟨r0,n⟩:=(b.below c).cp;obtain⟨f0,f1⟩:=(b.below c).fp)
 have m:=Bt l c
 have k:=g.box (b.below c) rfl rfl (x0:=E t) (x1:=C o r q);exact BB (by simp[results,results41,go_sem,r0,n]) rfl ⟨_,rfl,k,(m.setCell (p:=⟨_,0,none⟩) so _).setCell (p:=⟨_,1,none⟩) so _⟩
def Lx(A:H)(x:Int)(k:Nat)(w:G)(T:Jg w A x)(X:1<=k)(aa:k<=200)(y:(Jb O x.natAbs).length*k<=400000000000):
 N F 41 #[A,S R (k:Nat)] w λe d=>∃u,e=.returned (.tuple #[u,E true])/\Jg d u (x^k)/\Bl w d:=by
 obtain⟨a,i,f,Q,c⟩:=T;cases Q;have r:=c.len;rw[<-r]at y;have j:=Lv x k;obtain⟨s,hs⟩:=ex (decide (x<0));rw[hs]at j ⊢;obtain⟨W0,m⟩:=ex ((w.alloc (I #[E s,C a i f] 25)).alloc (I #[E false,C none 0 0] 25));have q:Bl w W0:=by rw[<-m];exact Dv w _ _
 have b0:Jd W0 w.heap.size 25 (E s) (C a i f):=by rw[<-m];exact(Jd.new w _ _ _).alloc _
 have l:Jd W0 (w.heap.size+1) 25 (E false) (C none 0 0):=by
  have h:=Jd.new (w.alloc (I #[E s,C a i f] 25)) 25 (E false) (C none 0 0);rw[BA,m]at h;exact h
 have K:=Z (Lu a i f _ k W0 (UN.below c q) X aa y);have B:=Z (λ(V:G) (u:H) (b:Bool) (v:b=(s&&decide (k%2=1))) (c:UN V u (x.natAbs^k))=>show N F 58 #[E b,u] V λe d=>∃u,e=.returned u/\Jg d u (x^k)/\Bl V d by
  have t:=YZ b u _ V c;rw[v,j]at t;rw[v];exact t)
 obtain⟨k0,k1⟩:=b0.cp;have n1:¬((k:Int)<0):=Y
 have n2:¬((200:Int)<(k:Int)):=Y
 clear c j hs r;cases s<;>rcases(show(k:Int)%2=1\/(k:Int)%2=0 by omega)with ho|ho
 all_goals
  go_enter func41,ntmps41
  go_wp2_with(first
   |(go_at_call 74;refine K.o.mono ?_;rintro e w1 ⟨u1,rfl,z,U⟩;obtain⟨na,nc,rfl⟩:=UN.form z)
   |(go_at_call 58;refine(B.o _ _ _ (by simp;try omega) z).mono ?_;rintro e w2 ⟨u2,rfl,o,W⟩;obtain⟨sa,sl,sc,rfl⟩:=o.form;obtain⟨s2,n⟩:=ex (decide (x^k<0));rw[n]at o;rw[n];clear n;have g:=Bt U W;obtain⟨r0,r1⟩:=(l.below g).cp;obtain⟨f0,f1⟩:=(l.below g).fp))
  have P:=Bt q g;have D:=o.box (l.below g) rfl rfl (x0:=E s2) (x1:=C sa sl sc);exact BB (by simp[results,results41,go_sem,r0,r1]) rfl ⟨_,rfl,D,(P.setCell (p:=⟨_,0,none⟩) so _).setCell (p:=⟨_,1,none⟩) so _⟩
def Ly(x:Int)(j:Nat):C7 (x^j)<=C7 x*j+1:=by
 unfold C7;have a:=JJ (Jf (B:=10000) Y x.natAbs);rw[Je Y]at a;have b:x.natAbs^j<=10000^((Jb 10000 x.natAbs).length*j):=by
  rw[Nat.pow_mul];exact Ci (CZ a) j
 have c:(10000:Nat)^((Jb 10000 x.natAbs).length*j)<10000^((Jb 10000 x.natAbs).length*j+1):=Nat.pow_lt_pow_right Y Y;rw[Int.natAbs_pow];exact Jt Y (CI b c)
def Lz(v:H)(x:Int)(k:Nat)(w:G)(h:Jh w v x)(hk:k<=200)(hz:C7 x*k<=100000000000)(aj:C7 x<=100000000000):
 N F 53 #[v,S R (k:Nat)] w λe w'=>∃u,e=.returned u/\Jh w' u (x^k)/\Bl w w':=by
 obtain⟨a,z,r,rfl⟩:=h.form;obtain⟨s,hs⟩:=ex (decide (x<0));rw[hs]at h ⊢;clear hs;obtain⟨W0,B⟩:=ex ((w.alloc (I #[C a z r,E s] 32)).alloc (I #[C none 0 0,E false] 32));have A:Bl w W0:=by rw[<-B];exact Xr w _ _
 have b0:Jd W0 w.heap.size 32 (C a z r) (E s):=by rw[<-B];exact(Jd.new w _ _ _).alloc _
 have d:Jd W0 (w.heap.size+1) 32 (C none 0 0) (E false):=by
  have h:=Jd.new (w.alloc (I #[C a z r,E s] 32)) 32 (C none 0 0) (E false);rw[BA,B]at h;exact h
 have y:=h.below A;have HZ:=Z (λj (hj:j<=k)=>show C7 (x^j)<=400000000000 by
  have h1:=Ly x j;have h2:=Ai (C7 x) hj;omega)
 clear h;go_enter func53,ntmps53
 go_wp2_with(go_at_call 46;refine(DX 1 Y Y _).mono ?_;rintro e T ⟨u,rfl,o,m⟩;obtain⟨f,l,g,rfl⟩:=o.form;obtain⟨t,W⟩:=ex (decide ((1:Int)<0));rw[W]at o;rw[W];clear W)
 clear B;have Qd:Jh (T.alloc (I #[C f l g,E t] 32)) (L #[C f l g,E t]) (x^0):=by rw[Int.pow_zero];exact o.alloc _
 have c:=Jd.new T 32 (C f l g) (E t);have aa:=(b0.below m).alloc (I #[C f l g,E t] 32);have ad:=(d.below m).alloc (I #[C f l g,E t] 32);have ae:=(y.below m).alloc (I #[C f l g,E t] 32);have Qe:Bl w (T.alloc (I #[C f l g,E t] 32)):=(Bt A m).alloc (Bt A m).size _;obtain⟨b,ag⟩:∃b,b=T.heap.size:=⟨_,rfl⟩;have ah:w.heap.size+1<b:=by have h1:=m.size;have h2:=d.lt;omega
 rw[<-ag]at c ⊢;clear b0 d y m A o ag;go_loopw [6] (λX wr=>∃(i:Nat) (K:Nj) (Q P:Nat) (q:Bool),X=S R i/\i<=k/\Jd wr b 32 (C K Q P) (E q)/\Jh wr (L #[C K Q P,E q]) (x^i)/\Jd wr w.heap.size 32 (C a z r) (E s)/\Jd wr (w.heap.size+1) 32 (C none 0 0) (E false)/\Jh wr (L #[C a z r,E s]) x/\Bl w wr)
  (λX _=>k-(intOf X).toNat)
 case atStart=>exact⟨0,f,l,g,t,rfl,AM _,c,Qd,aa,ad,ae,Qe⟩
 case round=>
  clear c Qd aa ad ae Qe;obtain⟨i,K,Q,P,q,rfl,hi,c,o,b0,d,y,hB⟩:=hrel;obtain⟨m0,m1⟩:=c.cp;obtain⟨m2,m3⟩:=b0.cp;by_cases ai:i<k
  . have HT:=Z (XQ _ _ (x^i) x wr o y (HZ.o i hi) Y);go_wp2_with(go_at_call 67;refine HT.o.mono ?_;rintro e w5 ⟨u5,rfl,D,n⟩;rw[<-Cp]at D;obtain⟨a5,l5,c5,rfl⟩:=D.form;obtain⟨s5,V⟩:=ex (decide (x^(i+1)<0));rw[V]at D;rw[V];clear V;obtain⟨g0,g1⟩:=(c.below n).cp;obtain⟨e0,e1⟩:=(c.below n).fp)
    have U:=c.below n;have hq:=Bt hB n
    exact⟨⟨i+1,a5,l5,c5,s5,Br,Y,(U.set0 _).set1 _,D.box U rfl rfl,((b0.below n).far (p:=⟨b,0,none⟩) (λe=>by simp only at e;omega) _).far (p:=⟨b,1,none⟩) (λe=>by simp only at e;omega) _,((d.below n).far (p:=⟨b,0,none⟩) (λe=>by simp only at e;omega) _).far (p:=⟨b,1,none⟩) (λe=>by simp only at e;omega) _,(y.below n).box U rfl rfl,(hq.setCell (p:=⟨b,0,none⟩) so _).setCell (p:=⟨b,1,none⟩) so _⟩,by simp[intOf];omega⟩
  . obtain rfl:i=k:=Y
    obtain⟨r0,r1⟩:=d.cp;obtain⟨e0,e1⟩:=d.fp;go_wp2_with fail
    have Qc:=o.box d rfl rfl (x0:=C K Q P) (x1:=E q);exact BB (by simp[results,results53,go_sem,r0,r1]) rfl ⟨_,rfl,Qc,(hB.setCell (p:=⟨_,0,none⟩) so _).setCell (p:=⟨_,1,none⟩) so _⟩

