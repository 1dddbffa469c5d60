import Derived.Test.YtcahodpphikgnaaGreatDoorV21
import Derived.Test.YtcahodpphikgnaaGreatDoorV14
import Derived.Test.YtcahodpphikgnaaGreatDoorV15
import Derived.Test.YtcahodpphikgnaaGreatDoorV05
import Derived.Test.YtcahodpphikgnaaGreatDoorV16
import Derived.Test.YtcahodpphikgnaaGreatDoorV17
set_option linter.all false
open Go.Value renaming slice->C,bool->F,agg->L
open Go renaming World->E,Value->G,Calls->M
open Go.Obj renaming cells->H
open Go.Proofs.Tryz renaming prog->I
set_option maxRecDepth 99999
set_option maxHeartbeats 0
namespace Go.Proofs.YtcahodpphikgnaaGreatDoor
open List renaming replicate->OA
open Proofs.Tryz
open Go.RowKit Go.Shelf
attribute [local go_sem] Oper.semAt_some
def BP:=@of_decide_eq_true
def MP(a:N8)(cap:Nat)(w:E):
 M I 13 #[L #[F false,C a 0 cap]] w λe b=>e=.returned (.string ⟨#[48]⟩)/\Bl w b:=by
 have b0:=Jd.new w 25 (F false) (C a 0 cap);have c:=b0.c1;go_enter func13,ntmps13
 go_wp2;go_ret;exact⟨rfl,Ba w _⟩
def MQ(s:Bool)(a:N8)(l cap:Nat)(T:ByteArray)(w:E)(hl:0<l)(i:T.size<=100000000000000)
(c:∀V,Bl w V->M I 48 #[C a l cap] V λe b=>e=.returned (.string T)/\Bl V b):
 M I 13 #[L #[F s,C a l cap]] w λe b=>e=.returned (.string (if s then(⟨#[45]⟩:ByteArray)++T else T))/\Bl w b:=by
 have b0:=Jd.new w 25 (F s) (C a l cap);have d:Bl w (w.alloc (H #[F s,C a l cap] 25)):=Ba w _;obtain⟨j,k⟩:=b0.cp;have f:=Z c;clear c;cases s;all_goals
  go_enter func13,ntmps13
  go_wp2_with(go_at_call 48;refine(f.o _ d).mono ?_;rintro e m ⟨rfl,g⟩)
  go_ret;exact⟨Br,Bt d g⟩
theorem IA(n:Nat):(XE n).length<=20*(Jb O n).length+1:=by
 unfold XE;split
 . simp
 . rw[GS];have a:n<O^(Jb O n).length:=by
    grind[JL,Jf,Jc,Je]
   have b:O^(Jb O n).length<=10^(20*(Jb O n).length):=by
    rw[Nat.pow_mul];exact CA uo _
   have:=JG (B:=10) Y (Ao a b);omega
theorem F9(v:G)(z:Int)(w:E)(h:Jg w v z)(j:Lib.TabIs I w "internal/strconv.uint64pow10" .u64 Lib.pow10Tab):
 M I 13 #[v] w λe f=>e=.returned (.string ⟨(Yg z).toArray⟩)/\Bl w f:=by
 obtain⟨a,l,cap,rfl,b⟩:=h;have hl:=b.len;by_cases c:z.natAbs=0
 . have k:z=0:=Y
   subst k;have i:l=0:=by rw[hl];simp[Jq]
   subst i;exact MP a cap w
 . have g:0<l:=by rw[hl];exact Xv.2 c
   refine(MQ _ a l cap ⟨(XE z.natAbs).toArray⟩ w g (by
    have m:=IA z.natAbs;have n:=(Jm b).2.2.2.1;show(XE z.natAbs).toArray.size<=_;grind) λV d=>MO a l cap z.natAbs V (Row.below b d) c (JE j d)).mono ?_
   rintro e f ⟨rfl,o⟩;grind[Yg,Ee]
def Jg.form{W:E}{v:G}{z:Int}(h:Jg W v z):∃a l cap,v=L #[F (decide (z<0)),C a l cap]:=by
 obtain⟨a,l,cap,e,_⟩:=h;exact⟨a,l,cap,e⟩
def Jg.alloc{W:E}{v:G}{z:Int}(h:Jg W v z)(o:Obj):Jg (W.alloc o) v z:=h.below (Ba W o)
def Jg.box{W:E}{b:Nat}{t:TypeId}{u0 u1 x0 x1 v:G}{z:Int}(h:Jg W v z)(q:Jd W b t u0 u1)(d:JJ u0=true)(f:JJ u1=true):Jg ((W.setCell ⟨b,0,none⟩ x0).setCell ⟨b,1,none⟩ x1) v z:=by
 obtain⟨a,l,cap,e,c⟩:=h;exact⟨a,l,cap,e,Row.set (Row.set c q.c0 d _) (u0:=u1) (q.set0 x0).c1 f _⟩
def JN(W:E)(B:Nat)(t:TypeId)(x y z u:G):Prop:=W.heap[B]?=some (H #[x,y,z,u] t (0,0))
section
variable {W W':World} {B:Nat} {t:TypeId} {x y z u:Value}
def JN.lt(h:JN W B t x y z u):B<W.heap.size:=(Ac.1 h).1
def JN.c0(h:JN W B t x y z u):W.cell? ⟨B,0,none⟩=some x:=by simp[World.cell?,show W.heap[B]?=_ from h]
def JN.c1(h:JN W B t x y z u):W.cell? ⟨B,1,none⟩=some y:=by simp[World.cell?,show W.heap[B]?=_ from h]
def JN.cp(h:JN W B t x y z u):type_of% (And.intro h.c0 h.c1):=⟨h.c0,h.c1⟩
def JN.c2(h:JN W B t x y z u):W.cell? ⟨B,2,none⟩=some z:=by simp[World.cell?,show W.heap[B]?=_ from h]
def JN.c3(h:JN W B t x y z u):W.cell? ⟨B,3,none⟩=some u:=by simp[World.cell?,show W.heap[B]?=_ from h]
def JN.cq(h:JN W B t x y z u):type_of% (And.intro h.c0 (And.intro h.c1 (And.intro h.c2 h.c3))):=⟨h.c0,h.c1,h.c2,h.c3⟩
def JN.f0(h:JN W B t x y z u):W.frozen? ⟨B,0,none⟩=false:=by simp[World.frozen?,show W.heap[B]?=_ from h]
def JN.f1(h:JN W B t x y z u):W.frozen? ⟨B,1,none⟩=false:=by simp[World.frozen?,show W.heap[B]?=_ from h]
def JN.fp(h:JN W B t x y z u):type_of% (And.intro h.f0 h.f1):=⟨h.f0,h.f1⟩
def JN.f2(h:JN W B t x y z u):W.frozen? ⟨B,2,none⟩=false:=by simp[World.frozen?,show W.heap[B]?=_ from h]
def JN.f3(h:JN W B t x y z u):W.frozen? ⟨B,3,none⟩=false:=by simp[World.frozen?,show W.heap[B]?=_ from h]
def JN.fq(h:JN W B t x y z u):type_of% (And.intro h.f0 (And.intro h.f1 (And.intro h.f2 h.f3))):=⟨h.f0,h.f1,h.f2,h.f3⟩
def JN.new(W:E)(t:TypeId)(x y z u:G):JN (W.alloc (H #[x,y,z,u] t)) W.heap.size t x y z u:=BD W _
def JN.below(h:JN W B t x y z u)(a:Bl W W'):JN W' B t x y z u:=(a.block B h.lt).trans h
def JN.alloc(h:JN W B t x y z u)(o:Obj):JN (W.alloc o) B t x y z u:=h.below (Ba W o)
theorem JN.set0(h:JN W B t x y z u)(v:G):JN (W.setCell ⟨B,0,none⟩ v) B t v y z u:=by
 obtain⟨b,a⟩:=Ac.1 h;show(W.heap.modify B _)[B]?=_;grind
theorem JN.set1(h:JN W B t x y z u)(v:G):JN (W.setCell ⟨B,1,none⟩ v) B t x v z u:=by
 obtain⟨b,a⟩:=Ac.1 h;show(W.heap.modify B _)[B]?=_;grind
theorem JN.set2(h:JN W B t x y z u)(v:G):JN (W.setCell ⟨B,2,none⟩ v) B t x y v u:=by
 obtain⟨b,a⟩:=Ac.1 h;show(W.heap.modify B _)[B]?=_;grind
end
def put4(W:E)(B:Nat)(x y z u:G):E:=(((W.setCell ⟨B,0,none⟩ x).setCell ⟨B,1,none⟩ y).setCell ⟨B,2,none⟩ z).setCell ⟨B,3,none⟩ u
def Jj{n B:Nat}{w W:E}(h:Below n w W)(a:n<=B)(x y z u:G):Below n w (put4 W B x y z u):=(((h.setCell (p:=⟨B,0,none⟩) a _).setCell (p:=⟨B,1,none⟩) a _).setCell (p:=⟨B,2,none⟩) a _).setCell (p:=⟨B,3,none⟩) a _
def Row.put4{k:IntKind}{W:E}{v:G}{ds:Ja}(h:Row k W v ds){B:Nat}{t:TypeId}{x y z u:G}(q:JN W B t x y z u)(d:JJ x=true)(e:JJ y=true)(f:JJ z=true)(g:JJ u=true)(a b c i:G):Row k (put4 W B a b c i) v ds:=
 Row.set (Row.set (Row.set (Row.set h q.c0 d _) (q.set0 a).c1 e _) ((q.set0 a).set1 b).c2 f _) (((q.set0 a).set1 b).set2 c).c3 g _
def Jg.put4{W:E}{v:G}{i:Int}(h:Jg W v i){B:Nat}{t:TypeId}{x y z u:G}(q:JN W B t x y z u)(c:JJ x=true)(d:JJ y=true)(f:JJ z=true)(g:JJ u=true)(k m n j:G):Jg (put4 W B k m n j) v i:=by
 obtain⟨a,l,cap,e,b⟩:=h;exact⟨a,l,cap,e,Row.put4 b q c d f g _ _ _ _⟩
def Jk.put4{W:E}{v:G}{i:Int}(h:Jk W v i){B:Nat}{t:TypeId}{x y z u:G}(q:JN W B t x y z u)(c:JJ x=true)(d:JJ y=true)(f:JJ z=true)(g:JJ u=true)(k m n j:G):Jk (put4 W B k m n j) v i:=by
 obtain⟨a,l,cap,e,b⟩:=h;exact⟨a,l,cap,e,Row.put4 b q c d f g _ _ _ _⟩
def Jo(W:E)(v:G)(q:Rat):Prop:=∃s a l c t b k d,v=L #[F s,C a l c,F t,C b k d]/\Jg W (L #[F s,C a l c]) q.num/\Jg W (L #[F t,C b k d]) (C2 q)
def Jo.below{W W':E}{v:G}{q:Rat}(h:Jo W v q)(f:Bl W W'):Jo W' v q:=by
 obtain⟨s,a,l,c,t,b,k,d,e,g,i⟩:=h;exact⟨s,a,l,c,t,b,k,d,e,g.below f,i.below f⟩
def Jo.put4{W:E}{v:G}{p:Rat}(h:Jo W v p){B:Nat}{t:TypeId}{x y z u:G}(q:JN W B t x y z u)(f:JJ x=true)(g:JJ y=true)(i:JJ z=true)(j:JJ u=true)(r w A o:G):Jo (put4 W B r w A o) v p:=by
 obtain⟨s,a,l,c,t,b,k,d,e,m,n⟩:=h;exact⟨s,a,l,c,t,b,k,d,e,m.put4 q f g i j _ _ _ _,n.put4 q f g i j _ _ _ _⟩
def Jp(W:E)(v:G)(q:Rat):Prop:=∃a l c s b k d t,v=L #[C a l c,F s,C b k d,F t]/\Jk W (L #[C a l c,F s]) q.num/\Jk W (L #[C b k d,F t]) (q.den:Int)
def Jp.below{W W':E}{v:G}{q:Rat}(h:Jp W v q)(f:Bl W W'):Jp W' v q:=by
 obtain⟨s,a,l,c,t,b,k,d,e,g,i⟩:=h;exact⟨s,a,l,c,t,b,k,d,e,g.below f,i.below f⟩
def Jp.put4{W:E}{v:G}{p:Rat}(h:Jp W v p){B:Nat}{t:TypeId}{x y z u:G}(q:JN W B t x y z u)(f:JJ x=true)(g:JJ y=true)(i:JJ z=true)(j:JJ u=true)(r w A o:G):Jp (put4 W B r w A o) v p:=by
 obtain⟨s,a,l,c,t,b,k,d,e,m,n⟩:=h;exact⟨s,a,l,c,t,b,k,d,e,m.put4 q f g i j _ _ _ _,n.put4 q f g i j _ _ _ _⟩
section
def YK(W:E)(v:G)(x y:Int):Prop:=∃s a l c t b k d,v=L #[F s,C a l c,F t,C b k d]/\Jg W (L #[F s,C a l c]) x/\Jg W (L #[F t,C b k d]) y
variable{V':E}
def Jo.pair{W:E}{v:G}{q:Rat}(h:Jo W v q):YK W v q.num (C2 q):=h
theorem YK.form{W:E}{v:G}{x y:Int}(h:YK W v x y):∃s a l c t b k d,v=L #[F s,C a l c,F t,C b k d]:=by
 obtain⟨s,a,l,c,t,b,k,d,e,_⟩:=h;grind
def YK.below{W W':E}{v:G}{x y:Int}(h:YK W v x y)(f:Bl W W'):YK W' v x y:=by
 obtain⟨s,a,l,c,t,b,k,d,e,g,i⟩:=h;exact⟨s,a,l,c,t,b,k,d,e,g.below f,i.below f⟩
def YK.keep{V:E}{v:G}{x y:Int}(h:YK V v x y)(f:∀k v ds,Row k V v ds->Row k V' v ds):YK V' v x y:=by
 obtain⟨s,a,l,c,t,b,k,d,e,⟨g,p,c1,j,n⟩,⟨i,q,c2,m,o⟩⟩:=h;exact⟨s,a,l,c,t,b,k,d,e,⟨g,p,c1,j,f _ _ _ n⟩,⟨i,q,c2,m,f _ _ _ o⟩⟩
def Jp.keep{V:E}{v:G}{q:Rat}(h:Jp V v q)(f:∀k v ds,Row k V v ds->Row k V' v ds):Jp V' v q:=by
 obtain⟨s,a,l,c,t,b,k,d,e,⟨g,p,c1,j,n⟩,⟨i,r,c2,m,o⟩⟩:=h;exact⟨s,a,l,c,t,b,k,d,e,⟨g,p,c1,j,f _ _ _ n⟩,⟨i,r,c2,m,f _ _ _ o⟩⟩
theorem MR{α:Type}(l:List α)(x y:α):(l++[x]).set l.length y=l++[y]:=by
 grind
theorem Jg.form2{W:E}{v:G}{z:Int}(h:Jg W v z):∃s a l c,v=L #[F s,C a l c]:=by
 obtain⟨a,l,c,e,_⟩:=h;grind
theorem Jk.form2{W:E}{v:G}{z:Int}(h:Jk W v z):∃a l c s,v=L #[C a l c,F s]:=by
 obtain⟨a,l,c,e,_⟩:=h;grind
theorem Jo.form{W:E}{v:G}{q:Rat}(h:Jo W v q):∃s a l c t b k d,v=L #[F s,C a l c,F t,C b k d]:=by
 obtain⟨s,a,l,c,t,b,k,d,e,_⟩:=h;grind
theorem Jp.form{W:E}{v:G}{q:Rat}(h:Jp W v q):∃a l c s b k d t,v=L #[C a l c,F s,C b k d,F t]:=by
 obtain⟨s,a,l,c,t,b,k,d,e,_⟩:=h;grind
theorem X1(W:E):Jg W (L #[F false,C Option.none 0 0]) 0:=
 ⟨Option.none,0,0,Br,by grind[UN,Jq,Row.nil]⟩
theorem MS(W:E):Jk W (L #[C Option.none 0 0,F false]) 0:=
 ⟨Option.none,0,0,Br,by grind[RN,Jq,Row.nil]⟩
def DV(W:E):Jo W (L #[F false,C Option.none 0 0,F false,C Option.none 0 0]) 0:=⟨_,_,_,_,_,_,_,_,rfl,X1 W,X1 W⟩
def Eu(r:Bool)(W:E)(v:G)(q:Rat):Prop:=match r with|true=>Jo W v q|false=>Jp W v q
def GA(r:Bool):TypeId:=match r with|true=>27|false=>34
def Eu.keep{r:Bool}{W W':E}{v:G}{q:Rat}(h:Eu r W v q)(a:∀k v ds,Row k W v ds->Row k W' v ds):Eu r W' v q:=by
 cases r with
 |true=>exact YK.keep h a
 |false=>exact Jp.keep h a
def Ev(r:Bool)(W:E)(b:Nat)(qs:X):Prop:=
 ∃cs:Array G,W.heap[b]?=some (H cs (GA r) (0,0))/\∀j,j<qs.length->∃x y z u,cs[j*4]?=some x/\cs[j*4+1]?=some y/\cs[j*4+2]?=some z/\cs[j*4+3]?=some u/\Eu r W (L #[x,y,z,u]) (cf qs j)
def Ev.keep{r:Bool}{W W':E}{b:Nat}{qs:X}(h:Ev r W b qs)(l:W'.heap[b]?=W.heap[b]?)(n:∀k v ds,Row k W v ds->Row k W' v ds):Ev r W' b qs:=by
 obtain⟨cs,f,g⟩:=h;refine⟨cs,l.trans f,λj m=>?_⟩;obtain⟨x,y,z,u,a,c,d,e,i⟩:=g j m;exact⟨x,y,z,u,a,c,d,e,i.keep n⟩
def cell_of{W:E}{b o:Nat}{cs:Array G}{t:TypeId}{m:Nat × Nat}{x:G}(h:W.heap[b]?=some (H cs t m))(e:cs[o]?=some x):W.cell? ⟨b,o,none⟩=some x:=by simp[World.cell?,h,e]
def RowK(r:Bool)(W:E)(v:G)(qs:X):Prop:=
 ∃a cap,v=C a qs.length cap/\qs.length<=cap/\cap<=9223372036854775807/\qs.length<=1099511627776/\(qs=[]\/∃b,a=some ⟨b,0,none⟩/\Ev r W b qs)
structure Sqs(qs:X):Prop where
 all:∀i,Sq (cf qs i)
end
namespace M3
structure Dat where
 ty:TypeId
 has:World->Value->Prop
 noPoly:Bool
 below:∀ {V V':World} {v:Value},has V v->Bl V V'->has V' v
 keep:∀ {V V':World} {v:Value},has V v->(∀k v ds,Row k V v ds->Row k V' v ds)->(noPoly=true\/∀v qs,RowK true V v qs->RowK true V' v qs)->has V' v
def Dat.int(z:Int):Dat where
 ty:=25
 has V v:=Jg V v z
 noPoly:=true
 below h hb:=Jg.below h hb
 keep h hk _:=by
  obtain⟨a,l,c,e,b⟩:=h;exact⟨a,l,c,e,hk _ _ _ b⟩
def Dat.rat(q:Rat):Dat where
 ty:=27
 has V v:=Jo V v q
 noPoly:=true
 below h hb:=Jo.below h hb
 keep h hk _:=YK.keep h hk
def Dat.big(z:Int):Dat where
 ty:=32
 has V v:=Jk V v z
 noPoly:=true
 below h hb:=Jk.below h hb
 keep h hk _:=by
  obtain⟨a,l,c,e,b⟩:=h;exact⟨a,l,c,e,hk _ _ _ b⟩
def Dat.ref(q:Rat):Dat where
 ty:=34
 has V v:=Jp V v q
 noPoly:=true
 below h hb:=Jp.below h hb
 keep h hk _:=Jp.keep h hk
def Dat.zref:Dat where
 ty:=34
 has _ v:=v=L #[C none 0 0,F false,C none 0 0,F false]
 noPoly:=true
 below h _:=h
 keep h _ _:=h
def Has(V:E)(v:G)(d:Dat):Prop:=d.has V v
def Has.below{V V':E}{v:G}{d:Dat}(h:Has V v d)(a:Bl V V'):Has V' v d:=d.below h a
def Has.alloc{V:E}{v:G}{d:Dat}(h:Has V v d)(o:Obj):Has (V.alloc o) v d:=h.below (Ba V o)
def Has.keep{V V':E}{v:G}{d:Dat}(h:Has V v d)(a:∀k v ds,Row k V v ds->Row k V' v ds)(hp:d.noPoly=true\/∀v qs,RowK true V v qs->RowK true V' v qs):Has V' v d:=d.keep h a hp
def Bx(V:E)(B:Nat)(t:TypeId)(cs:Array G):Prop:=V.heap[B]?=some (H cs t (0,0))
variable{cs:Array G}{d:Dat}{x0:G}{V':E}
def Bx.lt{V:E}{B:Nat}{t:TypeId}(h:Bx V B t cs):B<V.heap.size:=(Ac.1 h).1
def Bx.below{V:E}{B:Nat}{t:TypeId}(h:Bx V B t cs)(a:Bl V V'):Bx V' B t cs:=(a.block B h.lt).trans h
def Bx.far{V:E}{B:Nat}{t:TypeId}(h:Bx V B t cs){p:Addr}(hp:B≠p.block)(u:G):Bx (V.setCell p u) B t cs:=(BT V p u B hp).trans h
def Bx.f{V:E}{B:Nat}{t:TypeId}(h:Bx V B t cs)(i:Nat):V.frozen? ⟨B,i,Option.none⟩=false:=by simp[World.frozen?,show V.heap[B]?=_ from h]
def Bx.all{V:E}{B:Nat}{t:TypeId}(h:Bx V B t cs):∀i,V.cell? ⟨B,i,Option.none⟩=cs[i]?:=λi=>by simp[World.cell?,show V.heap[B]?=_ from h]
def noPoly:List (Option (Nat × Dat))->Bool
 |[]=>true
 |some (_,d)::t=>d.noPoly&&noPoly t
 |Option.none::t=>noPoly t
theorem MT{bs:List (Option (Nat × Dat))}(h:noPoly bs=true){i:Nat}{x:Nat × Dat}(e:bs[i]?=some (some x)):x.2.noPoly=true:=by
 induction bs generalizing i with
 |nil=>simp at e
 |cons b t a=>
  cases b with
  |none=>
   cases i with
   |zero=>simp at e
   |succ i=>exact a h (by simpa using e)
  |some y=>
   grind[noPoly]
def Bu(w V:E)(bs:List (Option (Nat × Dat))):Prop:=
 (∀(i:Nat) B d,bs[i]?=some (some (B,d))->(∃cs,Bx V B d.ty cs/\Has V (L cs) d)/\w.heap.size<=B)/\
 (∀(i j:Nat) B d a,bs[i]?=some (some (B,d))->bs[j]?=some (some (B,a))->i=j)/\Bl w V
theorem Bu.nil(w:E):Bu w w []:=⟨λi B z h=>by simp at h,λi j B z a h=>by simp at h,BC _ w⟩
def Bu.int{w V:E}{bs:List (Option (Nat × Dat))}(b:Bu w V bs){i B:Nat}{z:Int}(h:bs[i]?=some (some (B,.int z))):∃s a l c,Jd V B 25 (F s) (C a l c)/\Jg V (L #[F s,C a l c]) z:=by
 obtain⟨⟨cs,d,f⟩,_⟩:=b.1 i B _ h;obtain⟨a,l,c,e,g⟩:=f;cases e;exact⟨_,a,l,c,d,a,l,c,rfl,g⟩
def Bu.big{w V:E}{bs:List (Option (Nat × Dat))}(b:Bu w V bs){i B:Nat}{z:Int}(h:bs[i]?=some (some (B,.big z))):∃a l c s,Jd V B 32 (C a l c) (F s)/\Jk V (L #[C a l c,F s]) z:=by
 obtain⟨⟨cs,d,f⟩,_⟩:=b.1 i B _ h;obtain⟨a,l,c,e,g⟩:=f;cases e;exact⟨a,l,c,_,d,a,l,c,rfl,g⟩
def Bu.rat{w V:E}{bs:List (Option (Nat × Dat))}(g:Bu w V bs){i B:Nat}{q:Rat}(h:bs[i]?=some (some (B,.rat q))):
 ∃s a l c t b k d,JN V B 27 (F s) (C a l c) (F t) (C b k d)/\Jo V (L #[F s,C a l c,F t,C b k d]) q/\Jg V (L #[F s,C a l c]) q.num/\Jg V (L #[F t,C b k d]) (C2 q):=by
 obtain⟨⟨cs,n,f⟩,_⟩:=g.1 i B _ h;have o:=f;obtain⟨s,a,l,c,t,b,k,d,e,j,m⟩:=f;cases e;exact⟨s,a,l,c,t,b,k,d,n,o,j,m⟩
def Bu.ref{w V:E}{bs:List (Option (Nat × Dat))}(g:Bu w V bs){i B:Nat}{q:Rat}(h:bs[i]?=some (some (B,.ref q))):
 ∃a l c s b k d t,JN V B 34 (C a l c) (F s) (C b k d) (F t)/\Jp V (L #[C a l c,F s,C b k d,F t]) q/\Jk V (L #[C a l c,F s]) q.num/\Jk V (L #[C b k d,F t]) (q.den:Int):=by
 obtain⟨⟨cs,n,f⟩,_⟩:=g.1 i B _ h;have o:=f;obtain⟨s,a,l,c,t,b,k,d,e,j,m⟩:=f;cases e;exact⟨s,a,l,c,t,b,k,d,n,o,j,m⟩
def Bu.below{w V V':E}{bs:List (Option (Nat × Dat))}(a:Bu w V bs)(b:Bl V V'):Bu w V' bs:=
 ⟨λi B z h=>by
  obtain⟨⟨cs,c,d⟩,e⟩:=a.1 i B z h;exact⟨⟨cs,c.below b,d.below b⟩,e⟩,a.2.1,Bt a.2.2 b⟩
def Bu.drew{w V:E}{bs:List (Option (Nat × Dat))}(a:Bu w V bs):Bu w V.drew bs:=a.below ((BC _ V).drew)
def Bu.sub{w V:E}{bs cs:List (Option (Nat × Dat))}(a:Bu w V bs)(f:Nat->Nat)(g:∀(i j:Nat),f i=f j->i=j)(h:∀(i:Nat) x,cs[i]?=some (some x)->bs[f i]?=some (some x)):Bu w V cs:=
 ⟨λi B d b=>a.1 (f i) B d (h i _ b),λi j B d c b e=>g i j (a.2.1 (f i) (f j) B d c (h i _ b) (h j _ e)),a.2.2⟩
theorem Bu.none{w V:E}{bs:List (Option (Nat × Dat))}(a:Bu w V bs):Bu w V (bs++[Option.none]):=by
 refine a.sub id (λ_ _ h=>h) λi x h=>?_;grind
theorem Bu.fill{w V:E}{bs:List (Option (Nat × Dat))}(b:Bu w V bs){i:Nat}(h:bs[i]?=some Option.none)(d:Dat)(p:Has V (L cs) d):
 Bu w (V.alloc (H cs d.ty)) (bs.set i (some (V.heap.size,d))):=by
 have g:Bl V (V.alloc (H cs d.ty)):=Ba V _;have m:i<bs.length:=(AA.1 h).1;have f:=b.below g;have r:∀(j:Nat) B d,bs[j]?=some (some (B,d))->B<V.heap.size:=λj B d h=>by
  obtain⟨⟨_,c,_⟩,_⟩:=b.1 j B d h;exact c.lt
 refine⟨λj B n a=>?_,λj k B d1 o c l=>?_,f.2.2⟩
 . by_cases e:i=j
   . subst e;rw[List.getElem?_set_self m]at a;simp at a;obtain⟨rfl,rfl⟩:=a;exact⟨⟨cs,BD V _,p.below g⟩,b.2.2.size⟩
   . rw[Cw e]at a;exact f.1 j B n a
 . by_cases e:i=j<;>by_cases q:i=k
   . omega
   . grind
   . grind
   . rw[Cw e]at c;rw[Cw q]at l;exact b.2.1 j k B d1 o c l
def Bu.push{w V:E}{bs:List (Option (Nat × Dat))}(a:Bu w V bs)(d:Dat)(b:Has V (L cs) d):Bu w (V.alloc (H cs d.ty)) (bs++[some (V.heap.size,d)]):=by
 have h:=a.none.fill (i:=bs.length) Br d b;rwa[MR]at h
def DW{w:E}(a:TypeId)(d1:Dat){c1:Array G}(c:Has w (L c1) d1)(b:d1.ty=a:=by rfl):∃W,Hid (w.alloc (H c1 a)=W)/\Hid (Bu w W [some (w.heap.size,d1)]):=by
 subst b;exact⟨_,Z rfl,Z ((Bu.nil w).push d1 c)⟩
theorem IB{w:E}(b:TypeId)(d1:Dat){c1:Array G}(f:Has w (L c1) d1)(c:TypeId)(a:Dat){c2:Array G}(g:Has w (L c2) a)(d:d1.ty=b:=by rfl)(e:a.ty=c:=by rfl):∃W,Hid ((w.alloc (H c1 b)).alloc (H c2 c)=W)/\Hid (Bu w W [some (w.heap.size,d1),some (w.heap.size+1,a)]):=by
 subst d e;have i:=((Bu.nil w).push d1 f).push a (g.alloc _);grind[BA,Z]
theorem EN{w:E}(c:TypeId)(d1:Dat){c1:Array G}(j:Has w (L c1) d1)(d:TypeId)(a:Dat){c2:Array G}(k:Has w (L c2) a)(e:TypeId)(b:Dat){c3:Array G}(l:Has w (L c3) b)(f:d1.ty=c:=by rfl)(g:a.ty=d:=by rfl)(i:b.ty=e:=by rfl):∃W,Hid (((w.alloc (H c1 c)).alloc (H c2 d)).alloc (H c3 e)=W)/\Hid (Bu w W [some (w.heap.size,d1),some (w.heap.size+1,a),some (w.heap.size+1+1,b)]):=by
 subst f g i;have m:=(((Bu.nil w).push d1 j).push a (k.alloc _)).push b ((l.alloc _).alloc _);grind[BA,Z]
theorem Bu.repl{w V:E}{bs:List (Option (Nat × Dat))}(f:Bu w V bs){i B:Nat}(h:bs[i]?=some (some (B,d)))(c:Dat)(D:Bx V' B c.ty cs)(K:Has V (L cs) c)
(p:∀k v ds,Row k V v ds->Row k V' v ds)(N:∀a t cs,a≠B->Bx V a t cs->Bx V' a t cs)(A:Bl w V')
(hp:noPoly bs=true\/∀v qs,RowK true V v qs->RowK true V' v qs)(P:c.noPoly=true\/∀v qs,RowK true V v qs->RowK true V' v qs):Bu w V' (bs.set i (some (B,c))):=by
 have q:i<bs.length:=(AA.1 h).1;obtain⟨_,Q⟩:=f.1 i B d h;refine⟨λj a d1 b=>?_,λj k a d1 u y z=>?_,A⟩
 . by_cases n:i=j
   . subst n;rw[List.getElem?_set_self q]at b;simp at b;obtain⟨rfl,rfl⟩:=b;exact⟨⟨cs,D,K.keep p P⟩,Q⟩
   . rw[Cw n]at b;obtain⟨⟨s,l,m⟩,R⟩:=f.1 j a d1 b;have r:a≠B:=λe=>n (by rw[e]at b;exact f.2.1 i j B d d1 h b);exact⟨⟨s,N _ _ _ r l,m.keep p (hp.imp (λh=>MT h b) id)⟩,R⟩
 . have o:∀(j:Nat) d1,(bs.set i (some (B,c)))[j]?=some (some (a,d1))->∃g,bs[j]?=some (some (a,g)):=λj d1 b=>by
    grind
   obtain⟨g,l⟩:=o j d1 y;obtain⟨x,m⟩:=o k u z;exact f.2.1 j k a g x l m
theorem IC{V:E}{B:Nat}{t:TypeId}(h:Bx V B t cs){o:Nat}(e:cs[o]?=some x0)(m:JJ x0=true)(r:Bool)(p:t≠GA r)(x:G)(v:G)(qs:X)(d:RowK r V v qs):RowK r (V.setCell ⟨B,o,Option.none⟩ x) v qs:=by
 obtain⟨a,cap,ev,j,k,l,c⟩:=d;refine⟨a,cap,ev,j,k,l,?_⟩;rcases c with c|⟨b,g,f⟩
 . exact Ar c
 . refine AL ⟨b,g,f.keep (BT V ⟨B,o,Option.none⟩ x b ?_) λ_ _ _ d=>Row.set d (cell_of h e) m _⟩;rintro rfl;obtain⟨n,i,_⟩:=f;rw[show V.heap[b]?=_ from h]at i;grind
def ID{V:E}{B:Nat}{t:TypeId}{a:G}(q:Jd V B t x0 a){r:Bool}(b:t≠GA r)(c:JJ x0=true)(d:JJ a=true)(x y:G):∀v qs,RowK r V v qs->RowK r ((V.setCell ⟨B,0,Option.none⟩ x).setCell ⟨B,1,Option.none⟩ y) v qs:=
 λv qs h=>IC (cs:=#[x,a]) (q.set0 x) (o:=1) rfl d r b y v qs (IC (cs:=#[x0,a]) q (o:=0) rfl c r b x v qs h)
def GB{V:E}{B:Nat}{t:TypeId}{x y:G}(q:Jd V B t x y)(b:JJ x=true)(c:JJ y=true)(a d:G):∀k v ds,Row k V v ds->Row k ((V.setCell ⟨B,0,Option.none⟩ a).setCell ⟨B,1,Option.none⟩ d) v ds:=
 λ_ _ _ h=>Row.set (Row.set h q.c0 b _) (q.set0 a).c1 c _
def Bu.putInt{w V:E}{bs:List (Option (Nat × Dat))}(b:Bu w V bs){i B:Nat}{z0:Int}(h:bs[i]?=some (some (B,.int z0))){x y:G}{z:Int}(j:Jg V (L #[x,y]) z):
 Bu w ((V.setCell ⟨B,0,Option.none⟩ x).setCell ⟨B,1,Option.none⟩ y) (bs.set i (some (B,.int z))):=by
 obtain⟨s,a,l,c,d,_⟩:=b.int h;obtain⟨_,f⟩:=b.1 i B _ h;exact b.repl h (.int z) (cs:=#[x,y]) ((d.set0 x).set1 y) j (GB d rfl rfl x y) (λk t cs e g=>(g.far (p:=⟨B,0,Option.none⟩) e _).far (p:=⟨B,1,Option.none⟩) e _) ((b.2.2.setCell (p:=⟨B,0,Option.none⟩) f _).setCell (p:=⟨B,1,Option.none⟩) f _) (AL (ID d Bw rfl rfl x y)) (Ar rfl)
def Bu.putBig{w V:E}{bs:List (Option (Nat × Dat))}(b:Bu w V bs){i B:Nat}{z0:Int}(h:bs[i]?=some (some (B,.big z0))){x y:G}{z:Int}(j:Jk V (L #[x,y]) z):
 Bu w ((V.setCell ⟨B,0,Option.none⟩ x).setCell ⟨B,1,Option.none⟩ y) (bs.set i (some (B,.big z))):=by
 obtain⟨a,l,c,s,d,_⟩:=b.big h;obtain⟨_,f⟩:=b.1 i B _ h;exact b.repl h (.big z) (cs:=#[x,y]) ((d.set0 x).set1 y) j (GB d rfl rfl x y) (λk t cs e g=>(g.far (p:=⟨B,0,Option.none⟩) e _).far (p:=⟨B,1,Option.none⟩) e _) ((b.2.2.setCell (p:=⟨B,0,Option.none⟩) f _).setCell (p:=⟨B,1,Option.none⟩) f _) (AL (ID d Bw rfl rfl x y)) (Ar rfl)
def Bu.zref{w V:E}{bs:List (Option (Nat × Dat))}(a:Bu w V bs){i B:Nat}(h:bs[i]?=some (some (B,.zref))):JN V B 34 (C Option.none 0 0) (F false) (C Option.none 0 0) (F false):=by
 obtain⟨⟨cs,b,c⟩,_⟩:=a.1 i B _ h;cases(show Value.agg cs=_ from c);exact b
def Has.set2{V:E}{v:G}(h:Has V v d){B:Nat}{t:TypeId}{x y:G}(q:Jd V B t x y)(e:JJ x=true)(f:JJ y=true)(a b:G)(c:d.noPoly=true:=by rfl):Has ((V.setCell ⟨B,0,Option.none⟩ a).setCell ⟨B,1,Option.none⟩ b) v d:=h.keep (GB q e f a b) (Ar c)
def Has.put4{V:E}{v:G}{d:Dat}(h:Has V v d){B:Nat}{t:TypeId}{x y z u:G}(q:JN V B t x y z u)(b:JJ x=true)(c:JJ y=true)(e:JJ z=true)(f:JJ u=true)(j k l i:G)(a:d.noPoly=true:=by rfl):Has (Go.Proofs.YtcahodpphikgnaaGreatDoor.put4 V B j k l i) v d:=h.keep (λ_ _ _ g=>Row.put4 g q b c e f _ _ _ _) (Ar a)
def Bu.ne{w V:E}{bs:List (Option (Nat × Dat))}(c:Bu w V bs)(i j:Nat){B a:Nat}{b:Dat}(h:bs[i]?=some (some (B,d)))(f:bs[j]?=some (some (a,b)))(g:i≠j):B≠a:=λe=>by
 subst e;exact g (c.2.1 i j B d b h f)
def Bu.ge{w V:E}{bs:List (Option (Nat × Dat))}(a:Bu w V bs)(i:Nat){B:Nat}(h:bs[i]?=some (some (B,d))):w.heap.size<=B:=(a.1 i B d h).2
end M3
section
variable {V:World} {B:Nat} {t:TypeId} {x y z u:Value}
def Jd.ka(h:Jd V B t x y):V.cell? ⟨B,0,none⟩=some x/\V.cell? ⟨B,1,none⟩=some y:=⟨h.c0,h.c1⟩
def Jd.fa(h:Jd V B t x y):V.frozen? ⟨B,0,none⟩=false/\V.frozen? ⟨B,1,none⟩=false:=⟨h.f0,h.f1⟩
def JN.kb(h:JN V B t x y z u):V.cell? ⟨B,0,none⟩=some x/\V.cell? ⟨B,1,none⟩=some y/\V.cell? ⟨B,2,none⟩=some z/\V.cell? ⟨B,3,none⟩=some u:=⟨h.c0,h.c1,h.c2,h.c3⟩
def JN.fb(h:JN V B t x y z u):V.frozen? ⟨B,0,none⟩=false/\V.frozen? ⟨B,1,none⟩=false/\V.frozen? ⟨B,2,none⟩=false/\V.frozen? ⟨B,3,none⟩=false:=⟨h.f0,h.f1,h.f2,h.f3⟩
end
def Jk.form{W:E}{v:G}{z:Int}(h:Jk W v z):∃a l cap,v=L #[C a l cap,F (decide (z<0))]:=by
 obtain⟨a,l,cap,e,_⟩:=h;exact⟨a,l,cap,e⟩
def Jk.box{W:E}{b:Nat}{t:TypeId}{u0 u1 x0 x1 v:G}{z:Int}(h:Jk W v z)(q:Jd W b t u0 u1)(d:JJ u0=true)(f:JJ u1=true):Jk ((W.setCell ⟨b,0,none⟩ x0).setCell ⟨b,1,none⟩ x1) v z:=by
 obtain⟨a,l,cap,e,c⟩:=h;exact⟨a,l,cap,e,Row.set (Row.set c q.c0 d _) (u0:=u1) (q.set0 x0).c1 f _⟩
def IE(U W:G)(x y:Int)(w:E)(k:Jk w U x)(l:Jk w W y)(ae:C8 x<=400000000000)(ah:C8 y<=400000000000):
 M I 95 #[U,W] w λe d=>∃u,e=.returned u/\Jk d u (x-y)/\Bl w d:=by
 obtain⟨a,j,g,rfl⟩:=k.form;obtain⟨b,lb,i,rfl⟩:=l.form;obtain⟨s,hs⟩:=ex (decide (x<0));obtain⟨t,B⟩:=ex (decide (y<0));rw[hs]at k ⊢;rw[B]at l ⊢;clear hs B;obtain⟨W0,f⟩:=ex (((w.alloc (H #[C a j g,F s] 32)).alloc (H #[C b lb i,F t] 32)).alloc (H #[C none 0 0,F false] 32));have m:Bl w W0:=by rw[<-f];exact YX w _ _ _
 have b0:Jd W0 w.heap.size 32 (C a j g) (F s):=by rw[<-f];exact((Jd.new w _ _ _).alloc _).alloc _
 have n:Jd W0 (w.heap.size+1) 32 (C b lb i) (F t):=by
  have h:=(Jd.new (w.alloc (H #[C a j g,F s] 32)) 32 (C b lb i) (F t)).alloc (H #[C none 0 0,F false] 32);rw[BA,f]at h;exact h
 have o:Jd W0 (w.heap.size+1+1) 32 (C none 0 0) (F false):=by
  have h:=Jd.new ((w.alloc (H #[C a j g,F s] 32)).alloc (H #[C b lb i,F t] 32)) 32 (C none 0 0) (F false);rw[BA,BA,f]at h;exact h
 have X:=Z λ(V:E) (h:Bl W0 V)=>FQ _ y V ((l.below m).below h);have HS:=Z λ(V:E) (u:G) (h:Bl W0 V) (hu:Jk V u (-y))=>FP _ u x (-y) V ((k.below m).below h) hu ae (by unfold C8 at *;rw[CU];exact ah);clear k l;go_enter func95,ntmps95
 go_wp2_with fail
 try rw[f]
 clear f;have c:Bl W0 W0.drew:=(BC _ W0).drew;obtain⟨D,K⟩:=b0.cp;obtain⟨N,P⟩:=n.cp;have ai:¬(w.heap.size=w.heap.size+1+1):=Y
 go_region_held3 (λd=>d.cell? ⟨w.heap.size,0,none⟩=some (C a j g)/\d.cell? ⟨w.heap.size,1,none⟩=some (F s)/\d.cell? ⟨w.heap.size+1,0,none⟩=some (C b lb i)/\d.cell? ⟨w.heap.size+1,1,none⟩=some (F t)) (refine⟨?_,?_,?_,?_⟩<;>(first|(go_keep;done)|((repeat rw[Jn Y]);simp[*];done)))
  (first
   |(go_at_call 62;refine(X.o _ c).mono ?_;rintro e w1 ⟨u1,rfl,z,aa⟩;obtain⟨na,nl,nc,rfl⟩:=z.form;obtain⟨s1,q⟩:=ex (decide (-y<0));rw[q]at z;rw[q];clear q;have c:=Bt c aa;obtain⟨D,K⟩:=(b0.below c).cp;obtain⟨N,P⟩:=(n.below c).cp)
   |(go_at_call 66;refine(HS.o _ _ c z).mono ?_;rintro e w2 ⟨u2,rfl,A,ad⟩;obtain⟨R,T,S,rfl⟩:=A.form;obtain⟨Q,r⟩:=ex (decide (x+-y<0));rw[r]at A;rw[r];clear r;have c:=Bt c ad;obtain⟨D,K⟩:=(b0.below c).cp;obtain⟨N,P⟩:=(n.below c).cp;obtain⟨r0,r1⟩:=(o.below c).cp;obtain⟨f0,f1⟩:=(o.below c).fp))
 all_goals go_wp2_with fail
 have Qc:=Bt m c;have Qb:=A.box (o.below c) rfl rfl (x0:=C R T S) (x1:=F Q);exact BB (v:=L #[C R T S,F Q]) (by simp[results,results95,go_sem,r0,r1]) rfl ⟨_,rfl,by rw[Int.sub_eq_add_neg];exact Qb,(Qc.setCell (p:=⟨_,0,none⟩) so _).setCell (p:=⟨_,1,none⟩) so _⟩
def IF(X vb:G)(x y:Int)(w:E)(g:Jg w X x)(hb:Jg w vb y)(ae:(Jb O x.natAbs).length<1099511627776)(ah:(Jb O y.natAbs).length<1099511627776):
 M I 65 #[X,vb] w λe d=>∃u,e=.returned u/\Jg d u (x-y)/\Bl w d:=by
 obtain⟨a,R,B,rfl⟩:=g.form;obtain⟨b,lb,f,e0,i⟩:=hb;cases e0;obtain⟨s,hs⟩:=ex (decide (x<0));obtain⟨t,q⟩:=ex (decide (y<0));rw[hs]at g ⊢;rw[q];clear hs;obtain⟨W0,m⟩:=ex (((w.alloc (H #[F s,C a R B] 25)).alloc (H #[F t,C b lb f] 25)).alloc (H #[F false,C none 0 0] 25));obtain⟨l,b0,j,k⟩:=Ec m;have A:(if(!t)=true then -(y.natAbs:Int)else y.natAbs)=-y:=by
  rw[<-q];by_cases h:y<0
  . simp only[h,decide_true,Bool.not_true,CC,if_false];omega
  . simp only[h,decide_false,Bool.not_false,if_true];omega
 have HN:=Z (λ(V:E) (h:Bl W0 V)=>show M I 58 #[F (!t),C b lb f] V λe d=>∃u,e=.returned u/\Jg d u (-y)/\Bl V d by
  have D:=Xi (!t) (C b lb f) y.natAbs V (UN.below (UN.below i l) h);rw[A]at D;exact D)
 have HS:=Z λ(V:E) (u:G) (h:Bl W0 V) (i:Jg V u (-y))=>F0 _ u x (-y) V ((g.below l).below h) i ae (by rw[CU];exact ah);clear g i A q;go_enter func65,ntmps65
 go_wp2_with fail
 try rw[m]
 clear m;have c:Bl W0 W0.drew:=(BC _ W0).drew;obtain⟨K,N⟩:=b0.cp;obtain⟨P,Q⟩:=j.cp;have ai:¬(w.heap.size=w.heap.size+1+1):=Y
 go_region_held3 (λd=>d.cell? ⟨w.heap.size,0,none⟩=some (F s)/\d.cell? ⟨w.heap.size,1,none⟩=some (C a R B)/\d.cell? ⟨w.heap.size+1,0,none⟩=some (F t)/\d.cell? ⟨w.heap.size+1,1,none⟩=some (C b lb f)) (refine⟨?_,?_,?_,?_⟩<;>(first|(go_keep;done)|((repeat rw[Jn Y]);simp[*];done)))
  (first
   |(go_at_call 58;refine(HN.o _ c).mono ?_;rintro e w1 ⟨u1,rfl,r,aa⟩;obtain⟨na,nl,nc,rfl⟩:=r.form;obtain⟨s1,n⟩:=ex (decide (-y<0));rw[n]at r;rw[n];clear n;have c:=Bt c aa;obtain⟨K,N⟩:=(b0.below c).cp;obtain⟨P,Q⟩:=(j.below c).cp)
   |(go_at_call 42;refine(HS.o _ _ c r).mono ?_;rintro e w2 ⟨u2,rfl,z,ad⟩;obtain⟨T,W,U,rfl⟩:=z.form;obtain⟨S,o⟩:=ex (decide (x+-y<0));rw[o]at z;rw[o];clear o;have c:=Bt c ad;obtain⟨K,N⟩:=(b0.below c).cp;obtain⟨P,Q⟩:=(j.below c).cp;obtain⟨r0,r1⟩:=(k.below c).cp;obtain⟨f0,f1⟩:=(k.below c).fp))
 all_goals go_wp2_with fail
 have Qc:=Bt l c;have Qb:=z.box (k.below c) rfl rfl (x0:=F S) (x1:=C T W U);exact BB (v:=L #[F S,C T W U]) (by simp[results,results65,go_sem,r0,r1]) rfl ⟨_,rfl,by rw[Int.sub_eq_add_neg];exact Qb,(Qc.setCell (p:=⟨_,0,none⟩) so _).setCell (p:=⟨_,1,none⟩) so _⟩
section
def C3(W:E)(b:Nat)(xs:Ja):Prop:=∃a:List G,W.heap[b]?=some (H (cellsOf .i64 xs++a).toArray 3 (0,0))
variable{xs:Ja}{b c k l n:Nat}
theorem C3.lt{W:E}(h:C3 W b xs):b<W.heap.size:=by obtain⟨_,h⟩:=h;grind
theorem C3.cell{W:E}{b:Nat}{xs:Ja}(h:C3 W b xs){j:Nat}(a:j<xs.length):W.cell? ⟨b,j,none⟩=some (.int .i64 (xs[j]?.getD 0:Nat)):=by
 obtain⟨c,h⟩:=h;grind[cellsOf,World.cell?]
def C3.frozen{W:E}{b:Nat}{xs:Ja}(h:C3 W b xs)(j:Nat):W.frozen? ⟨b,j,none⟩=false:=by obtain⟨_,h⟩:=h;simp[World.frozen?,h]
def C3.of_block{W W':E}(h:C3 W b xs)(e:W'.heap[b]?=W.heap[b]?):C3 W' b xs:=by obtain⟨a,h⟩:=h;exact⟨a,e.trans h⟩
def C3.below{W W':E}(h:C3 W b xs)(a:Bl W W'):C3 W' b xs:=h.of_block (a.block b h.lt)
theorem C3.set{W:E}{b:Nat}{xs:Ja}(h:C3 W b xs)(j v:Nat):C3 (W.setCell ⟨b,j,none⟩ (.int .i64 (v:Nat))) b (xs.set j v):=by
 obtain⟨c,h⟩:=h;obtain⟨g,f⟩:=Ac.1 h;have e:∃a,(cellsOf .i64 xs++c).set j (.int .i64 (v:Nat))=cellsOf .i64 (xs.set j v)++a:=by
  rcases As j xs.length with d|d
  . exact⟨c,by grind[cellsOf,List.map_set]⟩
  . grind[Yy,List.set_eq_of_length_le]
 obtain⟨a,e⟩:=e;refine⟨a,?_⟩;show(W.heap.modify b _)[b]?=_;grind
def C3.made{W:E}(h:W.heap[b]?=some (H (cellsOf .i64 xs).toArray 3 (0,0))):C3 W b xs:=⟨[],by rw[CO];exact h⟩
def C3.row{W:E}(h:C3 W b xs)(a len cap:Nat)(f:a+len<=xs.length)(g:len<=cap)(d:cap<=9223372036854775807)(i:len<=1099511627776):Row .i64 W (C (some ⟨b,a,none⟩) len cap) ((xs.drop a).take len):=by
 have e:((xs.drop a).take len).length=len:=by rw[Af,Ce];omega
 refine⟨_,cap,by rw[e],Y,d,Y,AL ⟨b,a,rfl,(by obtain⟨k,h⟩:=h;exact⟨_,_,h⟩),λj c=>?_⟩⟩;rw[e]at c;rw[h.cell Y,Ca c,List.getElem?_drop]
theorem MU(n:Nat):madeCells #[.int .i64 0] n=(cellsOf .i64 (OA n 0)).toArray:=by
 grind[madeCells,cellsOf]
def IG(n:Nat)(h:n<=2199023255552)(w:E):(Instr.makeSlice 30 (.int .i64 (n:Int)) (.int .i64 (n:Int))).run I w=.ok (C (some ⟨w.heap.size,0,none⟩) n n) (w.alloc (H (cellsOf .i64 (OA n 0)).toArray 3)):=by
 rw[<-MU];exact run_make_row' 30 3 (.int .i64 0) 8 underlying30 Tryz.infoInt rfl .i64 .i64 n Y Y w
theorem GC(B:Nat):∀(D:Ja) (j d:Nat),j<D.length->val B (D.set j d)+B^j*D[j]?.getD 0=val B D+B^j*d
 |[],_,_,h=>by cases h
 |x::D,0,d,_=>by simp[val];omega
 |x::D,j+1,d,h=>by
  have a:=GC B D j d (by simpa using h);grind[val]
def IH(B n:Nat):val B (OA n 0)=0:=by
 induction n with
 |zero=>rfl
 |succ n a=>rw[Ch,val,a];simp
def Bs.set{B:Nat}{D:Ja}(h:Bs B D)(j:Nat){d:Nat}(b:d<B):Bs B (D.set j d):=λx c=>by
 rcases List.mem_or_eq_of_mem_set c with a|a
 . exact h x a
 . rw[a];exact b
def X5(a bs:Ja)(i:Nat)(D:Ja):Prop:=
 D.length=a.length+bs.length+1/\Bs 10000 D/\val 10000 D=val 10000 (a.take i)*val 10000 bs
def DX(a bs:Ja)(i k c:Nat)(D:Ja):Prop:=
 D.length=a.length+bs.length+1/\Bs 10000 D/\c<10000/\
  val 10000 D+10000^(i+k)*c=val 10000 (a.take i)*val 10000 bs+10000^i*(a[i]?.getD 0*val 10000 (bs.take k))
theorem X5.start(a bs:Ja):X5 a bs 0 (OA (a.length+bs.length+1) 0):=
 ⟨A1,λx b=>by grind,by rw[IH];simp[val]⟩
def X5.inner{a bs:Ja}{i:Nat}{D:Ja}(h:X5 a bs i D):DX a bs i 0 0 D:=by
 obtain⟨b,c,d⟩:=h;refine⟨b,c,Y,?_⟩;rw[d];simp[val]
theorem DX.total{a bs:Ja}{i:Nat}{D:Ja}(h:DX a bs i k c D)(d:bs.length<=k):val 10000 D+10000^(i+k)*c=val 10000 (a.take (i+1))*val 10000 bs:=by
 obtain⟨_,_,_,b⟩:=h;grind[Ab,Ji]
def DX.done{a bs:Ja}{i:Nat}{D:Ja}(h:DX a bs i k 0 D)(b:bs.length<=k):X5 a bs (i+1) D:=by
 have:=h.total b;exact⟨h.1,h.2.1,Y⟩
def DX.over{a bs:Ja}{i:Nat}{D:Ja}(h:DX a bs i k c D)(g:Bs 10000 a)(j:Bs 10000 bs)(n:i<a.length)(o:bs.length<k):c=0:=by
 have l:=h.total Y;have d:=JL (g.take (i+1));have e:=JL j;rw[Af,Cj Y]at d;have f:val 10000 (a.take (i+1))*val 10000 bs<10000^(i+1)*10000^bs.length:=Nat.mul_lt_mul'' d e;rw[<-Cm]at f;have m:10000^(i+1+bs.length)<=10000^(i+k):=Al Y Y;rcases An c with b|b
 . exact b
 . have:=Ai (10000^(i+k)) b;omega
theorem DX.step{a bs:Ja}{i:Nat}{D:Ja}(h:DX a bs i k c D)(d:Bs 10000 a)(e:Bs 10000 bs)(m:i+k<D.length)(c1:Nat)(l:c1=c+D[i+k]?.getD 0+a[i]?.getD 0*bs[k]?.getD 0):
 DX a bs i (k+1) (c1/10000) (D.set (i+k) (c1%10000)):=by
 obtain⟨f,b,g,j⟩:=h;have x1:=d.getD Y i;have n:=e.getD Y k;have o:=b.getD Y (i+k);have p:a[i]?.getD 0*bs[k]?.getD 0<=9999*9999:=CX Y Y;refine⟨B7,b.set _ (At _ Y),Y,?_⟩;grind[GC,Ji,Ay]
theorem X5.fin{a bs D:Ja}{m:Nat}(h:X5 a bs a.length D)(d:a=Jb 10000 m)(e:bs=Jb 10000 n):Jl D=Jb 10000 (m*n):=by
 obtain⟨_,b,c⟩:=h;grind[JC,Je]
def Jd.keptG{W W':E}{B:Nat}{t:TypeId}{x y:G}{g:Nat}(h:Jd W B t x y)(a:W.grownBy W' (some g))(b:B≠g):Jd W' B t x y:=
 (a.block B h.lt λe=>b (by cases e;rfl)).trans h
theorem MV{x y:Nat}(a:x<10000)(b:y<10000):x*y<=99980001/\IntKind.i64.wrap ((x:Int)*(y:Int))=((x*y:Nat):Int):=by
 have h:x*y<=9999*9999:=CX Y Y;grind[IntKind.wrap,IntKind.bits]
def MW(a b:N8)(j lb z A m n:Nat)(s t:Bool)(w:E)(ra:RN w (C a j z) m)(rb:RN w (C b lb A) n)(bi:j<=400000000000)(bj:lb<=400000000000):
 M I 67 #[L #[C a j z,F s],L #[C b lb A,F t]] w λe V=>∃c lc cc,e=.returned (L #[C c lc cc,F ((s != t)&&decide (0<lc))])/\RN V (C c lc cc) (m*n)/\Bl w V:=by
 obtain⟨W0,P⟩:=ex (((w.alloc (H #[C a j z,F s] 32)).alloc (H #[C b lb A,F t] 32)).alloc (H #[C none 0 0,F false] 32));have Qk:Bl w W0:=by rw[<-P];exact YX w _ _ _
 have b0:Jd W0 w.heap.size 32 (C a j z) (F s):=by rw[<-P];exact((Jd.new w _ _ _).alloc _).alloc _
 have b1:Jd W0 (w.heap.size+1) 32 (C b lb A) (F t):=by
  have h:=(Jd.new (w.alloc (H #[C a j z,F s] 32)) 32 (C b lb A) (F t)).alloc (H #[C none 0 0,F false] 32);rw[BA,P]at h;exact h
 have bR:Jd W0 (w.heap.size+1+1) 32 (C none 0 0) (F false):=by
  have h:=Jd.new ((w.alloc (H #[C a j z,F s] 32)).alloc (H #[C b lb A,F t] 32)) 32 (C none 0 0) (F false);rw[BA,BA,P]at h;exact h
 have Ql:W0.heap.size=w.heap.size+3:=by rw[<-P];simp
 obtain⟨aa,az,bk,bf,ak⟩:=Jm ra;obtain⟨ad,bc,bm,bg,am⟩:=Jm rb;have HF:=Z λD (h:X5 (Jb 10000 m) (Jb 10000 n) (Jb 10000 m).length D)=>h.fin (m:=m) (n:=n) rfl rfl;have xa:=Jf (B:=10000) Y m;have xb:=Jf (B:=10000) Y n;have X:=IG (j+lb+1) Y W0;rw[show((j+lb+1:Nat):Int)=(j:Int)+(lb:Int)+1 from by omega]at X;obtain⟨o,K⟩:=ex (W0.alloc (H (cellsOf .i64 (OA (j+lb+1) 0)).toArray 3));rw[K]at X;obtain⟨g,hg⟩:∃g,g=W0.heap.size:=⟨_,rfl⟩;rw[<-hg]at X Ql;have Qh:C3 o g (OA (j+lb+1) 0):=by rw[<-K,hg];exact C3.made (BD W0 _)
 have R:Bl w o:=by rw[<-K];exact Qk.alloc Qk.size _
 have q0:Jd o w.heap.size 32 (C a j z) (F s):=by rw[<-K];exact b0.alloc _
 have q1:Jd o (w.heap.size+1) 32 (C b lb A) (F t):=by rw[<-K];exact b1.alloc _
 have qR:Jd o (w.heap.size+1+1) 32 (C none 0 0) (F false):=by rw[<-K];exact bR.alloc _
 have k0:=b0.c0;have k1:=b1.c0;have HS:=Z (X5.start (Jb 10000 m) (Jb 10000 n));generalize Jb 10000 m=us at *;generalize Jb 10000 n=U at *;obtain⟨H1,H2,Qe,S⟩:=Dh ak am aa ad;rw[<-aa,<-ad]at HS;have bd:w.heap.size+2<g:=Y
 clear Ql;clear ak am aa ad ra rb K hg b0 b1 bR;go_enter func67,ntmps67
 go_wp2;clear P X k0 k1;go_loopw [6] (λiv wr=>∃(i:Nat) (D:Ja),iv=.int .i64 i/\i<=j/\Hid (X5 us U i D)/\C3 wr g D/\o.grownBy wr (some g))
  (λiv _=>j-(intOf iv).toNat)
 case atStart=>exact⟨0,_,rfl,AR _,HS.o,Qh,Ya _ _⟩
 case round=>
  clear HS Qh;obtain⟨i,D,rfl,hi,Q,l,f⟩:=hrel;have m0:=(q0.keptG f Y).c0;have m1:=(q0.keptG f Y).c1;have m2:=(q1.keptG f Y).c0;have m3:=(q1.keptG f Y).c1;by_cases an:i<j
  . have HI:=Z Q.o.inner;clear Q;obtain⟨ab,ao,rfl,aq,ai⟩:=H1.o i an;go_wp2;go_loopw [7,8] (λcv kv wr=>∃(c k:Nat) (D:Ja),cv=.int .i64 c/\kv=.int .i64 k/\k<=lb+1/\c<10000/\Hid (DX us U i k c D)/\C3 wr g D/\o.grownBy wr (some g)) (λ_ kv _=>lb+2-(intOf kv).toNat)
    case atStart=>exact⟨0,0,D,rfl,rfl,Y,Y,HI,l,f⟩
    case round=>
     clear HI l f m0 m1 m2 m3;obtain⟨c,k,D,rfl,rfl,hk,hc,r,l,f⟩:=hrel;have m0:=(q0.keptG f Y).c0;have m2:=(q1.keptG f Y).c0;have Qf:=r.o.1;rw[<-Qe.o,<-S.o]at Qf;by_cases ay:k<lb
     . obtain⟨bb,bo,rfl,aw,aj⟩:=H2.o k ay;have bn:wr.cell? ⟨ab,ao+i,none⟩=some (.int .i64 (us[i]?.getD 0:Nat)):=(BM (w:=o) (f.block ab (by have:=R.size;omega) λe=>by cases e;omega)).trans ((R.cell (p:=⟨ab,ao+i,none⟩) aq).trans ai);have bp:wr.cell? ⟨bb,bo+k,none⟩=some (.int .i64 (U[k]?.getD 0:Nat)):=(BM (w:=o) (f.block bb (by have:=R.size;omega) λe=>by cases e;omega)).trans ((R.cell (p:=⟨bb,bo+k,none⟩) aw).trans aj);have Qm:wr.cell? ⟨g,i+k,none⟩=some (.int .i64 (D[i+k]?.getD 0:Nat)):=l.cell Y;have Qn:=l.frozen (i+k);have y1:=xa.getD Y i;have y2:=xb.getD Y k;have y3:=r.o.2.1.getD Y (i+k);have N:=Z (r.o.step xa xb Y _ rfl);obtain⟨z1,z2⟩:=MV y1 y2;generalize us[i]?.getD 0=x at *;generalize U[k]?.getD 0=y at *;generalize D[i+k]?.getD 0=d at *;generalize x*y=p at *;clear ai aj;go_upto_region 11 with fail
       go_quiet (fail)
       go_wp2;have e2:((c:Int)+(d:Int)+(p:Int))%10000=(((c+d+p)%10000:Nat):Int):=Y
       rw[e2];exact⟨⟨(c+d+p)/10000,k+1,D.set (i+k) ((c+d+p)%10000),by go_num,Br,Y,N.o.2.2.1,N,C3.set (W:=wr.drewN nq) l _ _,Ju (B:=wr.drewN nq) ⟨f.os,f.tape,f.output,f.size,f.block⟩ (JD _ _ _ _)⟩,by simp[intOf];omega⟩
     . rcases An c with ah|ah
       . subst ah;have HN:=Z (r.o.done (by rw[<-S.o];omega));clear r;go_wp2;exact⟨⟨i+1,D,Br,Y,HN,l,f⟩,by simp[intOf];omega⟩
       . have bh:k<=lb:=by
          rcases As lb k with h|h
          . have:=r.o.over xa xb (by rw[<-Qe.o];exact an) (by rw[<-S.o];exact h);omega
          . exact h
         have Qm:wr.cell? ⟨g,i+k,none⟩=some (.int .i64 (D[i+k]?.getD 0:Nat)):=l.cell Y;have Qn:=l.frozen (i+k);have y3:=r.o.2.1.getD Y (i+k);have Qi:U[k]?.getD 0=0:=by rw[AB (by rw[<-S.o];omega)];rfl
         have N:=Z (r.o.step xa xb Y _ rfl);rw[Qi,AU,AK]at N;clear Qi;generalize D[i+k]?.getD 0=d at *;go_wp2;have e2:((c:Int)+(d:Int))%10000=(((c+d)%10000:Nat):Int):=Y
         rw[e2];exact⟨⟨(c+d)/10000,k+1,D.set (i+k) ((c+d)%10000),by go_num,Br,Y,N.o.2.2.1,N,C3.set l _ _,Ju f (JD _ _ _ _)⟩,by simp[intOf];omega⟩
  . obtain rfl:i=j:=Y
    have Qg:Row .i64 wr (C (some ⟨g,0,none⟩) (i+lb+1) (i+lb+1)) D:=by
     have Qf:=Q.o.1;rw[<-Qe.o,<-S.o]at Qf;have h1:=l.row 0 (i+lb+1) (i+lb+1) Y (Aa _) Y Y;rwa[Aq,Ab Y]at h1
    have Qo:=Z (HF.o D (by rw[<-Qe.o];exact Q.o));have Qj:Bl w wr:=below_grown R f Y;have rR:=qR.keptG f Y;have p0:=q0.keptG f Y;have p1:=q1.keptG f Y;clear Q HF H1 H2;go_upto_region 14 with fail
    have q:Bl wr wr.drew:=(BC _ wr).drew;have bt:¬(w.heap.size=w.heap.size+1+1):=Y
    go_region_held3 (λV=>V.cell? ⟨w.heap.size,1,none⟩=some (F s)/\V.cell? ⟨w.heap.size+1,1,none⟩=some (F t)) (refine⟨?_,?_⟩<;>(first|(go_keep;done)|((repeat rw[Jn Y]);simp[*];done)))
     (first
      |(go_at_call 56;refine(Du _ D _ (Row.below Qg q)).mono ?_;rintro e w1 ⟨u,rfl,T,rfl⟩;rw[Qo.o]at T;obtain⟨a',c',rfl⟩:=RN.form T)
      |(go_at_call 93;refine(Dj _ _ _ _ _).mono ?_;rintro e w2 ⟨rfl,ae⟩;have T:=Row.below T ae;have q:=Bt q ae;have m1:=(p0.below q).c1;have m3:=(p1.below q).c1;obtain⟨r0,r1⟩:=(rR.below q).cp;obtain⟨f0,f1⟩:=(rR.below q).fp))
    all_goals go_wp2_with fail
    obtain⟨hr,ap⟩:=JH (C a' (Jb 10000 (m*n)).length c') (F (!(s==t)&&decide (0<(Jb 10000 (m*n)).length))) (Bt Qj q) Y (rR.below q) rfl rfl T;exact BB (v:=L #[C a' (Jb 10000 (m*n)).length c',F (!(s==t)&&decide (0<(Jb 10000 (m*n)).length))]) (by simp[results,results67,go_sem,r0,r1]) rfl ⟨_,_,_,rfl,hr,ap⟩
def Yd(n o:G)(x y:Int)(w:E)(A:Jk w n x)(B:Jk w o y)(D:C8 x<=400000000000)(K:C8 y<=400000000000):
 M I 67 #[n,o] w λe j=>∃u,e=.returned u/\Jk j u (x*y)/\Bl w j:=by
 obtain⟨a,N,p,rfl,l⟩:=A;obtain⟨b,lb,q,rfl,m⟩:=B;have P:=(Jm l).1;have Q:=(Jm m).1;unfold C8 at D K;refine(MW a b N lb p q _ _ _ _ w l m Y Y).mono ?_;rintro e j ⟨c,i,r,rfl,k,z⟩;refine⟨_,rfl,⟨c,i,r,?_,?_⟩,z⟩
 . have hl:=(Jm k).1;have s:((decide (x<0) != decide (y<0))&&decide (0<i))=decide (x*y<0):=by
    rw[Cb];simp only[AP,BS];have t:0<i↔x.natAbs*y.natAbs≠0:=by
     rw[hl,Cz,Ne,Js Y]
    rw[t];rcases CG x 0 with d|d|d<;>rcases CG y 0 with f|f|f
    . have:=Int.mul_pos_of_neg_of_neg d f;simp[d,f];omega
    . subst f;simp
    . have:=Int.mul_neg_of_neg_of_pos d f;have g:¬y<0:=Y
      simp only[d,g,decide_true,decide_false,this,iff_true];exact⟨rfl,CQ Y Y⟩
    . subst d;simp
    . subst d;simp
    . subst d;simp
    . have:=Int.mul_neg_of_pos_of_neg d f;have g:¬x<0:=Y
      simp only[f,g,decide_true,decide_false,this,iff_true];exact⟨rfl,CQ Y Y⟩
    . subst f;simp
    . have:=Int.mul_pos d f;have g:¬x<0:=Y
      have v:¬y<0:=Y
      simp[g,v];omega
   rw[s]
 . rw[Int.natAbs_mul];exact k
def Ew{n:Int}(a:-9223372036854775808<=n)(b:n<=9223372036854775807):C8 n<=400000000000:=by
 have c:=JG (B:=10000) Y (n:=n.natAbs) (k:=5) Y;unfold C8;omega
theorem Ye{P:Program}{ops:Array Oper}{Q:Exit->Act->E->Prop}{i:Nat}{o:Oper}{K:Act->E->Prop}{a:Act}{w:E}(b:ops[i]?=some o)(c:Region.wanted o (yielded ops a.tmps)=true)
(h:∀K':Act->E->Prop,(∀a w,K a w->K' a w)->o.wp P a w K' Q):wpOp P ops Q i K a w:=by
 grind[wpOp]
theorem YS{P:Program}{ops:Array Oper}{Q:Exit->Act->E->Prop}{i:Nat}{o:Oper}{K:Act->E->Prop}{a:Act}{w:E}(b:ops[i]?=some o)(c:Region.wanted o (yielded ops a.tmps)=false)
(h:K (a.put o.dst undef) w):wpOp P ops Q i K a w:=by
 unfold wpOp;grind
def Dz{W:E}{a:N8}(h:RN W (C a l c) n):Jk W (L #[C a l c,F false]) (n:Int):=by
 refine⟨a,l,c,?_,by rw[Cd];exact h⟩
 have:decide ((n:Int)<0)=false:=BE Y
 rw[this]
def II{W:E}{a:N8}{q:Bool}{z:Int}(h:Jk W (L #[C a l c,F q]) z)(d:z=(n:Int)):RN W (C a l c) n/\q=false:=by
 obtain⟨g,i,c',e,b⟩:=h;simp only[Value.agg.injEq,Array.mk.injEq,List.cons.injEq,Value.slice.injEq,Value.bool.injEq,and_true]at e;obtain⟨⟨rfl,rfl,rfl⟩,f⟩:=e;rw[d,Cd]at b;refine⟨b,?_⟩;rw[f,d];exact BE Y
def MX(a:N8)(o g:Nat)(b:N8)(lb x m n:Nat)(w:E)(ra:RN w (C a o g) m)(S:RN w (C b lb x) n)(ad:m<n*10000)(ah:lb<=400000000000):
 M I 121 #[C a o g,C b lb x] w λe T=>e=.returned (.int .i64 ((m/n:Nat):Int))/\Bl w T:=by
 have Qi:C8 (n:Int)<=400000000000:=by unfold C8;rw[Cd,<-(Jm S).1];exact ah
 obtain⟨Qk,Qj,Ql,Qm⟩:=Dh Qi ra S ad;clear ra S ad Qi;go_enter func121,ntmps121
 go_wp2_with fail
 go_loopw [5,6] (λR P wr=>∃lo d:Nat,R=.int .i64 (lo:Nat)/\P=.int .i64 (d:Nat)/\lo<d/\d<=10000/\Hid (n*lo<=m/\m<n*d)/\Bl w wr)
  (λR P _=>(intOf P-intOf R).toNat)
 case atStart=>exact⟨0,10000,rfl,rfl,Y,Y,Z ⟨Y,Qm.o⟩,BC _ w⟩
 case round=>
  obtain⟨lo,d,rfl,rfl,y,h2,p,i⟩:=hrel;obtain⟨f,ai⟩:∃f:Nat,(d:Int)-(lo:Int)=(f:Int):=⟨d-lo,Y⟩;have w1:IntKind.i64.wrap (f:Int)=(f:Int):=IntWalk.i64_in _ Y;by_cases aj:1<f
  . obtain⟨sm,am⟩:∃sm:Nat,(lo:Int)+(d:Int)=(sm:Int):=⟨lo+d,Y⟩;have w2:IntKind.i64.wrap (sm:Int)=(sm:Int):=IntWalk.i64_in _ Y;obtain⟨c,ak⟩:∃c:Nat,(sm:Int)/2=(c:Int):=⟨sm/2,Y⟩;have w3:IntKind.i64.wrap (c:Int)=(c:Int):=IntWalk.i64_in _ Y;have h3:lo<c/\c<d:=Y
    have Qg:=Z (Dv (c:Nat) Y Y wr);have Qf:=Z λ(V:E) (u:G) (h:Bl wr V) (N:Jk V u (c:Nat))=>Yd (L #[C b lb x,F false]) u (n:Nat) (c:Nat) V (Dz (RN.below (RN.below Ql.o i) h)) N Qk.o (Ew Y Y);obtain⟨cm,B⟩:=ex (J6 (n*c) m:Int);have Qe:=Z (show ∀(V:E) (u:G),Bl wr V->RN V u (n*c)->M I 99 #[u,C a o g] V λe T=>e=.returned (.int .i64 cm)/\Bl V T from λV u h N=>by
     have y:=FN 10000 Y u (C a o g) (Jb 10000 (n*c)) (Jb 10000 m) V N (RN.below (RN.below Qj.o i) h) (Jf Y _) (Jf Y _) (JM Y _) (JM Y _);rw[Je Y,Je Y,B]at y;exact y)
    have X:=Z B;clear B;go_upto_region 6 with(first
     |(go_at_call 46;refine Qg.o.mono ?_;rintro e w5 ⟨u5,rfl,k,z⟩;obtain⟨a5,l5,c5,rfl⟩:=k.form;obtain⟨s5,D⟩:=ex (decide (((c:Nat):Int)<0));rw[D]at k;rw[D];clear D)
     |(go_at_call 67;refine(Qf.o _ _ z k).mono ?_;rintro e U ⟨u6,rfl,l,aa⟩;obtain⟨t,Q,v,rfl⟩:=l.form;obtain⟨s6,K⟩:=ex (decide (((n:Nat):Int)*((c:Nat):Int)<0));rw[K]at l;rw[K];clear K))
    obtain⟨ae,rfl⟩:=II (n:=n*c) l (by rw[CM]);have bx:=Jd.new U 32 (C t Q v) (F false);obtain⟨s,j⟩:=ex (U.alloc (H #[C t Q v,F false] 32));have r:Bl wr s:=by rw[<-j];exact((Bt z aa).alloc (Bt z aa).size _)
    have Qh:RN s (C t Q v) (n*c):=by rw[<-j];exact RN.below ae (Ba U _)
    rw[j]at bx ⊢;have k0:=bx.c0;clear j Qg Qf k l ae;have W:Bl w s:=Bt i r;by_cases hle:cm<=0
    . have q:n*c<=m:=by
       have h:=X.o;unfold J6 at h;split at h
       . omega
       . split at h<;>omega
      go_wp2_with(go_at_call 99;refine(Qe.o _ _ r Qh).mono ?_;rintro e w8 ⟨rfl,A⟩)
      exact⟨⟨c,d,rfl,rfl,Y,h2,Z ⟨q,p.o.2⟩,Bt W A⟩,by simp[intOf];omega⟩
    . have q:m<n*c:=by
       have h:=X.o;unfold J6 at h;split at h
       . omega
       . split at h
         . assumption
         . omega
      go_wp2_with(go_at_call 99;refine(Qe.o _ _ r Qh).mono ?_;rintro e w8 ⟨rfl,A⟩)
      exact⟨⟨lo,c,rfl,rfl,Y,Y,Z ⟨p.o.1,q⟩,Bt W A⟩,by simp[intOf];omega⟩
  . have HE:=Z (show m/n=lo by
     obtain⟨e1,e2⟩:=p.o;have e3:d=lo+1:=Y
     rw[e3,CB,Nat.mul_one]at e2;apply Nat.le_antisymm
     . apply Cf;rw[Ah Y,Nat.succ_mul,Am lo];exact e2
     . rw[Cs Y,Am];exact e1)
    go_wp2_with fail
    go_ret;exact⟨by rw[HE.o];rfl,i⟩
theorem MY(A B:G)(x y:Int)(w:E)(g:Jk w A x)(i:Jk w B y)(P:C8 x<=400000000000)(Q:C8 y<=400000000000):
 M I 69 #[A,B] w λe w'=>e=.returned (.int .i64 (Yp x y))/\Bl w w':=by
 obtain⟨a,m,k,rfl⟩:=g.form;obtain⟨b,lb,l,rfl⟩:=i.form;obtain⟨s,hs⟩:=ex (decide (x<0));obtain⟨t,u⟩:=ex (decide (y<0));rw[hs]at g ⊢;rw[u]at i ⊢;clear hs u;have f:Bl w ((w.alloc (H #[C a m k,F s] 32)).alloc (H #[C b lb l,F t] 32)):=Xu w _ _;have b0:=(Jd.new w 32 (C a m k) (F s)).alloc (H #[C b lb l,F t] 32);have q:=Jd.new (w.alloc (H #[C a m k,F s] 32)) 32 (C b lb l) (F t);simp only[BA]at q;have o:=Z (IE _ _ x y _ (g.below f) (i.below f) P Q);obtain⟨U,V⟩:=b0.cp;obtain⟨W,X⟩:=q.cp;clear g i;go_enter func69,ntmps69
 go_upto_region 2 with(go_at_call 95;refine o.o.mono ?_;rintro e D ⟨u2,rfl,S,r⟩;obtain⟨v,d,z,rfl,R⟩:=id S;obtain⟨n,c⟩:=ex (decide (x-y<0));rw[c])
 have K:=Jd.new D 32 (C v d z) (F n);obtain⟨m0,m1⟩:=K.cp;have j:Bl w (D.alloc (H #[C v d z,F n] 32)):=(Bt f r).alloc (Bt f r).size _;have hl:d=(Jb 10000 (x-y).natAbs).length:=by
  obtain⟨a',c',e⟩:=R.form;cases e;rfl
 clear U V W X o;cases n
 . have N:=of_decide_eq_false c;by_cases T:x-y=0
   . have p:d=0:=by rw[hl,T];simp[Jq]
     subst p;clear hl c;go_wp2;go_ret;refine⟨?_,j⟩;have e:Yp x y=0:=by unfold Yp;omega
     rw[e];rfl
   . have p:1<=d:=by
      grind[Js]
     have aa:min (1:Int) (d:Int)=1:=Y
     clear hl c;go_wp2;go_ret;refine⟨?_,j⟩;have e:Yp x y=1:=by unfold Yp;omega
     rw[e];try rfl
 . have N:=BP c;clear hl c;go_wp2;go_ret;refine⟨?_,j⟩;have e:Yp x y=-1:=by unfold Yp;rw[BW Y]
   rw[e];try rfl
end
namespace M3
def Dat.eq(x:G):Dat where
 ty:=0
 has _ v:=v=x
 noPoly:=true
 below h _:=h
 keep h _ _:=h
def Dat.any:Dat where
 ty:=0
 has _ _:=True
 noPoly:=true
 below h _:=h
 keep h _ _:=h
def blk:G->Nat
 |.pointer (some a)=>a.block
 |_=>0
def Dat.ptr:Dat where
 ty:=0
 has _ v:=v=.pointer (some ⟨blk v,0,none⟩)
 noPoly:=true
 below h _:=h
 keep h _ _:=h
def upd(f:Nat->G)(i:Nat)(u:G):Nat->G:=λj=>if j=i then u else f j
def more(D:Nat->Bool)(i:Nat):Nat->Bool:=λj=>j==i || D j
def Hs(ds:List Dat)(D:Nat->Bool)(V:E)(f:Nat->G):Prop:=∀k,D k=true->Has V (f k) (ds.getD k .any)
def Av(ds:List Dat)(dp:Ja)(V:E)(f:Nat->G):Prop:=∀k,k∈dp->Has V (f k) (ds.getD k .any)
def EO(tab:List Ja)(i:Nat)(D:Nat->Bool)(l:Nat):Bool:=l != i&&((tab.getD i []).contains l || (!((tab.getD l []).contains i)&&D l))
def bl(tab:List Ja)(ws:Ja)(i:Nat)(D:Nat->Bool):List Bool:=ws.map (EO tab i D)
section
variable {P:Program} {ops:Array Oper} {mk:(Nat->Value)->Act} {ds:List Dat} {ws:Ja} {J:List Bool->List Value->World->Prop} {tab:List Ja} {D:Nat->Bool} {f:Nat->Value} {V W:World} {dp:Ja} {i:Nat} {u x:Value} {o:Oper}
variable{b:G}
theorem Hs.mv(h:Hs ds D V f)(m:∀d v,(d∈ds\/d=.any)->Has V v d->Has W v d):Hs ds D W f:=λk a=>m _ _ (by
 grind) (h k a)
theorem Hs.put(h:Hs ds D V f)(i:Nat)(c:Has V u (ds.getD i .any)):Hs ds (more D i) V (upd f i u):=λk b=>by
 unfold upd;by_cases a:k=i
 . subst a;rw[BW rfl];exact c
 . rw[BZ a];refine h k ?_;unfold more at b;grind
def Av.g(h:Av ds dp V f)(k:Nat)(a:k∈dp:=by decide):Has V (f k) (ds.getD k .any):=h k a
def Av.e(h:Av ds dp V f)(k:Nat)(e:ds.getD k .any=.eq x:=by rfl)(a:k∈dp:=by decide):f k=x:=by
 have:=h k a;rw[e]at this;exact this
def St(ds:List Dat)(ws:Ja)(J:List Bool->List G->E->Prop)(D:Nat->Bool)(f:Nat->G)(V:E):Prop:=Hs ds D V f/\J (ws.map D) (ws.map f) V
def c1{F:FuncId}{b:Ending->E->Prop}{a x:G}(h:a=x)(q:M P F #[x] V b):M P F #[a] V b:=by rw[h];exact q
def c2{F:FuncId}{c:Ending->E->Prop}{a x y:G}(h:a=x)(k:b=y)(q:M P F #[x,y] V c):M P F #[a,b] V c:=by rw[h,k];exact q
def c3{F:FuncId}{d:Ending->E->Prop}{a x y c z:G}(h:a=x)(k:b=y)(m:c=z)(q:M P F #[x,y,z] V d):M P F #[a,b,c] V d:=by rw[h,k,m];exact q
def Hs.e(h:Hs ds (λ_=>true) V f)(k:Nat)(e:ds.getD k .any=.eq x:=by rfl):f k=x:=by
 have:=h k rfl;rw[e]at this;exact this
def Hs.p(h:Hs ds (λ_=>true) V f)(k:Nat)(e:ds.getD k .any=.ptr:=by rfl):∃B,f k=.pointer (some ⟨B,0,none⟩):=by
 have:=h k rfl;rw[e]at this;exact⟨_,this⟩
def rv{F:FuncId}{av:Array G}{x:G}(q:M P F av V λe W=>e=.returned x/\Bl V W):M P F av V λe W=>∃u,e=.returned u/\Has W u (.eq x)/\Bl V W:=q.mono λ_ _ ⟨e,a⟩=>⟨_,e,rfl,a⟩
def Out(P:Program)(o:Oper)(a:Act)(V:E)(K:Act->E->Prop):Prop:=
 (∃r u W,(execOp a.eval o).run P V=.ok r W/\(r=.value u\/(r=.skip/\u=undef))/\K (a.put o.dst u) W)\/∃F av,(execOp a.eval o).run P V=.ok (.enter F av) V/\M P F av V λe W=>∃u,e=.returned u/\K (a.put o.dst u) W
def Ex:Oper->Bool
 |{ op:=.defer _,.. }=>true
 |_=>false
section
variable {Q:Exit->Act->World->Prop} {K:Act->World->Prop} {a:Act}
def Out.op(h:Out P o a V K)(g:ops[i]?=some o)(f:Region.wanted o (yielded ops a.tmps)=true):wpOp P ops Q i K a V:=by
 unfold wpOp;rw[g];simp only[f,if_true];refine Ar ?_;unfold Oper.wp;rcases h with⟨r,u,W,c,j,b⟩|⟨F,av,c,d⟩
 . rw[c];rcases j with rfl|⟨rfl,rfl⟩
   . exact b
   . exact b
 . rw[c];refine d.mono ?_;rintro e W ⟨u,rfl,b⟩;exact b
end
def Does(P:Program)(ops:Array Oper)(i:Nat)(a:Act)(V:E)(K:Act->E->Prop):Prop:=∃o,ops[i]?=some o/\Ex o=false/\((Region.wanted o (yielded ops a.tmps)=true/\Out P o a V K)\/(Region.wanted o (yielded ops a.tmps)=false/\K (a.put o.dst undef) V))
section
variable {Q:Exit->Act->World->Prop} {K K':Act->World->Prop} {a:Act}
def Does.op(h:Does P ops i a V K):wpOp P ops Q i K a V:=by
 obtain⟨o,c,_,⟨b,h⟩|⟨b,h⟩⟩:=h
 . exact h.op c b
 . unfold wpOp;rw[c];simp only[b,CC,if_false];exact h
def Does.mono(h:Does P ops i a V K)(b:∀f V',K f V'->K' f V'):Does P ops i a V K':=by
 obtain⟨o,g,j,⟨c,h⟩|⟨c,h⟩⟩:=h
 . refine⟨o,g,j,Ar ⟨c,?_⟩⟩;rcases h with⟨r,u,W,d,m,h⟩|⟨F,av,d,l⟩
   . exact Ar ⟨r,u,W,d,m,b _ _ h⟩
   . exact AL ⟨F,av,d,l.mono λe W ⟨u,k,h⟩=>⟨u,k,b _ _ h⟩⟩
 . exact⟨o,g,j,AL ⟨c,b _ _ h⟩⟩
end
def Stp(P:Program)(ops:Array Oper)(mk:(Nat->G)->Act)(ds:List Dat)(ws:Ja)(J:List Bool->List G->E->Prop)(tab:List Ja)(i:Nat):Prop:=
 ∀D f V,Av ds (tab.getD i []) V f->Hs ds D V f->J (bl tab ws i D) (ws.map f) V->ws.map D=bl tab ws i D->
  Does P ops i (mk f) V (λa V'=>∃u,a=mk (upd f i u)/\St ds ws J (more D i) (upd f i u) V')
variable{c:List Ja}{m:Nat->Prop}
theorem St.step(d:ws.contains i=false)(h:J (ws.map D) (ws.map f) V):J (ws.map (more D i)) (ws.map (upd f i u)) V:=by
 have c:∀l∈ws,l≠i:=λl hl e=>by
  grind
 have a:ws.map (more D i)=ws.map D:=Cg λl hl=>by unfold more;grind
 have b:ws.map (upd f i u)=ws.map f:=Cg λl hl=>BZ (c l hl);rw[a,b];exact h
def SB{n:Nat}(h:m 0)(t:∀i,i<n->m (i+1)):∀i,i<n+1->m i
 |0,_=>h
 |i+1,a=>t i (Nat.lt_of_succ_lt_succ a)
def Stp.end_:∀i,i<0->m i:=λ_ h=>absurd h (Nat.not_lt_zero _)
def Stp.cl{F:FuncId}{args:(Nat->G)->Array G}
(l:∀ {f V D},Av ds (tab.getD i []) V f->J (bl tab ws i D) (ws.map f) V->M P F (args f) V λe W=>∃u,e=.returned u/\Has W u (ds.getD i .any)/\Bl V W)
(k:∀b v V W,J b v V->Bl V W->J b v W:=by first|exact λ_ _ _ _ h a=>h.below a|exact λ_ _ _ _ h a=>⟨h.1.below a,h.2.below a⟩)(q:ops[i]?=some o:=by rfl)(m:∀ {f V},Av ds (tab.getD i []) V f->Region.wanted o (yielded ops (mk f).tmps)=true:=by exact λ_=>rfl)(n:ws.contains i=false:=by rfl)
(t:∀f V,(execOp (mk f).eval o).run P V=.ok (.enter F (args f)) V:=by intro f V;kernel_rfl)(p:∀f u,(mk f).put o.dst u=mk (upd f i u):=by intro f u;kernel_rfl)(r:Ex o=false:=by rfl):Stp P ops mk ds ws J tab i:=λD f V g hs j a=>⟨o,q,r,Ar ⟨m g,AL ⟨F,args f,t f V,by
 refine(l g j).mono ?_;rintro e W ⟨u,rfl,s,c⟩;exact⟨u,rfl,u,p f u,(hs.mv λd v _ h=>h.below c).put i s,St.step n (k _ _ _ _ (by rw[a];exact j) c)⟩⟩⟩⟩
def Stp.vl(j:ops[i]?=some o)(m:∀ {f V D},Av ds (tab.getD i []) V f->J (bl tab ws i D) (ws.map f) V->∃u,(execOp (mk f).eval o).run P V=.ok (.value u) V/\Has V u (ds.getD i .any))
(d:∀ {f V},Av ds (tab.getD i []) V f->Region.wanted o (yielded ops (mk f).tmps)=true:=by exact λ_=>rfl)(e:ws.contains i=false:=by rfl)(g:∀f u,(mk f).put o.dst u=mk (upd f i u):=by intro f u;kernel_rfl)(k:Ex o=false:=by rfl):Stp P ops mk ds ws J tab i:=λD f V a hs b c=>by
 obtain⟨u,n,l⟩:=m a b;exact⟨o,j,k,Ar ⟨d a,Ar ⟨_,u,V,n,Ar rfl,u,g f u,hs.put i l,St.step e (by rw[c];exact b)⟩⟩⟩
def Stp.wr(p:ops[i]?=some o)(w:∀ {f V D},Av ds (tab.getD i []) V f->J (bl tab ws i D) (ws.map f) V->∃r u W,(execOp (mk f).eval o).run P V=.ok r W/\(r=.value u\/(r=.skip/\u=undef))/\Has W u (ds.getD i .any)/\(∀d v,(d∈ds\/d=.any)->Has V v d->Has W v d)/\J (ws.map (more (EO tab i D) i)) (ws.map (upd f i u)) W)
(j:∀ {f V},Av ds (tab.getD i []) V f->Region.wanted o (yielded ops (mk f).tmps)=true:=by exact λ_=>rfl)(n:∀f u,(mk f).put o.dst u=mk (upd f i u):=by intro f u;kernel_rfl)(q:Ex o=false:=by rfl):Stp P ops mk ds ws J tab i:=λD f V b hs k g=>by
 obtain⟨r,u,W,x,s,t,m,a⟩:=w b k;have e:ws.map (more (EO tab i D) i)=ws.map (more D i):=Cg λl hl=>by
  have c:=List.map_inj_left.1 g l hl;show(l==i || EO tab i D l)=(l==i || D l);rw[<-c]
 rw[e]at a;exact⟨o,p,q,Ar ⟨j b,Ar ⟨r,u,W,x,s,u,n f u,(hs.mv m).put i t,a⟩⟩⟩
theorem MZ(b:∀l dp,tab[l]?=some dp->D l=true->∀k∈dp,D k=true)(c:∀k∈tab.getD i [],D k=true)(a:D i=false)(d:∀l∈ws,l<tab.length):ws.map D=bl tab ws i D:=Cg λl hl=>by
 grind[EO]
def EP(a:Act):List (Option Tmp)->Nat->(Nat->G)->Act
 |[],_,_=>a
 |d::ds,k,f=>EP (a.put d (f k)) ds (k+1) f
def GD(a:Act):Option (Option Tmp)->G
 |some (some t)=>a.tmps.getD t undef
 |_=>undef
def IJ(a:Act):∀(ds:List (Option Tmp)) (k:Nat) (f:Nat->G),(∀j,j<ds.length->f (k+j)=GD a ds[j]?)->EP a ds k f=a
 |[],_,_,_=>rfl
 |d::ds,k,f,h=>by
  have e:a.put d (f k)=a:=by
   have c:f k=GD a (some d):=h 0 (Nat.zero_lt_succ _);rw[c];cases d with
   |none=>rfl
   |some t=>
    show({ a with tmps:=a.tmps.setIfInBounds t (a.tmps.getD t undef) }:Act)=a
    have:a.tmps.setIfInBounds t (a.tmps.getD t undef)=a.tmps:=by
     apply Array.ext_getElem?;intro i;rw[Array.getElem?_setIfInBounds];by_cases b:t=i
     . subst b;by_cases hs:t<a.tmps.size
       . simp[hs]
       . simp[hs]
     . rw[BZ b]
    rw[this]
  show EP (a.put d (f k)) ds (k+1) f=a;rw[e];exact IJ a ds (k+1) f λj g=>by
   rw[Nat.add_right_comm,Nat.add_assoc];exact h (j+1) (Nat.succ_lt_succ g)
def Dc(ops:Array Oper)(a:Act)(f:Nat->G):Act:=EP a (ops.toList.map Oper.dst) 0 f
def Ma{a:Act}{dp:Ja}{K:Act->E->Prop}(p:∀l dp,tab[l]?=some dp->D l=true->∀k∈dp,D k=true)(q:tab[i]?=some dp)(g:∀k∈dp,D k=true)(n:D i=false)(s:(ws.all λl=>decide (l<tab.length))=true)
(t:∀i,i<tab.length->Stp P ops (Dc ops a) ds ws J tab i)(c:St ds ws J D f V)(o:∀b V',(∃f,b=Dc ops a f/\St ds ws J (more D i) f V')->K b V'):Does P ops i (Dc ops a f) V K:=by
 have e:tab.getD i []=dp:=B7
 have d:=MZ p (e ▸ g) n λl hl=>BP (AX.1 s l hl);exact(t i (AA.1 q).1 D f V (λk r=>c.1 k (g k (by rw[<-e];exact r))) c.1 (by rw[<-d];exact c.2) d).mono λb V' ⟨u,j,m⟩=>o _ _ ⟨_,j,m⟩
def Mb(e:(ws.all λl=>decide (l<tab.length))=true)(c:decide (ds.length<=tab.length)=true)(b:∀i,i<tab.length->D i=true)(a:St ds ws J D f V):Hs ds (λ_=>true) V f/\J (ws.map λ_=>true) (ws.map f) V:=by
 refine⟨λk _=>?_,?_⟩
 . by_cases d:k<tab.length
   . exact a.1 k (b k d)
   . have:=BP c;rw[List.getD_eq_getElem?_getD,AB Y];trivial
 . rw[Cg (g:=D) λl hl=>(b l (BP (AX.1 e l hl))).symm];exact a.2
def EQ(tab a:List Ja):Bool:=tab.length==a.length&&(List.range a.length).all λi=>(a.getD i []).all λk=>(tab.getD i []).contains k || (tab.getD i []).any λj=>decide (j<i)&&(a.getD j []).contains k
theorem IK(h:EQ tab c=true)(i:Nat)(a:i<c.length)(k:Nat)(b:k∈c.getD i []):k∈tab.getD i []\/∃j,j<i/\j∈tab.getD i []/\k∈c.getD j []:=by
 have d:=AX.1 (AX.1 (Bool.and_eq_true_iff.1 h).2 i (List.mem_range.2 a)) k b;grind
theorem GE(h:EQ tab c=true):tab.length=c.length:=eq_of_beq (Bool.and_eq_true_iff.1 h).1
def getD_at{t:List Ja}{i:Nat}(h:i<t.length):t[i]?=some (t.getD i []):=B7
theorem IL(h:EQ tab c=true)(b:∀l dp,tab[l]?=some dp->D l=true->∀k∈dp,D k=true)(l:Nat):D l=true->∀k∈c.getD l [],D k=true:=by
 induction l using Nat.strongRecOn with
 |ind l e=>
  intro a k d;grind[GE,IK]
theorem Mc{a:Act}{dp:Ja}{K:Act->E->Prop}(h:EQ tab c=true)(g:∀l dp,tab[l]?=some dp->D l=true->∀k∈dp,D k=true)(v:tab[i]?=some dp)(m:∀k∈dp,D k=true)(q:D i=false)(t:(ws.all λl=>decide (l<c.length))=true)
(u:∀i,i<c.length->Stp P ops (Dc ops a) ds ws J c i)(r:St ds ws J D f V)(s:∀d V',(∃f,d=Dc ops a f/\St ds ws J (more D i) f V')->K d V'):Does P ops i (Dc ops a f) V K:=by
 have hl:i<c.length:=by grind[GE]
 have e:tab.getD i []=dp:=B7
 refine Ma (λl dp hl p k n=>IL h g l p k B7) (getD_at hl) (λk n=>?_) q t u r s;rcases IK h i hl k n with b|⟨j,_,b,o⟩
 . exact m k (e ▸ b)
 . exact IL h g j (m j (e ▸ b)) k o
def ER{id:Nat}{a:Act}{w:E}{Q:Exit->Act->E->Prop}(v:P.follows .mixedOrders=true)(b:List Ja)(ds:List Dat)(ws:Ja)(J:List Bool->List G->E->Prop)
(start:J (ws.map λ_=>false) (ws.map λk=>GD a (ops.toList.map Oper.dst)[k]?) w.drew)
(x:∀i,i<b.length->Stp P ops (Dc ops a) ds ws J b i)
(fin:∀f V,Hs ds (λ_=>true) V f->J (ws.map λ_=>true) (ws.map f) V->Q .normal (Dc ops a f) V)
(e:EQ (Region.tabAfter .any ops) b=true:=by kernel_rfl)(u:Y0 (Region.tabAfter .any ops)=true:=by kernel_rfl)(g:(ws.all λl=>decide (l<b.length))=true:=by rfl)(s:decide (ds.length<=b.length)=true:=by rfl):(Code.region id ops true).wp P Q a w:=by
 refine J5 v _ rfl u (λD m V=>∃f,m=Dc ops a f/\St ds ws J D f V) ⟨_,(IJ a _ 0 _ λj _=>by rw[Cc]).symm,Cn (λ_ h=>Bool.noConfusion h) start⟩ ?_ ?_
 . rintro D _ V i dp r d t p ⟨f,rfl,c⟩;exact(Mc e r d t p g x c λ_ _ h=>h).op
 . rintro D _ V q ⟨f,rfl,c⟩;obtain⟨n,o⟩:=Mb g s (λi d=>q i (by rw[GE e];exact d)) c;exact fin f V n o
def DY{p q:Prop}(k:q)(h:q->p:=by intro x;simp only[Dc,EP,List.map_cons,List.map_nil,Act.put,List.setIfInBounds_toArray,List.set_cons_succ,List.set_cons_zero,Nat.reduceAdd];exact x):p:=h k
end
end M3
namespace M3
section
variable {w V:World} {bs:List (Option (Nat × Dat))} {B:Nat} {ρ:Operand->Value} {x y:Operand} {dst:Option Tmp} {ty:TypeId} {ps:String} {af:Array Edge} {gd:Option (Nat × Bool)} {q q0:Rat} {z z0:Int} {p p0:X} {v p1 u1:Value} {ds:List Dat} {T:World->Value->Prop}
def D0(i:Nat)(e:Bu w V bs)(h:bs[i]?=some (some (B,.rat q)):=by rfl)(hp:p1=.pointer (some ⟨B,0,none⟩):=by rfl)(f:ρ x=p1:=by kernel_rfl):∃u,(execOp ρ { dst:=dst,op:=.load 27 x,type:=ty,pos:=ps,after:=af,guard:=gd }).run I V=.ok (.value u) V/\Has V u (.rat q):=by
 rw[hp]at f;obtain⟨s,a,l,c,t,b,k,d,n,r,_,_⟩:=e.rat h;obtain⟨g,j,m,o⟩:=n.kb;exact⟨_,by go_simp,r⟩
def D3(i:Nat)(b:Bu w V bs)(h:bs[i]?=some (some (B,.int z)):=by rfl)(hp:p1=.pointer (some ⟨B,0,none⟩):=by rfl)(d:ρ x=p1:=by kernel_rfl):∃u,(execOp ρ { dst:=dst,op:=.load 25 x,type:=ty,pos:=ps,after:=af,guard:=gd }).run I V=.ok (.value u) V/\Has V u (.int z):=by
 rw[hp]at d;obtain⟨s,a,l,c,n,r⟩:=b.int h;obtain⟨e,f⟩:=n.ka;exact⟨_,by go_simp,r⟩
def D4(i:Nat)(e:Bu w V bs)(h:bs[i]?=some (some (B,.rat q)):=by rfl)(hp:p1=.pointer (some ⟨B,0,none⟩):=by rfl)(f:ρ x=p1:=by kernel_rfl):∃u,(execOp ρ { dst:=dst,op:=.load 25 x,type:=ty,pos:=ps,after:=af,guard:=gd }).run I V=.ok (.value u) V/\Has V u (.int q.num):=by
 rw[hp]at f;obtain⟨s,a,l,c,t,b,k,d,n,_,r,_⟩:=e.rat h;obtain⟨g,j,m,o⟩:=n.kb;exact⟨_,by go_simp,r⟩
def mv{y:G}(h:ρ x=y:=by kernel_rfl):∃u,(execOp ρ { dst:=dst,op:=.move x,type:=ty,pos:=ps,after:=af,guard:=gd }).run I V=.ok (.value u) V/\Has V u (.eq y):=⟨_,rfl,h⟩
def av{y:G}(h:ρ x=y:=by kernel_rfl):∃u,(execOp ρ { dst:=dst,op:=.assign x,type:=ty,pos:=ps,after:=af,guard:=gd }).run I V=.ok (.value u) V/\Has V u (.eq y):=⟨_,rfl,h⟩
def Wr(ρ:Operand->G)(o:Oper)(V:E)(ds:List Dat)(d:Dat)(T:E->G->Prop):Prop:=∃r u W,(execOp ρ o).run I V=.ok r W/\(r=.value u\/(r=.skip/\u=undef))/\Has W u d/\(∀d v,(d∈ds\/d=.any)->Has V v d->Has W v d)/\T W u
def Ds(i:Nat)(g:Bu w V bs)(f:Has V u1 (.int z))(h:bs[i]?=some (some (B,.int z0)):=by rfl)(hp:p1=.pointer (some ⟨B,0,none⟩):=by rfl)(p:ρ x=p1:=by kernel_rfl)(q:ρ y=u1:=by kernel_rfl)(o:ds.all Dat.noPoly=true:=by rfl)(j:∀ {s a l c x y},Jd V B 25 (F s) (C a l c)->Bu w ((V.setCell ⟨B,0,none⟩ x).setCell ⟨B,1,none⟩ y) (bs.set i (some (B,.int z)))->T ((V.setCell ⟨B,0,none⟩ x).setCell ⟨B,1,none⟩ y) undef:=by exact λ_ m=>m):Wr ρ { dst:=none,op:=.store 25 x y,type:=ty,pos:=ps,after:=af,guard:=gd } V ds (.eq undef) T:=by
 rw[hp]at p;obtain⟨s,a,l,c,n,r⟩:=g.int h;obtain⟨u,A⟩:=n.ka;obtain⟨f0,f1⟩:=n.fa;obtain⟨K,t,D,c1,e⟩:=Jg.form2 (show Jg V _ _ from f);rw[e]at f;rw[e]at q;exact⟨.skip,undef,_,by go_simp,AL ⟨rfl,rfl⟩,rfl,λd v b k=>k.set2 n rfl rfl _ _ (by rcases b with b|rfl;exact AX.1 o d b;rfl),j n (g.putInt h f)⟩
def Dt(i:Nat)(a:Bu w V bs)(h:bs[i]?=some none:=by rfl)(b:∀ {o},Bu w (V.alloc o) (bs.set i (some (V.heap.size,.int 0)))->T (V.alloc o) (.pointer (some ⟨V.heap.size,0,none⟩)):=by exact λm=>m):Wr ρ { dst:=dst,op:=.alloc 25,type:=ty,pos:=ps,after:=af,guard:=gd } V ds .ptr T:=
 ⟨_,.pointer (some ⟨V.heap.size,0,none⟩),_,by go_simp;exact rfl,Ar rfl,rfl,λ_ _ _ k=>k.alloc _,b (a.fill h (.int 0) (X1 V))⟩
def nb(b:List Bool)(v:List G)(a l:Nat)(d0 d1:Dat):Option (Nat × Dat):=if b.getD a false then some (blk (v.getD a undef),if b.getD l false then d1 else d0)else none
end
def ES{p q:Prop}(k:p)(h:p->q:=by intro x;simp only[nb,List.map_cons,List.map_nil,List.getD_cons_zero,List.getD_cons_succ,if_true,blk]at x;exact x):q:=h k
end M3
def Md(a:N8)(c i:Nat)(b:N8)(lb j m n:Nat)(w:E)(z:c+lb<=1099511627776)
(l:Row .u64 w (C a c i) (Jb O m))(o:Row .u64 w (C b lb j) (Jb O n)):
 M I 86 #[C a c i,C b lb j] w λe t=>∃u,e=.returned u/\UN t u (m*n)/\Bl w t:=by
 have r:=Xl (c+lb) Y w;rw[show((c+lb:Nat):Int)=(c:Int)+(lb:Int)from by omega]at r;obtain⟨d,f⟩:∃d,d=w.alloc (H (cellsOf .u64 (OA (c+lb) 0)).toArray 94):=⟨_,rfl⟩;have g:Bl w d:=by rw[f];exact Ba w _
 have q:Bv d w.heap.size (OA (c+lb) 0):=by rw[f];exact Bv.made (BD w _)
 rw[<-f]at r;have v:=Z (Lv w.heap.size (c+lb) (c+lb) (OA (c+lb) 0) a c i b lb j m n d q (λx A=>by rw[Cy A];unfold O;omega) B7 (Aa _) Y z (Row.below l g) (Row.below o g)
  (λp e k=>by have:=Do l e k;omega) λp e k=>by have:=Do o e k;omega)
 clear f q l o;go_enter func86,ntmps86
 go_wp2_with(go_at_call 105;refine v.o.mono ?_;rintro e K ⟨u,rfl,⟨s,y⟩,_,_⟩;obtain⟨B,D,rfl⟩:=UN.form s)
 go_ret;exact⟨_,rfl,s,below_grown g y (Aa _)⟩
def Ym(T U:G)(x y:Int)(w:E)(ha:Jg w T x)(hb:Jg w U y)(hl:(Jb O x.natAbs).length+(Jb O y.natAbs).length<=1099511627776):
 M I 51 #[T,U] w λe g=>∃u,e=.returned u/\Jg g u (x*y)/\Bl w g:=by
 obtain⟨a,D,m,o,j⟩:=ha;cases o;obtain⟨b,lb,n,o,B⟩:=hb;cases o;have Qc:=j.len;have Qd:=B.len;obtain⟨s,hs⟩:=ex (decide (x<0));obtain⟨t,z⟩:=ex (decide (y<0));have K:(if(!(s==t))=true then -((x.natAbs*y.natAbs:Nat):Int)else((x.natAbs*y.natAbs:Nat):Int))=x*y:=by
  rw[<-hs,<-z,<-Int.natAbs_mul];rcases CG x 0 with d|d|d<;>rcases CG y 0 with f|f|f
  . have:=Int.mul_pos_of_neg_of_neg d f;simp[d,f];omega
  . subst f;simp
  . have:=Int.mul_neg_of_neg_of_pos d f;have i:¬y<0:=Y
    simp[d,i];omega
  . subst d;simp
  . subst d;simp
  . subst d;simp
  . have:=Int.mul_neg_of_pos_of_neg d f;have i:¬x<0:=Y
    simp[f,i];omega
  . subst f;simp
  . have:=Int.mul_pos d f;have i:¬x<0:=Y
    have h2:¬y<0:=Y
    simp[i,h2];omega
 rw[hs,z];obtain⟨W0,r⟩:=ex (((w.alloc (H #[F s,C a D m] 25)).alloc (H #[F t,C b lb n] 25)).alloc (H #[F false,C none 0 0] 25));obtain⟨q,b0,k,l⟩:=Ec r;have X:=Z λ(V:E) (h:Bl W0 V)=>Md a D m b lb n _ _ V Y (UN.below (UN.below j q) h) (UN.below (UN.below B q) h);have W:=Z (λ(V:E) (u:G) (j:UN V u (x.natAbs*y.natAbs))=>show M I 58 #[F (!(s==t)),u] V λe g=>∃u,e=.returned u/\Jg g u (x*y)/\Bl V g by
  have i:=Xi (!(s==t)) u _ V j;rw[K]at i;exact i)
 clear j B K hs z Qc Qd hl;go_enter func51,ntmps51
 go_wp2_with fail
 try rw[r]
 clear r;have c:Bl W0 W0.drew:=(BC _ W0).drew;obtain⟨P,Q⟩:=b0.cp;obtain⟨R,S⟩:=k.cp;have ae:¬(w.heap.size=w.heap.size+1+1):=Y
 go_region_held3 (λg=>g.cell? ⟨w.heap.size,0,none⟩=some (F s)/\g.cell? ⟨w.heap.size,1,none⟩=some (C a D m)/\g.cell? ⟨w.heap.size+1,0,none⟩=some (F t)/\g.cell? ⟨w.heap.size+1,1,none⟩=some (C b lb n)) (refine⟨?_,?_,?_,?_⟩<;>(first|(go_keep;done)|((repeat rw[Jn Y]);simp[*];done)))
  (first
   |(go_at_call 86;refine(X.o _ c).mono ?_;rintro e w1 ⟨u1,rfl,N,aa⟩;obtain⟨na,nc,rfl⟩:=UN.form N;have c:=Bt c aa;obtain⟨P,Q⟩:=(b0.below c).cp;obtain⟨R,S⟩:=(k.below c).cp)
   |(go_at_call 58;refine(W.o _ _ N).mono ?_;rintro e w2 ⟨u2,rfl,A,ad⟩;obtain⟨sa,sl,sc,rfl⟩:=A.form;obtain⟨s2,v⟩:=ex (decide (x*y<0));rw[v]at A;rw[v];clear v;have c:=Bt c ad;obtain⟨P,Q⟩:=(b0.below c).cp;obtain⟨R,S⟩:=(k.below c).cp;obtain⟨r0,r1⟩:=(l.below c).cp;obtain⟨f0,f1⟩:=(l.below c).fp))
 all_goals go_wp2_with fail
 have Qe:=Bt q c;have Qa:=A.box (l.below c) rfl rfl (x0:=F s2) (x1:=C sa sl sc);exact BB (by simp[results,results51,go_sem,r0,r1]) rfl ⟨_,rfl,Qa,(Qe.setCell (p:=⟨_,0,none⟩) so _).setCell (p:=⟨_,1,none⟩) so _⟩

