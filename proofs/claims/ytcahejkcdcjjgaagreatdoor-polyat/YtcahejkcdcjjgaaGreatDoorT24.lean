import Derived.Test.YtcahejkcdcjjgaaGreatDoorT20
import Derived.Test.YtcahejkcdcjjgaaGreatDoorT15
import Derived.Test.YtcahejkcdcjjgaaGreatDoorT16
import Derived.Test.YtcahejkcdcjjgaaGreatDoorT06
import Derived.Lib.SliceRun
import Derived.Deep.OwnRows
import Derived.Test.YtcahejkcdcjjgaaGreatDoorT23
open Go.Value renaming slice->C,bool->F,agg->G
open Go renaming World->E,Value->D
open Go.Obj renaming cells->H
open Go.Proofs.Tryz renaming prog->I
set_option maxRecDepth 100000
set_option maxHeartbeats 16000000
namespace Go.Proofs.YtcahejkcdcjjgaaGreatDoor
open Go.RowKit Go.Shelf
section
variable{z:Int}{v:D}{W:E}
theorem Tw(a:Option Addr)(cap:Nat)(w:E):
 Calls I 60 #[G #[F false,C a 0 cap]] w λe b=>e=.returned (.string ⟨#[48]⟩)/\Bl w b:=by
 have b0:=Jj.new w 36 (F false) (C a 0 cap);have c:=b0.c1;go_enter Tryz.func60,Tryz.ntmps60
 go_wp2;go_ret;exact⟨rfl,Ba w _⟩
theorem Tx(s:Bool)(a:Option Addr)(l cap:Nat)(T:ByteArray)(w:E)(hl:0<l)(i:T.size<=100000000000000)
(d:∀V,Bl w V->Calls I 101 #[C a l cap] V λe b=>e=.returned (.string T)/\Bl V b):
 Calls I 60 #[G #[F s,C a l cap]] w λe b=>e=.returned (.string (if s then(⟨#[45]⟩:ByteArray)++T else T))/\Bl w b:=by
 have b0:=Jj.new w 36 (F s) (C a l cap);have c:Bl w (w.alloc (H #[F s,C a l cap] 36)):=Ba w _;obtain⟨j,k⟩:=b0.cp;have n:¬l=0:=om
 have f:=Ja d;clear d;cases s;all_goals
  go_enter Tryz.func60,Tryz.ntmps60
  go_wp2_with(go_at_call 101;refine(f.o _ c).mono ?_;rintro e m ⟨rfl,g⟩)
  go_ret;exact⟨DO,Bt c g⟩
theorem Gh(n:Nat):(Y5 n).length<=20*(Jc DN n).length+1:=by
 unfold Y5;split
 . simp
 . rw[NF];have b:n<DN^(Jc DN n).length:=by
    have:=Yd (Jo Je n);rwa[Jm Je]at this
   have a:DN^(Jc DN n).length<=10^(20*(Jc DN n).length):=by
    rw[Nat.pow_mul];exact C9 uo _
   have:=JI (B:=10) om (AC b a);omega
theorem MC(v:D)(z:Int)(w:E)(h:Jk w v z)(m:Lib.TabIs I w "internal/strconv.uint64pow10" .u64 Lib.pow10Tab):
 Calls I 60 #[v] w λe f=>e=.returned (.string ⟨(YI z).toArray⟩)/\Bl w f:=by
 obtain⟨a,l,cap,rfl,c⟩:=h;have hl:=c.len;by_cases d:z.natAbs=0
 . have b:z=0:=om
   subst b;have i:l=0:=by rw[hl];simp[Jy]
   subst i;exact Tw a cap w
 . have j:0<l:=by rw[hl];exact LZ.2 d
   refine(Tx _ a l cap ⟨(Y5 z.natAbs).toArray⟩ w j (by
    have n:=Gh z.natAbs;have o:=(Js c).2.2.2.1;show(Y5 z.natAbs).toArray.size<=_;rw[An];omega) (λV g=>TI a l cap z.natAbs V (Row.below c g) d (J6 m g))).mono ?_
   rintro e f ⟨rfl,k⟩;refine⟨?_,k⟩;congr 2;unfold YI;by_cases b:z<0
   . simp only[b,DE,if_true];exact KK _ _
   . simp only[b,B3,if_false,Ca]
attribute [local go_sem] Oper.semAt_some
theorem Jk.set{W:E}{v:D}{z:Int}(h:Jk W v z){p:Addr}{u0:D}(d:W.cell? p=some u0)(b:Jw u0=true)(u:D):Jk (W.setCell p u) v z:=by
 obtain⟨a,l,cap,e,c⟩:=h;exact⟨a,l,cap,e,Row.set c d b u⟩
theorem Jk.form(h:Jk W v z):∃a l cap,v=G #[F (decide (z<0)),C a l cap]:=by
 obtain⟨a,l,cap,e,_⟩:=h;exact⟨a,l,cap,e⟩
theorem Jk.alloc{W:E}{v:D}{z:Int}(h:Jk W v z)(o:Obj):Jk (W.alloc o) v z:=h.below (Ba W o)
theorem Jk.drew{W:E}{v:D}{z:Int}(h:Jk W v z):Jk W.drew v z:=h
theorem Jk.box{R:Nat}{t:TypeId}{u0 u1 x0 x1:D}(h:Jk W v z)(q:Jj W R t u0 u1)(b:Jw u0=true)(c:Jw u1=true):Jk ((W.setCell ⟨R,0,none⟩ x0).setCell ⟨R,1,none⟩ x1) v z:=by
 obtain⟨a,l,cap,e,d⟩:=h;exact⟨a,l,cap,e,Row.set (Row.set d q.c0 b _) (u0:=u1) (q.set0 x0).c1 c _⟩
end
section
def JE(W:E)(B:Nat)(t:TypeId)(x y z u:D):Prop:=W.heap[B]?=some (H #[x,y,z,u] t (0,0))
section
variable {W W':World} {B:Nat} {t:TypeId} {x y z u:Value}
theorem JE.lt(h:JE W B t x y z u):B<W.heap.size:=(Ac.1 h).1
theorem JE.c0(h:JE W B t x y z u):W.cell? ⟨B,0,none⟩=some x:=by simp[World.cell?,show W.heap[B]?=_ from h]
theorem JE.c1(h:JE W B t x y z u):W.cell? ⟨B,1,none⟩=some y:=by simp[World.cell?,show W.heap[B]?=_ from h]
theorem JE.cp(h:JE W B t x y z u):type_of% (And.intro h.c0 h.c1):=⟨h.c0,h.c1⟩
theorem JE.c2(h:JE W B t x y z u):W.cell? ⟨B,2,none⟩=some z:=by simp[World.cell?,show W.heap[B]?=_ from h]
theorem JE.c3(h:JE W B t x y z u):W.cell? ⟨B,3,none⟩=some u:=by simp[World.cell?,show W.heap[B]?=_ from h]
theorem JE.cq(h:JE W B t x y z u):type_of% (And.intro h.c0 (And.intro h.c1 (And.intro h.c2 h.c3))):=⟨h.c0,h.c1,h.c2,h.c3⟩
theorem JE.f0(h:JE W B t x y z u):W.frozen? ⟨B,0,none⟩=false:=by simp[World.frozen?,show W.heap[B]?=_ from h]
theorem JE.f1(h:JE W B t x y z u):W.frozen? ⟨B,1,none⟩=false:=by simp[World.frozen?,show W.heap[B]?=_ from h]
theorem JE.fp(h:JE W B t x y z u):type_of% (And.intro h.f0 h.f1):=⟨h.f0,h.f1⟩
theorem JE.f2(h:JE W B t x y z u):W.frozen? ⟨B,2,none⟩=false:=by simp[World.frozen?,show W.heap[B]?=_ from h]
theorem JE.f3(h:JE W B t x y z u):W.frozen? ⟨B,3,none⟩=false:=by simp[World.frozen?,show W.heap[B]?=_ from h]
theorem JE.fq(h:JE W B t x y z u):type_of% (And.intro h.f0 (And.intro h.f1 (And.intro h.f2 h.f3))):=⟨h.f0,h.f1,h.f2,h.f3⟩
theorem JE.new(W:E)(t:TypeId)(x y z u:D):JE (W.alloc (H #[x,y,z,u] t)) W.heap.size t x y z u:=BC W _
theorem JE.below(h:JE W B t x y z u)(a:Bl W W'):JE W' B t x y z u:=(a.block B h.lt).trans h
theorem JE.alloc(h:JE W B t x y z u)(o:Obj):JE (W.alloc o) B t x y z u:=h.below (Ba W o)
theorem JE.drew(h:JE W B t x y z u):JE W.drew B t x y z u:=h
theorem JE.set0(h:JE W B t x y z u)(v:D):JE (W.setCell ⟨B,0,none⟩ v) B t v y z u:=by
 obtain⟨b,a⟩:=Ac.1 h;show(W.heap.modify B _)[B]?=_;rw[AZ (by rw[Cz];exact b),Ce,a];rfl
theorem JE.set1(h:JE W B t x y z u)(v:D):JE (W.setCell ⟨B,1,none⟩ v) B t x v z u:=by
 obtain⟨b,a⟩:=Ac.1 h;show(W.heap.modify B _)[B]?=_;rw[AZ (by rw[Cz];exact b),Ce,a];rfl
theorem JE.set2(h:JE W B t x y z u)(v:D):JE (W.setCell ⟨B,2,none⟩ v) B t x y v u:=by
 obtain⟨b,a⟩:=Ac.1 h;show(W.heap.modify B _)[B]?=_;rw[AZ (by rw[Cz];exact b),Ce,a];rfl
theorem JE.set3(h:JE W B t x y z u)(v:D):JE (W.setCell ⟨B,3,none⟩ v) B t x y z v:=by
 obtain⟨b,a⟩:=Ac.1 h;show(W.heap.modify B _)[B]?=_;rw[AZ (by rw[Cz];exact b),Ce,a];rfl
theorem JE.far(h:JE W B t x y z u){p:Addr}(a:B≠p.block)(v:D):JE (W.setCell p v) B t x y z u:=(BG W p v B a).trans h
end
def put4(W:E)(B:Nat)(x y z u:D):E:=(((W.setCell ⟨B,0,none⟩ x).setCell ⟨B,1,none⟩ y).setCell ⟨B,2,none⟩ z).setCell ⟨B,3,none⟩ u
variable{B:Nat}{t:TypeId}{u x y z:D}{W:E}
theorem JE.put(h:JE W B t x y z u)(c b a d:D):JE (put4 W B c b a d) B t c b a d:=(((h.set0 c).set1 b).set2 a).set3 d
theorem JE.putFar{C:Nat}(h:JE W B t x y z u)(a:B≠C)(e b c d:D):JE (put4 W C e b c d) B t x y z u:=(((h.far a e).far a b).far a c).far a d
theorem Jj.putFar{C:Nat}(h:Jj W B t x y)(a:B≠C)(e b c d:D):Jj (put4 W C e b c d) B t x y:=(((h.far a e).far a b).far a c).far a d
theorem Jp{n:Nat}{w:E}(h:Below n w W)(a:n<=B)(x y z u:D):Below n w (put4 W B x y z u):=(((h.setCell (p:=⟨B,0,none⟩) a _).setCell (p:=⟨B,1,none⟩) a _).setCell (p:=⟨B,2,none⟩) a _).setCell (p:=⟨B,3,none⟩) a _
theorem Row.put4{k:IntKind}{v:D}{ds:List Nat}(h:Row k W v ds)(q:JE W B t x y z u)(f:Jw x=true)(e:Jw y=true)(g:Jw z=true)(d:Jw u=true)(a b c i:D):Row k (put4 W B a b c i) v ds:=
 Row.set (Row.set (Row.set (Row.set h q.c0 f _) (q.set0 a).c1 e _) ((q.set0 a).set1 b).c2 g _) (((q.set0 a).set1 b).set2 c).c3 d _
theorem Jk.put4{W:E}{v:D}{i:Int}(h:Jk W v i){B:Nat}{t:TypeId}{x y z u:D}(q:JE W B t x y z u)(j:Jw x=true)(f:Jw y=true)(m:Jw z=true)(b:Jw u=true)(g c d k:D):Jk (put4 W B g c d k) v i:=by
 obtain⟨a,l,cap,e,n⟩:=h;exact⟨a,l,cap,e,Row.put4 n q j f m b _ _ _ _⟩
theorem Jr.put4{W:E}{v:D}{i:Int}(h:Jr W v i){B:Nat}{t:TypeId}{x y z u:D}(q:JE W B t x y z u)(j:Jw x=true)(f:Jw y=true)(m:Jw z=true)(b:Jw u=true)(g c d k:D):Jr (put4 W B g c d k) v i:=by
 obtain⟨a,l,cap,e,n⟩:=h;exact⟨a,l,cap,e,Row.put4 n q j f m b _ _ _ _⟩
def Ji(W:E)(v:D)(q:Rat):Prop:=∃s a l c t b k d,v=G #[F s,C a l c,F t,C b k d]/\Jk W (G #[F s,C a l c]) q.num/\Jk W (G #[F t,C b k d]) (denZ q)
theorem Ji.below{W W':E}{v:D}{q:Rat}(h:Ji W v q)(f:Bl W W'):Ji W' v q:=by
 obtain⟨s,a,l,c,t,b,k,d,e,i,g⟩:=h;exact⟨s,a,l,c,t,b,k,d,e,i.below f,g.below f⟩
theorem Ji.put4{W:E}{v:D}{p:Rat}(h:Ji W v p){B:Nat}{t:TypeId}{x y z u:D}(q:JE W B t x y z u)(i:Jw x=true)(g:Jw y=true)(j:Jw z=true)(f:Jw u=true)(o m n w:D):Ji (put4 W B o m n w) v p:=by
 obtain⟨s,a,l,c,t,b,k,d,e,r,A⟩:=h;exact⟨s,a,l,c,t,b,k,d,e,r.put4 q i g j f _ _ _ _,A.put4 q i g j f _ _ _ _⟩
def Jl(W:E)(v:D)(q:Rat):Prop:=∃a l c s b k d t,v=G #[C a l c,F s,C b k d,F t]/\Jr W (G #[C a l c,F s]) q.num/\Jr W (G #[C b k d,F t]) (q.den:Int)
theorem Jl.below{W W':E}{v:D}{q:Rat}(h:Jl W v q)(f:Bl W W'):Jl W' v q:=by
 obtain⟨s,a,l,c,t,b,k,d,e,i,g⟩:=h;exact⟨s,a,l,c,t,b,k,d,e,i.below f,g.below f⟩
theorem Jl.put4{W:E}{v:D}{p:Rat}(h:Jl W v p){B:Nat}{t:TypeId}{x y z u:D}(q:JE W B t x y z u)(i:Jw x=true)(g:Jw y=true)(j:Jw z=true)(f:Jw u=true)(o m n w:D):Jl (put4 W B o m n w) v p:=by
 obtain⟨s,a,l,c,t,b,k,d,e,r,A⟩:=h;exact⟨s,a,l,c,t,b,k,d,e,r.put4 q i g j f _ _ _ _,A.put4 q i g j f _ _ _ _⟩
end
section
inductive Dat
 |int(z:Int)
 |rat(q:Rat)
 |big(z:Int)
 |ref(q:Rat)
 |zref
 |pair(x y:Int)
def Dat.ty:Dat->TypeId
 |.int _=>36
 |.rat _=>38
 |.big _=>47
 |.ref _=>49
 |.zref=>49
 |.pair _ _=>38
def XA(W:E)(v:D)(x y:Int):Prop:=∃s a l c t b k d,v=G #[F s,C a l c,F t,C b k d]/\Jk W (G #[F s,C a l c]) x/\Jk W (G #[F t,C b k d]) y
variable{cs:Array D}{r:Bool}{d:Dat}{A z:Int}{bs:List (Option (Nat × Dat))}{qs:List Rat}{B b i j n o:Nat}{m:Nat × Nat}{q q0:Rat}{t:TypeId}{u u0 v x x0 y:D}{V V' W w:E}
theorem Ji.pair(h:Ji W v q):XA W v q.num (denZ q):=h
theorem XA.form{x y:Int}(h:XA W v x y):∃s a l c t b k d,v=G #[F s,C a l c,F t,C b k d]:=by
 obtain⟨s,a,l,c,t,b,k,d,e,_⟩:=h;exact⟨s,a,l,c,t,b,k,d,e⟩
theorem XA.below{W W':E}{v:D}{x y:Int}(h:XA W v x y)(f:Bl W W'):XA W' v x y:=by
 obtain⟨s,a,l,c,t,b,k,d,e,i,g⟩:=h;exact⟨s,a,l,c,t,b,k,d,e,i.below f,g.below f⟩
def Has(V:E)(v:D):Dat->Prop
 |.int z=>Jk V v z
 |.rat q=>Ji V v q
 |.big z=>Jr V v z
 |.ref q=>Jl V v q
 |.zref=>v=G #[C none 0 0,F false,C none 0 0,F false]
 |.pair x y=>XA V v x y
theorem Has.below{V V':E}{v:D}{d:Dat}(h:Has V v d)(a:Bl V V'):Has V' v d:=by
 cases d with
 |int z=>exact Jk.below h a
 |rat q=>exact Ji.below h a
 |big z=>exact Jr.below h a
 |ref q=>exact Jl.below h a
 |zref=>exact h
 |pair x y=>exact XA.below h a
theorem Has.alloc{V:E}{v:D}{d:Dat}(h:Has V v d)(o:Obj):Has (V.alloc o) v d:=h.below (Ba V o)
theorem Has.keep(h:Has V v d)(f:∀k v ds,Row k V v ds->Row k V' v ds):Has V' v d:=by
 cases d with
 |zref=>exact h
 |pair x y=>
  obtain⟨s,a,l,c,t,b,k,d,e,⟨j,g,c1,i,o⟩,⟨m,p,c2,n,r⟩⟩:=h;exact⟨s,a,l,c,t,b,k,d,e,⟨j,g,c1,i,f _ _ _ o⟩,⟨m,p,c2,n,f _ _ _ r⟩⟩
 |int z=>obtain⟨a,l,c,e,u⟩:=h;exact⟨a,l,c,e,f _ _ _ u⟩
 |big z=>obtain⟨a,l,c,e,u⟩:=h;exact⟨a,l,c,e,f _ _ _ u⟩
 |rat q=>
  obtain⟨s,a,l,c,t,b,k,d,e,⟨j,g,c1,i,o⟩,⟨m,p,c2,n,r⟩⟩:=h;exact⟨s,a,l,c,t,b,k,d,e,⟨j,g,c1,i,f _ _ _ o⟩,⟨m,p,c2,n,f _ _ _ r⟩⟩
 |ref q=>
  obtain⟨s,a,l,c,t,b,k,d,e,⟨j,g,c1,i,o⟩,⟨m,p,c2,n,r⟩⟩:=h;exact⟨s,a,l,c,t,b,k,d,e,⟨j,g,c1,i,f _ _ _ o⟩,⟨m,p,c2,n,f _ _ _ r⟩⟩
def Bx(V:E)(B:Nat)(t:TypeId)(cs:Array D):Prop:=V.heap[B]?=some (H cs t (0,0))
theorem Bx.lt(h:Bx V B t cs):B<V.heap.size:=(Ac.1 h).1
theorem Bx.below(h:Bx V B t cs)(a:Bl V V'):Bx V' B t cs:=(a.block B h.lt).trans h
theorem Bx.far(h:Bx V B t cs){p:Addr}(a:B≠p.block)(u:D):Bx (V.setCell p u) B t cs:=(BG V p u B a).trans h
def Mem(w V:E)(bs:List (Option (Nat × Dat))):Prop:=
 (∀(i:Nat) B d,bs[i]?=some (some (B,d))->(∃cs,Bx V B d.ty cs/\Has V (G cs) d)/\w.heap.size<=B)/\
 (∀(i j:Nat) B d a,bs[i]?=some (some (B,d))->bs[j]?=some (some (B,a))->i=j)/\Bl w V
theorem Mem.nil(w:E):Mem w w []:=⟨λi B z h=>by simp at h,λi j B z a h=>by simp at h,BB _ w⟩
theorem Mem.int{w V:E}{bs:List (Option (Nat × Dat))}(M:Mem w V bs){i B:Nat}{z:Int}(h:bs[i]?=some (some (B,.int z))):∃s a l c,Jj V B 36 (F s) (C a l c)/\Jk V (G #[F s,C a l c]) z:=by
 obtain⟨⟨cs,d,f⟩,_⟩:=M.1 i B _ h;obtain⟨a,l,c,e,b⟩:=f;cases e;exact⟨_,a,l,c,d,a,l,c,rfl,b⟩
theorem Mem.big{w V:E}{bs:List (Option (Nat × Dat))}(M:Mem w V bs){i B:Nat}{z:Int}(h:bs[i]?=some (some (B,.big z))):∃a l c s,Jj V B 47 (C a l c) (F s)/\Jr V (G #[C a l c,F s]) z:=by
 obtain⟨⟨cs,d,f⟩,_⟩:=M.1 i B _ h;obtain⟨a,l,c,e,b⟩:=f;cases e;exact⟨a,l,c,_,d,a,l,c,rfl,b⟩
theorem Mem.rat{w V:E}{bs:List (Option (Nat × Dat))}(M:Mem w V bs){i B:Nat}{q:Rat}(h:bs[i]?=some (some (B,.rat q))):
 ∃s a l c t b k d,JE V B 38 (F s) (C a l c) (F t) (C b k d)/\Ji V (G #[F s,C a l c,F t,C b k d]) q/\Jk V (G #[F s,C a l c]) q.num/\Jk V (G #[F t,C b k d]) (denZ q):=by
 obtain⟨⟨cs,j,f⟩,_⟩:=M.1 i B _ h;have m:=f;obtain⟨s,a,l,c,t,b,k,d,e,n,g⟩:=f;cases e;exact⟨s,a,l,c,t,b,k,d,j,m,n,g⟩
theorem Mem.pair{w V:E}{bs:List (Option (Nat × Dat))}(M:Mem w V bs){i B:Nat}{x y:Int}(h:bs[i]?=some (some (B,.pair x y))):
 ∃s a l c t b k d,JE V B 38 (F s) (C a l c) (F t) (C b k d)/\XA V (G #[F s,C a l c,F t,C b k d]) x y/\Jk V (G #[F s,C a l c]) x/\Jk V (G #[F t,C b k d]) y:=by
 obtain⟨⟨cs,j,f⟩,_⟩:=M.1 i B _ h;have m:=f;obtain⟨s,a,l,c,t,b,k,d,e,n,g⟩:=f;cases e;exact⟨s,a,l,c,t,b,k,d,j,m,n,g⟩
theorem Mem.ref{w V:E}{bs:List (Option (Nat × Dat))}(M:Mem w V bs){i B:Nat}{q:Rat}(h:bs[i]?=some (some (B,.ref q))):
 ∃a l c s b k d t,JE V B 49 (C a l c) (F s) (C b k d) (F t)/\Jl V (G #[C a l c,F s,C b k d,F t]) q/\Jr V (G #[C a l c,F s]) q.num/\Jr V (G #[C b k d,F t]) (q.den:Int):=by
 obtain⟨⟨cs,j,f⟩,_⟩:=M.1 i B _ h;have m:=f;obtain⟨s,a,l,c,t,b,k,d,e,n,g⟩:=f;cases e;exact⟨s,a,l,c,t,b,k,d,j,m,n,g⟩
theorem Mem.below{w V V':E}{bs:List (Option (Nat × Dat))}(M:Mem w V bs)(a:Bl V V'):Mem w V' bs:=
 ⟨λi B z h=>by
  obtain⟨⟨cs,c,d⟩,b⟩:=M.1 i B z h;exact⟨⟨cs,c.below a,d.below a⟩,b⟩,M.2.1,Bt M.2.2 a⟩
theorem Mem.drew{w V:E}{bs:List (Option (Nat × Dat))}(M:Mem w V bs):Mem w V.drew bs:=M.below ((BB _ V).drew)
theorem Mem.sub{cs:List (Option (Nat × Dat))}(M:Mem w V bs)(f:Nat->Nat)(c:∀(i j:Nat),f i=f j->i=j)(h:∀(i:Nat) x,cs[i]?=some (some x)->bs[f i]?=some (some x)):Mem w V cs:=
 ⟨λi B d a=>M.1 (f i) B d (h i _ a),λi j B d b a e=>c i j (M.2.1 (f i) (f j) B d b (h i _ a) (h j _ e)),M.2.2⟩
theorem Mem.take{w V:E}{bs:List (Option (Nat × Dat))}(M:Mem w V bs)(n:Nat):Mem w V (bs.take n):=by
 refine M.sub id (λ_ _ h=>h) (λi x h=>?_);rw[Fd]at h;split at h
 . exact h
 . cases h
theorem Mem.none{w V:E}{bs:List (Option (Nat × Dat))}(M:Mem w V bs):Mem w V (bs++[Option.none]):=by
 refine M.sub id (λ_ _ h=>h) (λi x h=>?_);by_cases b:i<bs.length
 . rwa[AW b]at h
 . rw[AJ om]at h;obtain⟨k,a⟩:=ex (i-bs.length);rw[a]at h;cases k<;>simp at h
theorem Mem.fill(M:Mem w V bs)(h:bs[i]?=some Option.none)(d:Dat)(p:Has V (G cs) d):
 Mem w (V.alloc (H cs d.ty)) (bs.set i (some (V.heap.size,d))):=by
 have m:Bl V (V.alloc (H cs d.ty)):=Ba V _;have g:i<bs.length:=(Ad.1 h).1;have n:=M.below m;have l:∀(j:Nat) B d,bs[j]?=some (some (B,d))->B<V.heap.size:=λj B d h=>by
  obtain⟨⟨_,a,_⟩,_⟩:=M.1 j B d h;exact a.lt
 refine⟨λj B q e=>?_,λj k B d1 o a c=>?_,n.2.2⟩
 . by_cases b:i=j
   . subst b;rw[A4 g]at e;simp at e;obtain⟨rfl,rfl⟩:=e;exact⟨⟨cs,BC V _,p.below m⟩,M.2.2.size⟩
   . rw[AN b]at e;exact n.1 j B q e
 . by_cases b:i=j<;>by_cases f:i=k
   . omega
   . subst b;rw[A4 g]at a;rw[AN f]at c;simp at a;have:=l k B o c;omega
   . subst f;rw[A4 g]at c;rw[AN b]at a;simp at c;have:=l j B d1 a;omega
   . rw[AN b]at a;rw[AN f]at c;exact M.2.1 j k B d1 o a c
theorem OW{α:Type}(l:List α)(x y:α):(l++[x]).set l.length y=l++[y]:=by
 induction l with
 |nil=>rfl
 |cons a l b=>simp
theorem Mem.push(M:Mem w V bs)(d:Dat)(a:Has V (G cs) d):Mem w (V.alloc (H cs d.ty)) (bs++[some (V.heap.size,d)]):=by
 have h:=M.none.fill (i:=bs.length) DO d a;rwa[OW]at h
theorem Mem.repl(M:Mem w V bs)(h:bs[i]?=some (some (B,d)))(f:Dat)(r:Bx V' B f.ty cs)(y:Has V (G cs) f)
(o:∀k v ds,Row k V v ds->Row k V' v ds)(J:∀b t cs,b≠B->Bx V b t cs->Bx V' b t cs)(K:Bl w V'):Mem w V' (bs.set i (some (B,f))):=by
 have n:i<bs.length:=(Ad.1 h).1;obtain⟨_,A⟩:=M.1 i B d h;refine⟨λj b d1 a=>?_,λj k b d1 s u L=>?_,K⟩
 . by_cases c:i=j
   . subst c;rw[A4 n]at a;simp at a;obtain⟨rfl,rfl⟩:=a;exact⟨⟨cs,r,y.keep o⟩,A⟩
   . rw[AN c]at a;obtain⟨⟨z,l,g⟩,N⟩:=M.1 j b d1 a;have q:b≠B:=λe=>c (by rw[e]at a;exact M.2.1 i j B d d1 h a);exact⟨⟨z,J _ _ _ q l,g.keep o⟩,N⟩
 . have p:∀(j:Nat) d1,(bs.set i (some (B,f)))[j]?=some (some (b,d1))->∃m,bs[j]?=some (some (b,m)):=λj d1 a=>by
    by_cases c:i=j
    . subst c;rw[A4 n]at a;simp at a;exact⟨d,by rw[h,a.1]⟩
    . rw[AN c]at a;exact⟨d1,a⟩
   obtain⟨m,l⟩:=p j d1 u;obtain⟨x,g⟩:=p k s L;exact M.2.1 j k b m x l g
theorem keep2(q:Jj V B t x y)(b:Jw x=true)(d:Jw y=true)(a c:D):∀k v ds,Row k V v ds->Row k ((V.setCell ⟨B,0,Option.none⟩ a).setCell ⟨B,1,Option.none⟩ c) v ds:=
 λ_ _ _ h=>Row.set (Row.set h q.c0 b _) (q.set0 a).c1 d _
theorem Mem.putInt(M:Mem w V bs)(h:bs[i]?=some (some (B,.int A)))(f:Jk V (G #[x,y]) z):
 Mem w ((V.setCell ⟨B,0,Option.none⟩ x).setCell ⟨B,1,Option.none⟩ y) (bs.set i (some (B,.int z))):=by
 obtain⟨s,a,l,c,b,_⟩:=M.int h;obtain⟨_,d⟩:=M.1 i B _ h;exact M.repl h (.int z) (cs:=#[x,y]) ((b.set0 x).set1 y) f (keep2 b rfl rfl x y) (λj t cs e g=>(g.far (p:=⟨B,0,Option.none⟩) e _).far (p:=⟨B,1,Option.none⟩) e _) ((M.2.2.setCell (p:=⟨B,0,Option.none⟩) d _).setCell (p:=⟨B,1,Option.none⟩) d _)
theorem Mem.putBig(M:Mem w V bs)(h:bs[i]?=some (some (B,.big A)))(f:Jr V (G #[x,y]) z):
 Mem w ((V.setCell ⟨B,0,Option.none⟩ x).setCell ⟨B,1,Option.none⟩ y) (bs.set i (some (B,.big z))):=by
 obtain⟨a,l,c,s,b,_⟩:=M.big h;obtain⟨_,d⟩:=M.1 i B _ h;exact M.repl h (.big z) (cs:=#[x,y]) ((b.set0 x).set1 y) f (keep2 b rfl rfl x y) (λj t cs e g=>(g.far (p:=⟨B,0,Option.none⟩) e _).far (p:=⟨B,1,Option.none⟩) e _) ((M.2.2.setCell (p:=⟨B,0,Option.none⟩) d _).setCell (p:=⟨B,1,Option.none⟩) d _)
theorem far4(x y z u:D):∀b t cs,b≠B->Bx V b t cs->Bx (put4 V B x y z u) b t cs:=λ_ _ _ a g=>(((g.far (p:=⟨B,0,Option.none⟩) a _).far (p:=⟨B,1,Option.none⟩) a _).far (p:=⟨B,2,Option.none⟩) a _).far (p:=⟨B,3,Option.none⟩) a _
theorem Mem.putRat(M:Mem w V bs)(h:bs[i]?=some (some (B,.rat q0))){z:D}(b:Ji V (G #[x,y,z,u]) q):
 Mem w (put4 V B x y z u) (bs.set i (some (B,.rat q))):=by
 obtain⟨_,_,_,_,_,_,_,_,a,_⟩:=M.rat h;obtain⟨_,c⟩:=M.1 i B _ h;exact M.repl h (.rat q) (cs:=#[x,y,z,u]) (a.put x y z u) b (λ_ _ _ g=>Row.put4 g a rfl rfl rfl rfl _ _ _ _) (far4 x y z u) (Jp M.2.2 c _ _ _ _)
theorem Mem.putRef(M:Mem w V bs)(h:bs[i]?=some (some (B,.ref q0))){z:D}(b:Jl V (G #[x,y,z,u]) q):
 Mem w (put4 V B x y z u) (bs.set i (some (B,.ref q))):=by
 obtain⟨_,_,_,_,_,_,_,_,a,_⟩:=M.ref h;obtain⟨_,c⟩:=M.1 i B _ h;exact M.repl h (.ref q) (cs:=#[x,y,z,u]) (a.put x y z u) b (λ_ _ _ g=>Row.put4 g a rfl rfl rfl rfl _ _ _ _) (far4 x y z u) (Jp M.2.2 c _ _ _ _)
theorem Mem.zref{w V:E}{bs:List (Option (Nat × Dat))}(M:Mem w V bs){i B:Nat}(h:bs[i]?=some (some (B,.zref))):JE V B 49 (C Option.none 0 0) (F false) (C Option.none 0 0) (F false):=by
 obtain⟨⟨cs,b,a⟩,_⟩:=M.1 i B _ h;cases(show Value.agg cs=_ from a);exact b
theorem Mem.putZref(M:Mem w V bs)(h:bs[i]?=some (some (B,.zref))){z:D}(b:Jl V (G #[x,y,z,u]) q):
 Mem w (put4 V B x y z u) (bs.set i (some (B,.ref q))):=by
 have a:=M.zref h;obtain⟨_,c⟩:=M.1 i B _ h;exact M.repl h (.ref q) (cs:=#[x,y,z,u]) (a.put x y z u) b (λ_ _ _ g=>Row.put4 g a rfl rfl rfl rfl _ _ _ _) (far4 x y z u) (Jp M.2.2 c _ _ _ _)
theorem Has.set2(h:Has V v d)(q:Jj V B t x y)(c:Jw x=true)(e:Jw y=true)(b a:D):Has ((V.setCell ⟨B,0,Option.none⟩ b).setCell ⟨B,1,Option.none⟩ a) v d:=h.keep (keep2 q c e b a)
theorem Has.put4{V:E}{v:D}{d:Dat}(h:Has V v d){B:Nat}{t:TypeId}{x y z u:D}(q:JE V B t x y z u)(i:Jw x=true)(e:Jw y=true)(j:Jw z=true)(a:Jw u=true)(f b c k:D):Has (Go.Proofs.YtcahejkcdcjjgaaGreatDoor.put4 V B f b c k) v d:=h.keep (λ_ _ _ g=>Row.put4 g q i e j a _ _ _ _)
theorem Jk.form2(h:Jk W v z):∃s a l c,v=G #[F s,C a l c]:=by
 obtain⟨a,l,c,e,_⟩:=h;exact⟨_,a,l,c,e⟩
theorem Jr.form2(h:Jr W v z):∃a l c s,v=G #[C a l c,F s]:=by
 obtain⟨a,l,c,e,_⟩:=h;exact⟨a,l,c,_,e⟩
theorem Ji.form(h:Ji W v q):∃s a l c t b k d,v=G #[F s,C a l c,F t,C b k d]:=by
 obtain⟨s,a,l,c,t,b,k,d,e,_⟩:=h;exact⟨s,a,l,c,t,b,k,d,e⟩
theorem Jl.form(h:Jl W v q):∃a l c s b k d t,v=G #[C a l c,F s,C b k d,F t]:=by
 obtain⟨s,a,l,c,t,b,k,d,e,_⟩:=h;exact⟨s,a,l,c,t,b,k,d,e⟩
theorem Mem.ne(M:Mem w V bs)(i j:Nat){b:Nat}{a:Dat}(h:bs[i]?=some (some (B,d)))(f:bs[j]?=some (some (b,a)))(c:i≠j):B≠b:=λe=>by
 subst e;exact c (M.2.1 i j B d a h f)
theorem Mem.ge(M:Mem w V bs)(i:Nat)(h:bs[i]?=some (some (B,d))):w.heap.size<=B:=(M.1 i B d h).2
theorem EK(W:E):Jk W (G #[F false,C Option.none 0 0]) 0:=
 ⟨Option.none,0,0,DO,by unfold UN;rw[Int.natAbs_zero,Jy];exact Row.nil _ _⟩
theorem OX(W:E):Jr W (G #[C Option.none 0 0,F false]) 0:=
 ⟨Option.none,0,0,DO,by unfold RN;rw[Int.natAbs_zero,Jy];exact Row.nil _ _⟩
theorem EO(W:E):Ji W (G #[F false,C Option.none 0 0,F false,C Option.none 0 0]) 0:=⟨_,_,_,_,_,_,_,_,rfl,EK W,EK W⟩
def Tup2(V:E)(t:D)(d1 a:Dat):Prop:=∃u1 u2,t=.tuple #[u1,u2,F true]/\Has V u1 d1/\Has V u2 a
theorem Tup2.below{V V':E}{t:D}{d1 a:Dat}(h:Tup2 V t d1 a)(b:Bl V V'):Tup2 V' t d1 a:=by
 obtain⟨u1,u2,e,d,c⟩:=h;exact⟨u1,u2,e,d.below b,c.below b⟩
theorem Tup2.alloc{V:E}{t:D}{d1 a:Dat}(h:Tup2 V t d1 a)(o:Obj):Tup2 (V.alloc o) t d1 a:=by
 obtain⟨u1,u2,e,c,b⟩:=h;exact⟨u1,u2,e,c.alloc o,b.alloc o⟩
theorem Tup2.set2{V:E}{v:D}{d1 d:Dat}(h:Tup2 V v d1 d){B:Nat}{t:TypeId}{x y:D}(q:Jj V B t x y)(c:Jw x=true)(f:Jw y=true)(b a:D):Tup2 ((V.setCell ⟨B,0,Option.none⟩ b).setCell ⟨B,1,Option.none⟩ a) v d1 d:=by
 obtain⟨u1,u2,e,g,i⟩:=h;exact⟨u1,u2,e,g.set2 q c f b a,i.set2 q c f b a⟩
def Dz(r:Bool)(W:E)(v:D)(q:Rat):Prop:=match r with|true=>Ji W v q|false=>Jl W v q
def Dy(r:Bool):TypeId:=match r with|true=>38|false=>49
theorem Dz.below{r:Bool}{W W':E}{v:D}{q:Rat}(h:Dz r W v q)(a:Bl W W'):Dz r W' v q:=by
 cases r with
 |true=>exact Ji.below h a
 |false=>exact Jl.below h a
theorem Dz.keep{r:Bool}{W W':E}{v:D}{q:Rat}(h:Dz r W v q)(a:∀k v ds,Row k W v ds->Row k W' v ds):Dz r W' v q:=by
 cases r with
 |true=>exact Has.keep (d:=.rat q) h a
 |false=>exact Has.keep (d:=.ref q) h a
theorem Dz.form(h:Dz r W v q):∃x y z u,v=G #[x,y,z,u]/\Jw x=true/\Jw y=true/\Jw z=true/\Jw u=true:=by
 cases r with
 |true=>
  obtain⟨s,a,l,c,t,b,k,d,e,_⟩:=(show Ji W v q from h);exact⟨_,_,_,_,e,rfl,rfl,rfl,rfl⟩
 |false=>
  obtain⟨s,a,l,c,t,b,k,d,e,_⟩:=(show Jl W v q from h);exact⟨_,_,_,_,e,rfl,rfl,rfl,rfl⟩
theorem Dz.no{z:D}(h:Dz r W (G #[x,y,z,u]) q):Jw x=true/\Jw y=true/\Jw z=true/\Jw u=true:=by
 obtain⟨i,f,g,j,e,c,d,a,b⟩:=h.form;cases e;exact⟨c,d,a,b⟩
theorem Dz.one{z:D}(h:Dz r W (G #[x,y,z,u]) q):∀v∈[x,y,z,u],v.oneCell'=true:=by
 cases r with
 |true=>
  obtain⟨s,a,l,c,t,b,k,d,e,_⟩:=(show Ji W _ q from h);cases e;intro v f;simp at f;rcases f with rfl|rfl|rfl|rfl<;>rfl
 |false=>
  obtain⟨s,a,l,c,t,b,k,d,e,_⟩:=(show Jl W _ q from h);cases e;intro v f;simp at f;rcases f with rfl|rfl|rfl|rfl<;>rfl
def Dp(r:Bool)(W:E)(b:Nat)(qs:List Rat):Prop:=
 ∃cs:Array D,W.heap[b]?=some (H cs (Dy r) (0,0))/\∀j,j<qs.length->∃x y z u,cs[j*4]?=some x/\cs[j*4+1]?=some y/\cs[j*4+2]?=some z/\cs[j*4+3]?=some u/\Dz r W (G #[x,y,z,u]) (cf qs j)
theorem Dp.lt(h:Dp r W b qs):b<W.heap.size:=by obtain⟨cs,h,_⟩:=h;exact(Ac.1 h).1
theorem Dp.below{r:Bool}{W W':E}{b:Nat}{qs:List Rat}(h:Dp r W b qs)(a:Bl W W'):Dp r W' b qs:=by
 have hl:=h.lt;obtain⟨cs,i,l⟩:=h;refine⟨cs,(a.block b hl).trans i,λj d=>?_⟩;obtain⟨x,y,z,u,f,c,g,k,e⟩:=l j d;exact⟨x,y,z,u,f,c,g,k,e.below a⟩
theorem Dp.keep{r:Bool}{W W':E}{b:Nat}{qs:List Rat}(h:Dp r W b qs)(f:W'.heap[b]?=W.heap[b]?)(l:∀k v ds,Row k W v ds->Row k W' v ds):Dp r W' b qs:=by
 obtain⟨cs,i,n⟩:=h;refine⟨cs,f.trans i,λj c=>?_⟩;obtain⟨x,y,z,u,e,a,g,m,d⟩:=n j c;exact⟨x,y,z,u,e,a,g,m,d.keep l⟩
theorem Dp.alloc{r:Bool}{W:E}{b:Nat}{qs:List Rat}(h:Dp r W b qs)(o:Obj):Dp r (W.alloc o) b qs:=h.below (Ba W o)
theorem Dp.take{r:Bool}{W:E}{b:Nat}{qs:List Rat}(h:Dp r W b qs)(n:Nat):Dp r W b (qs.take n):=by
 obtain⟨cs,g,k⟩:=h;refine⟨cs,g,λj c=>?_⟩;rw[Ai]at c;obtain⟨x,y,z,u,e,a,f,i,d⟩:=k j om;exact⟨x,y,z,u,e,a,f,i,by rw[LF,BI om];exact d⟩
theorem Dp.at(h:Dp r W b qs)(d:j<qs.length):
 ∃x y z u,W.cell? ⟨b,j*4,none⟩=some x/\W.cell? ⟨b,j*4+1,none⟩=some y/\W.cell? ⟨b,j*4+2,none⟩=some z/\W.cell? ⟨b,j*4+3,none⟩=some u/\Dz r W (G #[x,y,z,u]) (cf qs j):=by
 obtain⟨cs,a,k⟩:=h;obtain⟨x,y,z,u,f,c,g,i,e⟩:=k j d;exact⟨x,y,z,u,by simp[World.cell?,a,f],by simp[World.cell?,a,c],by simp[World.cell?,a,g],by simp[World.cell?,a,i],e⟩
theorem Dp.frozen{r:Bool}{W:E}{b:Nat}{qs:List Rat}(h:Dp r W b qs)(o:Nat):W.frozen? ⟨b,o,none⟩=false:=by obtain⟨cs,a,_⟩:=h;simp[World.frozen?,a]
def putAt(W:E)(b o:Nat)(x y z u:D):E:=(((W.setCell ⟨b,o,none⟩ x).setCell ⟨b,o+1,none⟩ y).setCell ⟨b,o+2,none⟩ z).setCell ⟨b,o+3,none⟩ u
theorem JN(h:W.heap[b]?=some (H cs t m))(v:D):(W.setCell ⟨b,o,none⟩ v).heap[b]?=some (H (cs.setIfInBounds o v) t m):=by
 obtain⟨c,a⟩:=Ac.1 h;show(W.heap.modify b _)[b]?=_;rw[AZ (by rw[Cz];exact c),Ce,a];simp
theorem Ty(h:W.heap[b]?=some (H cs t m))(x y z u:D):(putAt W b o x y z u).heap[b]?=some (H ((((cs.setIfInBounds o x).setIfInBounds (o+1) y).setIfInBounds (o+2) z).setIfInBounds (o+3) u) t m):=
 JN (JN (JN (JN h x) y) z) u
theorem MD(a:B≠b)(x y z u:D):(putAt W b o x y z u).heap[B]?=W.heap[B]?:=
 (BG _ _ _ B a).trans ((BG _ _ _ B a).trans ((BG _ _ _ B a).trans (BG _ _ _ B a)))
theorem OY(h:Below n w W)(a:n<=b)(x y z u:D):Below n w (putAt W b o x y z u):=
 (((h.setCell (p:=⟨b,o,none⟩) a _).setCell (p:=⟨b,o+1,none⟩) a _).setCell (p:=⟨b,o+2,none⟩) a _).setCell (p:=⟨b,o+3,none⟩) a _
theorem cell_of(h:W.heap[b]?=some (H cs t m))(e:cs[o]?=some x):W.cell? ⟨b,o,none⟩=some x:=by simp[World.cell?,h,e]
theorem Tz{c a:D}(h:W.heap[b]?=some (H cs t m))(g:cs[o]?=some x0)(e:cs[o+1]?=some c)(l:cs[o+2]?=some a)(p:cs[o+3]?=some u0)
(i:Jw x0=true)(f:Jw c=true)(j:Jw a=true)(d:Jw u0=true)(x y z u:D):∀k v ds,Row k W v ds->Row k (putAt W b o x y z u) v ds:=λk v ds n=>by
 have c1:((cs.setIfInBounds o x))[o+1]?=some c:=by rw[Ag om];exact e
 have c2:(((cs.setIfInBounds o x).setIfInBounds (o+1) y))[o+2]?=some a:=by rw[Ag om,Ag om];exact l
 have c3:((((cs.setIfInBounds o x).setIfInBounds (o+1) y).setIfInBounds (o+2) z))[o+3]?=some u0:=by rw[Ag om,Ag om,Ag om];exact p
 exact Row.set (Row.set (Row.set (Row.set n (cell_of h g) i _) (cell_of (JN h x) c1) f _) (cell_of (JN (JN h x) y) c2) j _) (cell_of (JN (JN (JN h x) y) z) c3) d _
theorem Dp.putKeep(h:Dp r W b qs)(f:j<qs.length)(x y z u:D):∀k v ds,Row k W v ds->Row k (putAt W b (j*4) x y z u) v ds:=by
 obtain⟨cs,n,p⟩:=h;obtain⟨x0,s,q,u0,g,c,m,o,e⟩:=p j f;obtain⟨i,d,l,a⟩:=e.no;exact Tz n g c m o i d l a x y z u
theorem Dp.set{r:Bool}{W:E}{b:Nat}{qs:List Rat}(h:Dp r W b qs){j:Nat}(a:j<qs.length){x y z u:D}{q:Rat}(s:Dz r W (G #[x,y,z,u]) q):Dp r (putAt W b (j*4) x y z u) b (qs.set j q):=by
 have d:=h.putKeep a x y z u;obtain⟨cs,t,f⟩:=h;obtain⟨x0,N,M,u0,J,l,p,K,L⟩:=f j a;refine⟨_,Ty t x y z u,λi e=>?_⟩;rw[Ct]at e;have A:=(Ac.1 J).1;have k:=(Ac.1 l).1;have g:=(Ac.1 p).1;have m:=(Ac.1 K).1;by_cases c:i=j
 . subst c;refine⟨x,y,z,u,?_,?_,?_,?_,?_⟩
   . rw[Ag om,Ag om,Ag om,Co A]
   . rw[Ag om,Ag om,Co (by simpa using k)]
   . rw[Ag om,Co (by simpa using g)]
   . rw[Co (by simpa using m)]
   . rw[X1 _ _ _ _ a,BI rfl];exact s.keep d
 . obtain⟨x1,o,B,u1,d0,d1,v,w,n⟩:=f i e;refine⟨x1,o,B,u1,?_,?_,?_,?_,?_⟩
   . rw[Ag om,Ag om,Ag om,Ag om];exact d0
   . rw[Ag om,Ag om,Ag om,Ag om];exact d1
   . rw[Ag om,Ag om,Ag om,Ag om];exact v
   . rw[Ag om,Ag om,Ag om,Ag om];exact w
   . rw[X1 _ _ _ _ a,BE c];exact n.keep d
def RowK(r:Bool)(W:E)(v:D)(qs:List Rat):Prop:=
 ∃a cap,v=C a qs.length cap/\qs.length<=cap/\cap<=9223372036854775807/\qs.length<=1099511627776/\(qs=[]\/∃b,a=some ⟨b,0,none⟩/\Dp r W b qs)
theorem RowK.below{r:Bool}{W W':E}{v:D}{qs:List Rat}(h:RowK r W v qs)(j:Bl W W'):RowK r W' v qs:=by
 obtain⟨a,cap,e,d,i,f,c⟩:=h;refine⟨a,cap,e,d,i,f,?_⟩;rcases c with c|⟨b,k,g⟩
 . exact Or.inl c
 . exact Or.inr ⟨b,k,g.below j⟩
theorem RowK.nil(r:Bool)(W:E):RowK r W (C none 0 0) []:=⟨none,0,rfl,Aa _,om,DO,Or.inl rfl⟩
theorem Dp.row(h:Dp r W b qs){cap:Nat}(c:n<=qs.length)(d:n<=cap)(a:cap<=9223372036854775807)(hl:n<=1099511627776):RowK r W (C (some ⟨b,0,none⟩) n cap) (qs.take n):=by
 have e:(qs.take n).length=n:=by rw[Ai];omega
 exact⟨_,cap,by rw[e],om,a,om,Or.inr ⟨b,rfl,h.take n⟩⟩
theorem RowK.open(h:RowK r W v qs):∃a cap,v=C a qs.length cap/\qs.length<=cap/\cap<=9223372036854775807/\qs.length<=1099511627776/\
 Hid (∀j,j<qs.length->∃b,a=some ⟨b,0,none⟩/\Dp r W b qs):=by
 obtain⟨a,cap,e,f,k,g,c⟩:=h;refine⟨a,cap,e,f,k,g,λj d=>?_⟩;rcases c with c|⟨b,l,i⟩
 . rw[c]at d;simp at d
 . exact⟨b,l,i⟩
theorem RowK.take{r:Bool}{W:E}{a:Option Addr}{l cap:Nat}{qs:List Rat}(h:RowK r W (C a l cap) qs){n:Nat}(o:n<=l):RowK r W (C a n cap) (qs.take n):=by
 obtain⟨j,k,e,m,f,i,c⟩:=h;cases e;have e:(qs.take n).length=n:=by rw[Ai];omega
 refine⟨a,cap,by rw[e],om,f,om,?_⟩;rcases c with c|⟨b,g,d⟩
 . left;rw[c];simp
 . exact Or.inr ⟨b,g,d.take n⟩
def JC(W:E)(v:D)(ps:List Rat):Prop:=∃u,v=G #[u]/\RowK true W u ps
theorem JC.below{W W':E}{v:D}{ps:List Rat}(h:JC W v ps)(b:Bl W W'):JC W' v ps:=by
 obtain⟨u,e,a⟩:=h;exact⟨u,e,a.below b⟩
theorem RowK.form(h:RowK r W v qs):∃a l c,v=C a l c:=by
 obtain⟨a,cap,e,_⟩:=h;exact⟨a,_,cap,e⟩
theorem JC.form{W:E}{v:D}{ps:List Rat}(h:JC W v ps):∃a l c,v=G #[C a l c]:=by
 obtain⟨u,e,b⟩:=h;obtain⟨a,l,c,rfl⟩:=b.form;exact⟨a,l,c,e⟩
theorem JC.row{a:Option Addr}{l c:Nat}{ps:List Rat}(h:JC W (G #[C a l c]) ps):RowK true W (C a l c) ps:=by
 obtain⟨u,e,b⟩:=h;cases e;exact b
@[irreducible] def Dc(qs:List Rat):Prop:=∀i,Sq (cf qs i)
theorem Dc.at(h:Dc qs)(i:Nat):Sq (cf qs i):=by unfold Dc at h;exact h i
theorem Dc.of(h:∀i,Sq (cf qs i)):Dc qs:=by unfold Dc;exact h
def YV(r:Bool)(W:E)(cs:List D)(qs:List Rat):Prop:=
 cs.length=qs.length*4/\∀j,j<qs.length->∃x y z u,cs[j*4]?=some x/\cs[j*4+1]?=some y/\cs[j*4+2]?=some z/\cs[j*4+3]?=some u/\Dz r W (G #[x,y,z,u]) (cf qs j)
theorem YV.nil(r:Bool)(W:E):YV r W [] []:=⟨rfl,λj a=>by simp at a⟩
theorem YV.below{r:Bool}{W W':E}{cs:List D}{qs:List Rat}(h:YV r W cs qs)(c:Bl W W'):YV r W' cs qs:=by
 refine⟨h.1,λj d=>?_⟩;obtain⟨x,y,z,u,g,a,b,f,e⟩:=h.2 j d;exact⟨x,y,z,u,g,a,b,f,e.below c⟩
theorem YV.keep{r:Bool}{W W':E}{cs:List D}{qs:List Rat}(h:YV r W cs qs)(f:∀k v ds,Row k W v ds->Row k W' v ds):YV r W' cs qs:=by
 refine⟨h.1,λj d=>?_⟩;obtain⟨x,y,z,u,g,b,c,a,e⟩:=h.2 j d;exact⟨x,y,z,u,g,b,c,a,e.keep f⟩
theorem YV.one{r:Bool}{W:E}{cs:List D}{qs:List Rat}(h:YV r W cs qs):∀v∈cs,v.oneCell'=true:=by
 intro v j;obtain⟨k,l,rfl⟩:=List.mem_iff_getElem.1 j;have hl:=h.1;obtain⟨x,y,z,u,e,d,f,g,i⟩:=h.2 (k/4) om;have b:=i.one;have c:cs[k]?=some cs[k]:=Af l;have a:k=k/4*4\/k=k/4*4+1\/k=k/4*4+2\/k=k/4*4+3:=om
 rcases a with a|a|a|a
 . rw[<-a,c]at e;cases e;exact b _ DO
 . rw[<-a,c]at d;cases d;exact b _ DO
 . rw[<-a,c]at f;cases f;exact b _ DO
 . rw[<-a,c]at g;cases g;exact b _ DO
theorem YV.snoc{cs:List D}(h:YV r W cs qs){z:D}(e:Dz r W (G #[x,y,z,u]) q):YV r W (cs++[x,y,z,u]) (qs++[q]):=by
 have hl:=h.1;refine⟨by simp;omega,λj g=>?_⟩;rw[Al,Fh]at g;by_cases d:j<qs.length
 . obtain⟨l,a,i,n,k,b,m,o,f⟩:=h.2 j d;refine⟨l,a,i,n,?_,?_,?_,?_,?_⟩
   . rw[AW om];exact k
   . rw[AW om];exact b
   . rw[AW om];exact m
   . rw[AW om];exact o
   . rw[LE,BE om];exact f
 . have c:j=qs.length:=om
   subst c;refine⟨x,y,z,u,?_,?_,?_,?_,?_⟩
   . rw[AJ om,show qs.length*4-cs.length=0 from by omega];rfl
   . rw[AJ om,show qs.length*4+1-cs.length=1 from by omega];rfl
   . rw[AJ om,show qs.length*4+2-cs.length=2 from by omega];rfl
   . rw[AJ om,show qs.length*4+3-cs.length=3 from by omega];rfl
   . rw[LE,BI rfl];exact e
theorem Dp.cells(h:Dp r W b qs):∃cs,YV r W cs qs/\∀j u,cs[j]?=some u->W.cell? ⟨b,j,none⟩=some u:=by
 obtain⟨a,m,d⟩:=h;have q:qs.length*4<=a.size:=by
  cases p:qs.length with
  |zero=>omega
  |succ n=>
   obtain⟨x,y,z,u,_,_,_,c,_⟩:=d n om;have:=(Ac.1 c).1;omega
 refine⟨a.toList.take (qs.length*4),⟨by rw[Ai];have o:a.toList.length=a.size:=CR;omega,λj i=>?_⟩,λj u e=>?_⟩
 . obtain⟨x,y,z,u,k,f,l,c,g⟩:=d j i;refine⟨x,y,z,u,?_,?_,?_,?_,g⟩
   . rw[AH om,Cf];exact k
   . rw[AH om,Cf];exact f
   . rw[AH om,Cf];exact l
   . rw[AH om,Cf];exact c
 . rw[Fd]at e;split at e
   . rw[Cf]at e;exact cell_of m e
   . cases e
theorem RowK.owns{base:Nat}{cs:List D}(h:W.ownsRow base (Dy r) 4 v n cs)(e:YV r W cs qs)(hl:qs.length<=1099511627776):RowK r W v qs/\n=qs.length/\(v=C none 0 0\/∃g cap,v=C (some ⟨g,0,none⟩) n cap/\base<=g/\Dp r W g qs):=by
 obtain⟨B,w⟩:=h;have t:n=qs.length:=by have:=e.1;omega
 subst t;rcases w with⟨rfl,o⟩|⟨g,cap,s,rfl,p,l,hle,q,A,m⟩
 . have:qs=[]:=Am o;subst this;exact⟨RowK.nil r W,rfl,Or.inl rfl⟩
 . have f:Dp r W g qs:=by
    refine⟨s,l,λj i=>?_⟩;obtain⟨x,y,z,u,c,a,b,d,k⟩:=e.2 j i;rw[<-m]at c a b d;rw[AH om,Cf]at c a b d;exact⟨x,y,z,u,c,a,b,d,k⟩
   refine⟨⟨_,cap,rfl,hle,by unfold maxLen at q;omega,hl,Or.inr ⟨g,rfl,f⟩⟩,rfl,Or.inr ⟨g,cap,rfl,p,f⟩⟩
attribute [local go_sem] Oper.semAt_some
theorem Jr.alloc{W:E}{v:D}{z:Int}(h:Jr W v z)(o:Obj):Jr (W.alloc o) v z:=h.below (Ba W o)
theorem Jr.form(h:Jr W v z):∃a l cap,v=G #[C a l cap,F (decide (z<0))]:=by
 obtain⟨a,l,cap,e,_⟩:=h;exact⟨a,l,cap,e⟩
theorem Jr.box{R:Nat}{u1 x1:D}(h:Jr W v z)(q:Jj W R t u0 u1)(b:Jw u0=true)(c:Jw u1=true):Jr ((W.setCell ⟨R,0,none⟩ x0).setCell ⟨R,1,none⟩ x1) v z:=by
 obtain⟨a,l,cap,e,d⟩:=h;exact⟨a,l,cap,e,Row.set (Row.set d q.c0 b _) (u0:=u1) (q.set0 x0).c1 c _⟩
theorem T0(K J:D)(x y:Int)(w:E)(l:Jr w K x)(k:Jr w J y)(U:EA x<=1000000000)(ae:EA y<=1000000000):
 Calls I 158 #[K,J] w λe d=>∃u,e=.returned u/\Jr d u (x-y)/\Bl w d:=by
 obtain⟨a,g,j,rfl⟩:=l.form;obtain⟨b,lb,i,rfl⟩:=k.form;obtain⟨s,hs⟩:=ex (decide (x<0));obtain⟨t,M⟩:=ex (decide (y<0));rw[hs]at l ⊢;rw[M]at k ⊢;clear hs M;obtain⟨W0,f⟩:=ex (((w.alloc (H #[C a g j,F s] 47)).alloc (H #[C b lb i,F t] 47)).alloc (H #[C none 0 0,F false] 47));have z:Bl w W0:=by rw[<-f];exact Y6 w _ _ _
 have b0:Jj W0 w.heap.size 47 (C a g j) (F s):=by rw[<-f];exact((Jj.new w _ _ _).alloc _).alloc _
 have r:Jj W0 (w.heap.size+1) 47 (C b lb i) (F t):=by
  have h:=(Jj.new (w.alloc (H #[C a g j,F s] 47)) 47 (C b lb i) (F t)).alloc (H #[C none 0 0,F false] 47);rw[A1,f]at h;exact h
 have q:Jj W0 (w.heap.size+1+1) 47 (C none 0 0) (F false):=by
  have h:=Jj.new ((w.alloc (H #[C a g j,F s] 47)).alloc (H #[C b lb i,F t] 47)) 47 (C none 0 0) (F false);rw[A1,A1,f]at h;exact h
 have W:=Ja (λ(V:E) (h:Bl W0 V)=>NW _ y V ((k.below z).below h));have HS:=Ja (λ(V:E) (u:D) (h:Bl W0 V) (Z:Jr V u (-y))=>LY _ u x (-y) V ((l.below z).below h) Z U (by unfold EA at *;rw[Fa];exact ae));clear l k;go_enter Tryz.func158,Tryz.ntmps158
 go_wp2_with fail
 try rw[f]
 clear f;have c:Bl W0 W0.drew:=(BB _ W0).drew;obtain⟨S,O⟩:=b0.cp;obtain⟨N,P⟩:=r.cp;have ah:¬(w.heap.size=w.heap.size+1+1):=om
 go_region_held3 (λd=>d.cell? ⟨w.heap.size,0,none⟩=some (C a g j)/\d.cell? ⟨w.heap.size,1,none⟩=some (F s)/\d.cell? ⟨w.heap.size+1,0,none⟩=some (C b lb i)/\d.cell? ⟨w.heap.size+1,1,none⟩=some (F t)) (refine⟨?_,?_,?_,?_⟩<;>(first|(go_keep;done)|((repeat rw[JH om]);simp[*];done)))
  (first
   |(go_at_call 126;refine(W.o _ c).mono ?_;rintro e w1 ⟨u1,rfl,m,af⟩;obtain⟨na,nl,nc,rfl⟩:=m.form;obtain⟨s1,A⟩:=ex (decide (-y<0));rw[A]at m;rw[A];clear A;have c:=Bt c af;obtain⟨S,O⟩:=(b0.below c).cp;obtain⟨N,P⟩:=(r.below c).cp)
   |(go_at_call 108;refine(HS.o _ _ c m).mono ?_;rintro e w2 ⟨u2,rfl,o,ad⟩;obtain⟨Q,R,L,rfl⟩:=o.form;obtain⟨B,n⟩:=ex (decide (x+-y<0));rw[n]at o;rw[n];clear n;have c:=Bt c ad;obtain⟨S,O⟩:=(b0.below c).cp;obtain⟨N,P⟩:=(r.below c).cp;obtain⟨r0,X⟩:=(q.below c).cp;obtain⟨f0,f1⟩:=(q.below c).fp))
 all_goals go_wp2_with fail
 have Y:=Bt z c;have T:=o.box (q.below c) rfl rfl (x0:=C Q R L) (x1:=F B);exact BA (v:=G #[C Q R L,F B]) (by simp[results,Tryz.results158,go_sem,r0,X]) rfl ⟨_,rfl,by rw[Int.sub_eq_add_neg];exact T,(Y.setCell (p:=⟨_,0,none⟩) so _).setCell (p:=⟨_,1,none⟩) so _⟩
theorem OZ(L K:D)(x y:Int)(w:E)(l:Jk w L x)(X:Jk w K y)(Y:(Jc DN x.natAbs).length<1099511627776)(ad:(Jc DN y.natAbs).length<1099511627776):
 Calls I 88 #[L,K] w λe d=>∃u,e=.returned u/\Jk d u (x-y)/\Bl w d:=by
 obtain⟨a,i,j,rfl⟩:=l.form;obtain⟨b,lb,f,e0,k⟩:=X;cases e0;obtain⟨s,hs⟩:=ex (decide (x<0));obtain⟨t,o⟩:=ex (decide (y<0));rw[hs]at l ⊢;rw[o];clear hs;obtain⟨W0,g⟩:=ex (((w.alloc (H #[F s,C a i j] 36)).alloc (H #[F t,C b lb f] 36)).alloc (H #[F false,C none 0 0] 36));have m:Bl w W0:=by rw[<-g];exact Y6 w _ _ _
 have b0:Jj W0 w.heap.size 36 (F s) (C a i j):=by rw[<-g];exact((Jj.new w _ _ _).alloc _).alloc _
 have A:Jj W0 (w.heap.size+1) 36 (F t) (C b lb f):=by
  have h:=(Jj.new (w.alloc (H #[F s,C a i j] 36)) 36 (F t) (C b lb f)).alloc (H #[F false,C none 0 0] 36);rw[A1,g]at h;exact h
 have z:Jj W0 (w.heap.size+1+1) 36 (F false) (C none 0 0):=by
  have h:=Jj.new ((w.alloc (H #[F s,C a i j] 36)).alloc (H #[F t,C b lb f] 36)) 36 (F false) (C none 0 0);rw[A1,A1,g]at h;exact h
 have T:(if(!t)=true then -(y.natAbs:Int)else y.natAbs)=-y:=by
  rw[<-o];by_cases h:y<0
  . simp only[h,DE,Bool.not_true,Ca,if_false];omega
  . simp only[h,B3,Bool.not_false,if_true];omega
 have Z:=Ja (λ(V:E) (h:Bl W0 V)=>show Calls I 112 #[F (!t),C b lb f] V λe d=>∃u,e=.returned u/\Jk d u (-y)/\Bl V d by
  have Q:=Hf (!t) (C b lb f) y.natAbs V (UN.below (UN.below k m) h);rw[T]at Q;exact Q)
 have HS:=Ja (λ(V:E) (u:D) (h:Bl W0 V) (k:Jk V u (-y))=>Lw _ u x (-y) V ((l.below m).below h) k Y (by rw[Fa];exact ad));clear l k T o;go_enter Tryz.func88,Tryz.ntmps88
 go_wp2_with fail
 try rw[g]
 clear g;have c:Bl W0 W0.drew:=(BB _ W0).drew;obtain⟨U,O⟩:=b0.cp;obtain⟨N,P⟩:=A.cp;have ah:¬(w.heap.size=w.heap.size+1+1):=om
 go_region_held3 (λd=>d.cell? ⟨w.heap.size,0,none⟩=some (F s)/\d.cell? ⟨w.heap.size,1,none⟩=some (C a i j)/\d.cell? ⟨w.heap.size+1,0,none⟩=some (F t)/\d.cell? ⟨w.heap.size+1,1,none⟩=some (C b lb f)) (refine⟨?_,?_,?_,?_⟩<;>(first|(go_keep;done)|((repeat rw[JH om]);simp[*];done)))
  (first
   |(go_at_call 112;refine(Z.o _ c).mono ?_;rintro e w1 ⟨u1,rfl,n,af⟩;obtain⟨na,nl,nc,rfl⟩:=n.form;obtain⟨s1,B⟩:=ex (decide (-y<0));rw[B]at n;rw[B];clear B;have c:=Bt c af;obtain⟨U,O⟩:=(b0.below c).cp;obtain⟨N,P⟩:=(A.below c).cp)
   |(go_at_call 81;refine(HS.o _ _ c n).mono ?_;rintro e w2 ⟨u2,rfl,r,ae⟩;obtain⟨R,S,M,rfl⟩:=r.form;obtain⟨J,q⟩:=ex (decide (x+-y<0));rw[q]at r;rw[q];clear q;have c:=Bt c ae;obtain⟨U,O⟩:=(b0.below c).cp;obtain⟨N,P⟩:=(A.below c).cp;obtain⟨r0,r1⟩:=(z.below c).cp;obtain⟨f0,f1⟩:=(z.below c).fp))
 all_goals go_wp2_with fail
 have W:=Bt m c;have Qc:=r.box (z.below c) rfl rfl (x0:=F J) (x1:=C R S M);exact BA (v:=G #[F J,C R S M]) (by simp[results,Tryz.results88,go_sem,r0,r1]) rfl ⟨_,rfl,by rw[Int.sub_eq_add_neg];exact Qc,(W.setCell (p:=⟨_,0,none⟩) so _).setCell (p:=⟨_,1,none⟩) so _⟩
theorem UA(a:Option Addr)(c l:Nat)(b:Option Addr)(lb j m n:Nat)(w:E)(v:c+lb<=1099511627776)
(f:Row .u64 w (C a c l) (Jc DN m))(d:Row .u64 w (C b lb j) (Jc DN n)):
 Calls I 118 #[C a c l,C b lb j] w λe t=>∃u,e=.returned u/\UN t u (m*n)/\Bl w t:=by
 have r:=Hg (c+lb) om w;rw[show((c+lb:Nat):Int)=(c:Int)+(lb:Int)from by omega]at r;obtain⟨g,i⟩:∃g,g=w.alloc (H (cellsOf .u64 (List.replicate (c+lb) 0)).toArray 163):=⟨_,rfl⟩;have o:Bl w g:=by rw[i];exact Ba w _
 have q:DU g w.heap.size (List.replicate (c+lb) 0):=by rw[i];exact DU.made (BC w _)
 rw[<-i]at r;have z:=Ja (Sf w.heap.size (c+lb) (c+lb) (List.replicate (c+lb) 0) a c l b lb j m n g q (λx A=>by rw[Cy A];unfold DN;omega) (by rw[Ar];exact Aa _) (Aa _) om v (Row.below f o) (Row.below d o)
  (λp e k=>by have:=Gc f e k;omega) (λp e k=>by have:=Gc d e k;omega))
 have K:=(Js f).2.1;have M:=(Js f).2.2.1;have N:=(Js d).2.1;have O:=(Js d).2.2.1;clear i q f d;go_enter Tryz.func118,Tryz.ntmps118
 go_wp2_with(go_at_call 153;refine z.o.mono ?_;rintro e L ⟨u,rfl,⟨s,y⟩,_,_⟩;obtain⟨J,B,rfl⟩:=UN.form s)
 go_ret;exact⟨_,rfl,s,below_grown o y (Aa _)⟩
theorem XY(O M:D)(x y:Int)(w:E)(ha:Jk w O x)(hb:Jk w M y)(hl:(Jc DN x.natAbs).length+(Jc DN y.natAbs).length<=1099511627776):
 Calls I 85 #[O,M] w λe f=>∃u,e=.returned u/\Jk f u (x*y)/\Bl w f:=by
 obtain⟨a,j,m,K,n⟩:=ha;cases K;obtain⟨b,lb,l,K,r⟩:=hb;cases K;have Y:=n.len;have Qf:=r.len;obtain⟨s,hs⟩:=ex (decide (x<0));obtain⟨t,o⟩:=ex (decide (y<0));have Q:(if(!(s==t))=true then -((x.natAbs*y.natAbs:Nat):Int)else((x.natAbs*y.natAbs:Nat):Int))=x*y:=by
  rw[<-hs,<-o,<-Int.natAbs_mul];rcases Fj x 0 with d|d|d<;>rcases Fj y 0 with g|g|g
  . have:=Int.mul_pos_of_neg_of_neg d g;simp[d,g];omega
  . subst g;simp
  . have:=Int.mul_neg_of_neg_of_pos d g;have i:¬y<0:=om
    simp[d,i];omega
  . subst d;simp
  . subst d;simp
  . subst d;simp
  . have:=Int.mul_neg_of_pos_of_neg d g;have i:¬x<0:=om
    simp[g,i];omega
  . subst g;simp
  . have:=Int.mul_pos d g;have i:¬x<0:=om
    have h2:¬y<0:=om
    simp[i,h2];omega
 rw[hs,o];obtain⟨W0,k⟩:=ex (((w.alloc (H #[F s,C a j m] 36)).alloc (H #[F t,C b lb l] 36)).alloc (H #[F false,C none 0 0] 36));have J:Bl w W0:=by rw[<-k];exact Y6 w _ _ _
 have b0:Jj W0 w.heap.size 36 (F s) (C a j m):=by rw[<-k];exact((Jj.new w _ _ _).alloc _).alloc _
 have B:Jj W0 (w.heap.size+1) 36 (F t) (C b lb l):=by
  have h:=(Jj.new (w.alloc (H #[F s,C a j m] 36)) 36 (F t) (C b lb l)).alloc (H #[F false,C none 0 0] 36);rw[A1,k]at h;exact h
 have A:Jj W0 (w.heap.size+1+1) 36 (F false) (C none 0 0):=by
  have h:=Jj.new ((w.alloc (H #[F s,C a j m] 36)).alloc (H #[F t,C b lb l] 36)) 36 (F false) (C none 0 0);rw[A1,A1,k]at h;exact h
 have HT:=Ja (λ(V:E) (h:Bl W0 V)=>UA a j m b lb l _ _ V om (UN.below (UN.below n J) h) (UN.below (UN.below r J) h));have HS:=Ja (λ(V:E) (u:D) (n:UN V u (x.natAbs*y.natAbs))=>show Calls I 112 #[F (!(s==t)),u] V λe f=>∃u,e=.returned u/\Jk f u (x*y)/\Bl V f by
  have i:=Hf (!(s==t)) u _ V n;rw[Q]at i;exact i)
 clear n r Q hs o Y Qf hl;go_enter Tryz.func85,Tryz.ntmps85
 go_wp2_with fail
 try rw[k]
 clear k;have c:Bl W0 W0.drew:=(BB _ W0).drew;obtain⟨X,S⟩:=b0.cp;obtain⟨R,T⟩:=B.cp;have af:¬(w.heap.size=w.heap.size+1+1):=om
 go_region_held3 (λf=>f.cell? ⟨w.heap.size,0,none⟩=some (F s)/\f.cell? ⟨w.heap.size,1,none⟩=some (C a j m)/\f.cell? ⟨w.heap.size+1,0,none⟩=some (F t)/\f.cell? ⟨w.heap.size+1,1,none⟩=some (C b lb l)) (refine⟨?_,?_,?_,?_⟩<;>(first|(go_keep;done)|((repeat rw[JH om]);simp[*];done)))
  (first
   |(go_at_call 118;refine(HT.o _ c).mono ?_;rintro e w1 ⟨u1,rfl,N,ae⟩;obtain⟨na,nc,rfl⟩:=UN.form N;have c:=Bt c ae;obtain⟨X,S⟩:=(b0.below c).cp;obtain⟨R,T⟩:=(B.below c).cp)
   |(go_at_call 112;refine(HS.o _ _ N).mono ?_;rintro e w2 ⟨u2,rfl,z,ad⟩;obtain⟨U,W,P,rfl⟩:=z.form;obtain⟨L,q⟩:=ex (decide (x*y<0));rw[q]at z;rw[q];clear q;have c:=Bt c ad;obtain⟨X,S⟩:=(b0.below c).cp;obtain⟨R,T⟩:=(B.below c).cp;obtain⟨r0,r1⟩:=(A.below c).cp;obtain⟨f0,f1⟩:=(A.below c).fp))
 all_goals go_wp2_with fail
 have Qe:=Bt J c;have Z:=z.box (A.below c) rfl rfl (x0:=F L) (x1:=C U W P);exact BA (v:=G #[F L,C U W P]) (by simp[results,Tryz.results85,go_sem,r0,r1]) rfl ⟨_,rfl,Z,(Qe.setCell (p:=⟨_,0,none⟩) so _).setCell (p:=⟨_,1,none⟩) so _⟩
end
namespace M3
inductive Dat
 |int(z:Int)
 |rat(q:Rat)
 |big(z:Int)
 |ref(q:Rat)
 |zref
 |pair(x y:Int)
 |rats(qs:List Rat)
 |poly(ps:List Rat)
 |cell(t:TypeId)(v:Value)
def Dat.ty:Dat->TypeId
 |.int _=>36
 |.rat _=>38
 |.big _=>47
 |.ref _=>49
 |.zref=>49
 |.pair _ _=>38
 |.rats _=>38
 |.poly _=>25
 |.cell t _=>t
def Has(V:E)(v:D):Dat->Prop
 |.int z=>Jk V v z
 |.rat q=>Ji V v q
 |.big z=>Jr V v z
 |.ref q=>Jl V v q
 |.zref=>v=G #[C none 0 0,F false,C none 0 0,F false]
 |.pair x y=>XA V v x y
 |.rats qs=>∃cs,v=G cs/\∀j,j<qs.length->∃x y z u,cs[j*4]?=some x/\cs[j*4+1]?=some y/\cs[j*4+2]?=some z/\cs[j*4+3]?=some u/\Dz true V (G #[x,y,z,u]) (cf qs j)
 |.poly ps=>JC V v ps
 |.cell _ x=>v=G #[x]/\Jw x=true
theorem Has.below{V V':E}{v:D}{d:Dat}(h:Has V v d)(a:Bl V V'):Has V' v d:=by
 cases d with
 |int z=>exact Jk.below h a
 |rat q=>exact Ji.below h a
 |big z=>exact Jr.below h a
 |ref q=>exact Jl.below h a
 |zref=>exact h
 |pair x y=>exact XA.below h a
 |rats qs=>
  obtain⟨cs,e,h⟩:=h;refine⟨cs,e,λj f=>?_⟩;obtain⟨x,y,z,u,k,b,c,i,g⟩:=h j f;exact⟨x,y,z,u,k,b,c,i,g.below a⟩
 |poly ps=>exact JC.below h a
 |cell t x=>exact h
theorem Has.alloc{V:E}{v:D}{d:Dat}(h:Has V v d)(o:Obj):Has (V.alloc o) v d:=h.below (Ba V o)
def Dat.noPoly:Dat->Bool|.poly _=>false|_=>true
theorem Has.keep{V V':E}{v:D}{d:Dat}(h:Has V v d)(f:∀k v ds,Row k V v ds->Row k V' v ds)(o:d.noPoly=true\/∀v qs,RowK true V v qs->RowK true V' v qs):Has V' v d:=by
 cases d with
 |rats qs=>
  obtain⟨cs,e,h⟩:=h;refine⟨cs,e,λj J=>?_⟩;obtain⟨x,y,z,u,L,g,i,M,K⟩:=h j J;exact⟨x,y,z,u,L,g,i,M,K.keep f⟩
 |poly ps=>
  rcases o with o|o
  . cases o
  . obtain⟨u,e,m⟩:=h;exact⟨u,e,o _ _ m⟩
 |cell t x=>exact h
 |zref=>exact h
 |pair x y=>
  obtain⟨s,a,l,c,t,b,k,d,e,⟨p,n,c1,g,m⟩,⟨r,w,c2,i,A⟩⟩:=h;exact⟨s,a,l,c,t,b,k,d,e,⟨p,n,c1,g,f _ _ _ m⟩,⟨r,w,c2,i,f _ _ _ A⟩⟩
 |int z=>obtain⟨a,l,c,e,B⟩:=h;exact⟨a,l,c,e,f _ _ _ B⟩
 |big z=>obtain⟨a,l,c,e,B⟩:=h;exact⟨a,l,c,e,f _ _ _ B⟩
 |rat q=>
  obtain⟨s,a,l,c,t,b,k,d,e,⟨p,n,c1,g,m⟩,⟨r,w,c2,i,A⟩⟩:=h;exact⟨s,a,l,c,t,b,k,d,e,⟨p,n,c1,g,f _ _ _ m⟩,⟨r,w,c2,i,f _ _ _ A⟩⟩
 |ref q=>
  obtain⟨s,a,l,c,t,b,k,d,e,⟨p,n,c1,g,m⟩,⟨r,w,c2,i,A⟩⟩:=h;exact⟨s,a,l,c,t,b,k,d,e,⟨p,n,c1,g,f _ _ _ m⟩,⟨r,w,c2,i,f _ _ _ A⟩⟩
def Bx(V:E)(B:Nat)(t:TypeId)(cs:Array D):Prop:=V.heap[B]?=some (H cs t (0,0))
variable{cs:Array D}{r:Bool}{d:Dat}{n:Int}{bs:List (Option (Nat × Dat))}{B i:Nat}{q q0:Rat}{t:TypeId}{m u x x0 y z:D}{V V' w:E}
theorem Bx.lt(h:Bx V B t cs):B<V.heap.size:=(Ac.1 h).1
theorem Bx.below(h:Bx V B t cs)(a:Bl V V'):Bx V' B t cs:=(a.block B h.lt).trans h
theorem Bx.far(h:Bx V B t cs){p:Addr}(a:B≠p.block)(u:D):Bx (V.setCell p u) B t cs:=(BG V p u B a).trans h
def noPoly:List (Option (Nat × Dat))->Bool
 |[]=>true
 |some (_,d)::t=>d.noPoly&&noPoly t
 |Option.none::t=>noPoly t
theorem Oa(h:noPoly bs=true){x:Nat × Dat}(e:bs[i]?=some (some x)):x.2.noPoly=true:=by
 induction bs generalizing i with
 |nil=>simp at e
 |cons b t a=>
  cases b with
  |none=>
   cases i with
   |zero=>simp at e
   |succ i=>exact a h (by simpa using e)
  |some y=>
   rw[noPoly,AA]at h;cases i with
   |zero=>simp at e;rw[<-e];exact h.1
   |succ i=>exact a h.2 (by simpa using e)
def Mem(w V:E)(bs:List (Option (Nat × Dat))):Prop:=
 (∀(i:Nat) B d,bs[i]?=some (some (B,d))->(∃cs,Bx V B d.ty cs/\Has V (G cs) d)/\w.heap.size<=B)/\
 (∀(i j:Nat) B d a,bs[i]?=some (some (B,d))->bs[j]?=some (some (B,a))->i=j)/\Bl w V
theorem Mem.nil(w:E):Mem w w []:=⟨λi B z h=>by simp at h,λi j B z a h=>by simp at h,BB _ w⟩
theorem Mem.int{w V:E}{bs:List (Option (Nat × Dat))}(M:Mem w V bs){i B:Nat}{z:Int}(h:bs[i]?=some (some (B,.int z))):∃s a l c,Jj V B 36 (F s) (C a l c)/\Jk V (G #[F s,C a l c]) z:=by
 obtain⟨⟨cs,d,f⟩,_⟩:=M.1 i B _ h;obtain⟨a,l,c,e,b⟩:=f;cases e;exact⟨_,a,l,c,d,a,l,c,rfl,b⟩
theorem Mem.big{w V:E}{bs:List (Option (Nat × Dat))}(M:Mem w V bs){i B:Nat}{z:Int}(h:bs[i]?=some (some (B,.big z))):∃a l c s,Jj V B 47 (C a l c) (F s)/\Jr V (G #[C a l c,F s]) z:=by
 obtain⟨⟨cs,d,f⟩,_⟩:=M.1 i B _ h;obtain⟨a,l,c,e,b⟩:=f;cases e;exact⟨a,l,c,_,d,a,l,c,rfl,b⟩
theorem Mem.rat{w V:E}{bs:List (Option (Nat × Dat))}(M:Mem w V bs){i B:Nat}{q:Rat}(h:bs[i]?=some (some (B,.rat q))):
 ∃s a l c t b k d,JE V B 38 (F s) (C a l c) (F t) (C b k d)/\Ji V (G #[F s,C a l c,F t,C b k d]) q/\Jk V (G #[F s,C a l c]) q.num/\Jk V (G #[F t,C b k d]) (denZ q):=by
 obtain⟨⟨cs,j,f⟩,_⟩:=M.1 i B _ h;have m:=f;obtain⟨s,a,l,c,t,b,k,d,e,n,g⟩:=f;cases e;exact⟨s,a,l,c,t,b,k,d,j,m,n,g⟩
theorem Mem.pair{w V:E}{bs:List (Option (Nat × Dat))}(M:Mem w V bs){i B:Nat}{x y:Int}(h:bs[i]?=some (some (B,.pair x y))):
 ∃s a l c t b k d,JE V B 38 (F s) (C a l c) (F t) (C b k d)/\XA V (G #[F s,C a l c,F t,C b k d]) x y/\Jk V (G #[F s,C a l c]) x/\Jk V (G #[F t,C b k d]) y:=by
 obtain⟨⟨cs,j,f⟩,_⟩:=M.1 i B _ h;have m:=f;obtain⟨s,a,l,c,t,b,k,d,e,n,g⟩:=f;cases e;exact⟨s,a,l,c,t,b,k,d,j,m,n,g⟩
theorem Mem.ref{w V:E}{bs:List (Option (Nat × Dat))}(M:Mem w V bs){i B:Nat}{q:Rat}(h:bs[i]?=some (some (B,.ref q))):
 ∃a l c s b k d t,JE V B 49 (C a l c) (F s) (C b k d) (F t)/\Jl V (G #[C a l c,F s,C b k d,F t]) q/\Jr V (G #[C a l c,F s]) q.num/\Jr V (G #[C b k d,F t]) (q.den:Int):=by
 obtain⟨⟨cs,j,f⟩,_⟩:=M.1 i B _ h;have m:=f;obtain⟨s,a,l,c,t,b,k,d,e,n,g⟩:=f;cases e;exact⟨s,a,l,c,t,b,k,d,j,m,n,g⟩
theorem Mem.below{w V V':E}{bs:List (Option (Nat × Dat))}(M:Mem w V bs)(a:Bl V V'):Mem w V' bs:=
 ⟨λi B z h=>by
  obtain⟨⟨cs,c,d⟩,b⟩:=M.1 i B z h;exact⟨⟨cs,c.below a,d.below a⟩,b⟩,M.2.1,Bt M.2.2 a⟩
theorem Mem.drew{w V:E}{bs:List (Option (Nat × Dat))}(M:Mem w V bs):Mem w V.drew bs:=M.below ((BB _ V).drew)
theorem Mem.sub{cs:List (Option (Nat × Dat))}(M:Mem w V bs)(f:Nat->Nat)(c:∀(i j:Nat),f i=f j->i=j)(h:∀(i:Nat) x,cs[i]?=some (some x)->bs[f i]?=some (some x)):Mem w V cs:=
 ⟨λi B d a=>M.1 (f i) B d (h i _ a),λi j B d b a e=>c i j (M.2.1 (f i) (f j) B d b (h i _ a) (h j _ e)),M.2.2⟩
theorem Mem.take{w V:E}{bs:List (Option (Nat × Dat))}(M:Mem w V bs)(n:Nat):Mem w V (bs.take n):=by
 refine M.sub id (λ_ _ h=>h) (λi x h=>?_);rw[Fd]at h;split at h
 . exact h
 . cases h
theorem Mem.none{w V:E}{bs:List (Option (Nat × Dat))}(M:Mem w V bs):Mem w V (bs++[Option.none]):=by
 refine M.sub id (λ_ _ h=>h) (λi x h=>?_);by_cases b:i<bs.length
 . rwa[AW b]at h
 . rw[AJ om]at h;obtain⟨k,a⟩:=ex (i-bs.length);rw[a]at h;cases k<;>simp at h
theorem Mem.fill(M:Mem w V bs)(h:bs[i]?=some Option.none)(d:Dat)(p:Has V (G cs) d):
 Mem w (V.alloc (H cs d.ty)) (bs.set i (some (V.heap.size,d))):=by
 have m:Bl V (V.alloc (H cs d.ty)):=Ba V _;have g:i<bs.length:=(Ad.1 h).1;have n:=M.below m;have l:∀(j:Nat) B d,bs[j]?=some (some (B,d))->B<V.heap.size:=λj B d h=>by
  obtain⟨⟨_,a,_⟩,_⟩:=M.1 j B d h;exact a.lt
 refine⟨λj B q e=>?_,λj k B d1 o a c=>?_,n.2.2⟩
 . by_cases b:i=j
   . subst b;rw[A4 g]at e;simp at e;obtain⟨rfl,rfl⟩:=e;exact⟨⟨cs,BC V _,p.below m⟩,M.2.2.size⟩
   . rw[AN b]at e;exact n.1 j B q e
 . by_cases b:i=j<;>by_cases f:i=k
   . omega
   . subst b;rw[A4 g]at a;rw[AN f]at c;simp at a;have:=l k B o c;omega
   . subst f;rw[A4 g]at c;rw[AN b]at a;simp at c;have:=l j B d1 a;omega
   . rw[AN b]at a;rw[AN f]at c;exact M.2.1 j k B d1 o a c
theorem Mem.push(M:Mem w V bs)(d:Dat)(a:Has V (G cs) d):Mem w (V.alloc (H cs d.ty)) (bs++[some (V.heap.size,d)]):=by
 have h:=M.none.fill (i:=bs.length) DO d a;rwa[OW]at h
theorem Mem.repl(M:Mem w V bs)(h:bs[i]?=some (some (B,d)))(f:Dat)(s:Bx V' B f.ty cs)(z:Has V (G cs) f)
(o:∀k v ds,Row k V v ds->Row k V' v ds)(L:∀b t cs,b≠B->Bx V b t cs->Bx V' b t cs)(N:Bl w V')
(J:noPoly bs=true\/∀v qs,RowK true V v qs->RowK true V' v qs)(r:f.noPoly=true\/∀v qs,RowK true V v qs->RowK true V' v qs):Mem w V' (bs.set i (some (B,f))):=by
 have n:i<bs.length:=(Ad.1 h).1;obtain⟨_,K⟩:=M.1 i B d h;refine⟨λj b d1 a=>?_,λj k b d1 u x O=>?_,N⟩
 . by_cases c:i=j
   . subst c;rw[A4 n]at a;simp at a;obtain⟨rfl,rfl⟩:=a;exact⟨⟨cs,s,z.keep o r⟩,K⟩
   . rw[AN c]at a;obtain⟨⟨A,l,g⟩,P⟩:=M.1 j b d1 a;have q:b≠B:=λe=>c (by rw[e]at a;exact M.2.1 i j B d d1 h a);exact⟨⟨A,L _ _ _ q l,g.keep o (J.imp (λh=>Oa h a) id)⟩,P⟩
 . have p:∀(j:Nat) d1,(bs.set i (some (B,f)))[j]?=some (some (b,d1))->∃m,bs[j]?=some (some (b,m)):=λj d1 a=>by
    by_cases c:i=j
    . subst c;rw[A4 n]at a;simp at a;exact⟨d,by rw[h,a.1]⟩
    . rw[AN c]at a;exact⟨d1,a⟩
   obtain⟨m,l⟩:=p j d1 x;obtain⟨y,g⟩:=p k u O;exact M.2.1 j k b m y l g
theorem XZ(h:Bx V B t cs){o:Nat}(e:cs[o]?=some x0)(j:Jw x0=true)(r:Bool)(l:t≠Dy r)(x:D)(v:D)(qs:List Rat)(d:RowK r V v qs):RowK r (V.setCell ⟨B,o,Option.none⟩ x) v qs:=by
 obtain⟨a,cap,ev,k,m,i,c⟩:=d;refine⟨a,cap,ev,k,m,i,?_⟩;rcases c with c|⟨b,n,f⟩
 . exact Or.inl c
 . refine Or.inr ⟨b,n,f.keep (BG V ⟨B,o,Option.none⟩ x b ?_) (λ_ _ _ d=>Row.set d (cell_of h e) j _)⟩;rintro rfl;obtain⟨p,g,_⟩:=f;rw[show V.heap[b]?=_ from h]at g;cases g;exact l rfl
theorem Ob(q:Jj V B t x0 m)(a:t≠Dy r)(b:Jw x0=true)(c:Jw m=true)(x y:D):∀v qs,RowK r V v qs->RowK r ((V.setCell ⟨B,0,Option.none⟩ x).setCell ⟨B,1,Option.none⟩ y) v qs:=
 λv qs h=>XZ (cs:=#[x,m]) (q.set0 x) (o:=1) rfl c r a y v qs (XZ (cs:=#[x0,m]) q (o:=0) rfl b r a x v qs h)
theorem Oc{a u0:D}(q:JE V B t x0 m a u0)(b:t≠Dy r)(e:Jw x0=true)(d:Jw m=true)(f:Jw a=true)(c:Jw u0=true)(x y z u:D):∀v qs,RowK r V v qs->RowK r (put4 V B x y z u) v qs:=
 λv qs h=>XZ (cs:=#[x,y,z,u0]) (((q.set0 x).set1 y).set2 z) (o:=3) rfl c r b u v qs (XZ (cs:=#[x,y,a,u0]) ((q.set0 x).set1 y) (o:=2) rfl f r b z v qs (XZ (cs:=#[x,m,a,u0]) (q.set0 x) (o:=1) rfl d r b y v qs (XZ (cs:=#[x0,m,a,u0]) q (o:=0) rfl e r b x v qs h)))
theorem keep2(q:Jj V B t x y)(b:Jw x=true)(d:Jw y=true)(a c:D):∀k v ds,Row k V v ds->Row k ((V.setCell ⟨B,0,Option.none⟩ a).setCell ⟨B,1,Option.none⟩ c) v ds:=
 λ_ _ _ h=>Row.set (Row.set h q.c0 b _) (q.set0 a).c1 d _
theorem Mem.putInt(M:Mem w V bs)(h:bs[i]?=some (some (B,.int n))){z:Int}(f:Jk V (G #[x,y]) z):
 Mem w ((V.setCell ⟨B,0,Option.none⟩ x).setCell ⟨B,1,Option.none⟩ y) (bs.set i (some (B,.int z))):=by
 obtain⟨s,a,l,c,b,_⟩:=M.int h;obtain⟨_,d⟩:=M.1 i B _ h;exact M.repl h (.int z) (cs:=#[x,y]) ((b.set0 x).set1 y) f (keep2 b rfl rfl x y) (λj t cs e g=>(g.far (p:=⟨B,0,Option.none⟩) e _).far (p:=⟨B,1,Option.none⟩) e _) ((M.2.2.setCell (p:=⟨B,0,Option.none⟩) d _).setCell (p:=⟨B,1,Option.none⟩) d _) (Or.inr (Ob b DR rfl rfl x y)) (Or.inl rfl)
theorem Mem.putBig(M:Mem w V bs)(h:bs[i]?=some (some (B,.big n))){z:Int}(f:Jr V (G #[x,y]) z):
 Mem w ((V.setCell ⟨B,0,Option.none⟩ x).setCell ⟨B,1,Option.none⟩ y) (bs.set i (some (B,.big z))):=by
 obtain⟨a,l,c,s,b,_⟩:=M.big h;obtain⟨_,d⟩:=M.1 i B _ h;exact M.repl h (.big z) (cs:=#[x,y]) ((b.set0 x).set1 y) f (keep2 b rfl rfl x y) (λj t cs e g=>(g.far (p:=⟨B,0,Option.none⟩) e _).far (p:=⟨B,1,Option.none⟩) e _) ((M.2.2.setCell (p:=⟨B,0,Option.none⟩) d _).setCell (p:=⟨B,1,Option.none⟩) d _) (Or.inr (Ob b DR rfl rfl x y)) (Or.inl rfl)
theorem far4(x y z u:D):∀b t cs,b≠B->Bx V b t cs->Bx (put4 V B x y z u) b t cs:=λ_ _ _ a g=>(((g.far (p:=⟨B,0,Option.none⟩) a _).far (p:=⟨B,1,Option.none⟩) a _).far (p:=⟨B,2,Option.none⟩) a _).far (p:=⟨B,3,Option.none⟩) a _
theorem Mem.putRat(M:Mem w V bs)(h:bs[i]?=some (some (B,.rat q0)))(c:Ji V (G #[x,y,z,u]) q)(b:noPoly bs=true:=by rfl):
 Mem w (put4 V B x y z u) (bs.set i (some (B,.rat q))):=by
 obtain⟨_,_,_,_,_,_,_,_,a,_⟩:=M.rat h;obtain⟨_,d⟩:=M.1 i B _ h;exact M.repl h (.rat q) (cs:=#[x,y,z,u]) (a.put x y z u) c (λ_ _ _ g=>Row.put4 g a rfl rfl rfl rfl _ _ _ _) (far4 x y z u) (Jp M.2.2 d _ _ _ _) (Or.inl b) (Or.inl rfl)
theorem Mem.putRef(M:Mem w V bs)(h:bs[i]?=some (some (B,.ref q0)))(b:Jl V (G #[x,y,z,u]) q):
 Mem w (put4 V B x y z u) (bs.set i (some (B,.ref q))):=by
 obtain⟨_,_,_,_,_,_,_,_,a,_⟩:=M.ref h;obtain⟨_,c⟩:=M.1 i B _ h;exact M.repl h (.ref q) (cs:=#[x,y,z,u]) (a.put x y z u) b (λ_ _ _ g=>Row.put4 g a rfl rfl rfl rfl _ _ _ _) (far4 x y z u) (Jp M.2.2 c _ _ _ _) (Or.inr (Oc a DR rfl rfl rfl rfl x y z u)) (Or.inl rfl)
theorem Mem.zref{w V:E}{bs:List (Option (Nat × Dat))}(M:Mem w V bs){i B:Nat}(h:bs[i]?=some (some (B,.zref))):JE V B 49 (C Option.none 0 0) (F false) (C Option.none 0 0) (F false):=by
 obtain⟨⟨cs,b,a⟩,_⟩:=M.1 i B _ h;cases(show Value.agg cs=_ from a);exact b
theorem Mem.putZref(M:Mem w V bs)(h:bs[i]?=some (some (B,.zref)))(b:Jl V (G #[x,y,z,u]) q):
 Mem w (put4 V B x y z u) (bs.set i (some (B,.ref q))):=by
 have a:=M.zref h;obtain⟨_,c⟩:=M.1 i B _ h;exact M.repl h (.ref q) (cs:=#[x,y,z,u]) (a.put x y z u) b (λ_ _ _ g=>Row.put4 g a rfl rfl rfl rfl _ _ _ _) (far4 x y z u) (Jp M.2.2 c _ _ _ _) (Or.inr (Oc a DR rfl rfl rfl rfl x y z u)) (Or.inl rfl)
theorem Has.set2{v:D}(h:Has V v d)(q:Jj V B t x y)(c:Jw x=true)(e:Jw y=true)(b a:D)(f:d.noPoly=true:=by rfl):Has ((V.setCell ⟨B,0,Option.none⟩ b).setCell ⟨B,1,Option.none⟩ a) v d:=h.keep (keep2 q c e b a) (Or.inl f)
theorem Has.put4{V:E}{v:D}{d:Dat}(h:Has V v d){B:Nat}{t:TypeId}{x y z u:D}(q:JE V B t x y z u)(i:Jw x=true)(e:Jw y=true)(j:Jw z=true)(a:Jw u=true)(f b c k:D)(l:d.noPoly=true:=by rfl):Has (Go.Proofs.YtcahejkcdcjjgaaGreatDoor.put4 V B f b c k) v d:=h.keep (λ_ _ _ g=>Row.put4 g q i e j a _ _ _ _) (Or.inl l)
theorem Mem.ne(M:Mem w V bs)(i j:Nat){b:Nat}{a:Dat}(h:bs[i]?=some (some (B,d)))(f:bs[j]?=some (some (b,a)))(c:i≠j):B≠b:=λe=>by
 subst e;exact c (M.2.1 i j B d a h f)
theorem Mem.ge(M:Mem w V bs)(i:Nat)(h:bs[i]?=some (some (B,d))):w.heap.size<=B:=(M.1 i B d h).2
def Tup2(V:E)(t:D)(d1 a:Dat):Prop:=∃u1 u2,t=.tuple #[u1,u2,F true]/\Has V u1 d1/\Has V u2 a
theorem Tup2.below{V V':E}{t:D}{d1 a:Dat}(h:Tup2 V t d1 a)(b:Bl V V'):Tup2 V' t d1 a:=by
 obtain⟨u1,u2,e,d,c⟩:=h;exact⟨u1,u2,e,d.below b,c.below b⟩
theorem Tup2.alloc{V:E}{t:D}{d1 a:Dat}(h:Tup2 V t d1 a)(o:Obj):Tup2 (V.alloc o) t d1 a:=by
 obtain⟨u1,u2,e,c,b⟩:=h;exact⟨u1,u2,e,c.alloc o,b.alloc o⟩
theorem Tup2.set2{V:E}{v:D}{d1 c:Dat}(h:Tup2 V v d1 c){B:Nat}{t:TypeId}{x y:D}(q:Jj V B t x y)(f:Jw x=true)(d:Jw y=true)(b a:D)(i:d1.noPoly=true:=by rfl)(g:c.noPoly=true:=by rfl):Tup2 ((V.setCell ⟨B,0,Option.none⟩ b).setCell ⟨B,1,Option.none⟩ a) v d1 c:=by
 obtain⟨u1,u2,e,j,k⟩:=h;exact⟨u1,u2,e,j.set2 q f d b a i,k.set2 q f d b a g⟩
theorem Mem.rats{w V:E}{bs:List (Option (Nat × Dat))}(M:Mem w V bs){i B:Nat}{qs:List Rat}(h:bs[i]?=some (some (B,.rats qs))):Dp true V B qs:=by
 obtain⟨⟨cs,b,a⟩,_⟩:=M.1 i B _ h;obtain⟨c,e,a⟩:=a;cases e;exact⟨cs,b,a⟩
theorem Mem.putRats(M:Mem w V bs){qs:List Rat}(h:bs[i]?=some (some (B,.rats qs))){j:Nat}(n:j<qs.length)(N:Ji V (G #[x,y,z,u]) q)(O:noPoly bs=true:=by rfl):
 Mem w (putAt V B (j*4) x y z u) (bs.set i (some (B,.rats (qs.set j q)))):=by
 have o:=M.rats h;obtain⟨_,s⟩:=M.1 i B _ h;obtain⟨cs,c1,c2⟩:=Dp.set (r:=true) o n N;have L:=o.putKeep n x y z u;have m:i<bs.length:=(Ad.1 h).1;refine⟨λb d d1 a=>?_,λb k d d1 A J Q=>?_,OY M.2.2 s _ _ _ _⟩
 . by_cases c:i=b
   . subst c;rw[A4 m]at a;simp at a;obtain⟨rfl,rfl⟩:=a;exact⟨⟨cs,c1,cs,rfl,c2⟩,s⟩
   . rw[AN c]at a;obtain⟨⟨P,g,f⟩,v⟩:=M.1 b d d1 a;have t:d≠B:=λe=>c (by rw[e]at a;exact M.2.1 i b B _ d1 h a);exact⟨⟨P,(MD t x y z u).trans g,f.keep L (Or.inl (Oa O a))⟩,v⟩
 . have p:∀(b:Nat) d1,(bs.set i (some (B,.rats (qs.set j q))))[b]?=some (some (d,d1))->∃l,bs[b]?=some (some (d,l)):=λb d1 a=>by
    by_cases c:i=b
    . subst c;rw[A4 m]at a;simp at a;exact⟨_,by rw[h,a.1]⟩
    . rw[AN c]at a;exact⟨d1,a⟩
   obtain⟨l,g⟩:=p b d1 J;obtain⟨K,f⟩:=p k A Q;exact M.2.1 b k d l K g f
theorem Mem.cell{w V:E}{bs:List (Option (Nat × Dat))}(M:Mem w V bs){i B:Nat}{t:TypeId}{v:D}(h:bs[i]?=some (some (B,.cell t v))):Boxed V B t v/\Jw v=true:=by
 obtain⟨⟨cs,b,a⟩,_⟩:=M.1 i B _ h;obtain⟨e,a⟩:=a;cases e;exact⟨b,a⟩
theorem Mem.poly{w V:E}{bs:List (Option (Nat × Dat))}(M:Mem w V bs){i B:Nat}{ps:List Rat}(h:bs[i]?=some (some (B,.poly ps))):∃a l c,Boxed V B 25 (C a l c)/\RowK true V (C a l c) ps:=by
 obtain⟨⟨cs,d,b⟩,_⟩:=M.1 i B _ h;obtain⟨a,l,c,e⟩:=JC.form b;cases e;exact⟨a,l,c,d,JC.row b⟩
theorem UB(q:Boxed V B t x)(a:Jw x=true)(b:D):∀k v ds,Row k V v ds->Row k (V.setCell ⟨B,0,Option.none⟩ b) v ds:=
 λ_ _ _ h=>Row.set h q.cell a _
end M3
def Dr(W:E)(b:Nat)(xs:List Nat):Prop:=∃a:List D,W.heap[b]?=some (H (cellsOf .i64 xs++a).toArray 3 (0,0))
variable{a:Act}{K:Act->E->Prop}{f:Array Oper}{Q:Exit->Act->E->Prop}{bs d xs:List Nat}{b c i k:Nat}{o:Oper}{P:Program}{W W' w:E}
theorem Dr.lt(h:Dr W b xs):b<W.heap.size:=by obtain⟨_,h⟩:=h;exact(Ac.1 h).1
theorem Dr.cell{W:E}{b:Nat}{xs:List Nat}(h:Dr W b xs){j:Nat}(a:j<xs.length):W.cell? ⟨b,j,none⟩=some (.int .i64 (xs[j]?.getD 0:Nat)):=by
 obtain⟨c,h⟩:=h;have e:(cellsOf .i64 xs++c)[j]?=some (.int .i64 (xs[j]?.getD 0:Nat)):=by
  rw[AW (by rw[Yi];exact a)];simp[cellsOf,List.getElem?_eq_getElem a]
 simp[World.cell?,h,e]
theorem Dr.frozen{W:E}{b:Nat}{xs:List Nat}(h:Dr W b xs)(j:Nat):W.frozen? ⟨b,j,none⟩=false:=by obtain⟨_,h⟩:=h;simp[World.frozen?,h]
theorem Dr.of_block(h:Dr W b xs)(e:W'.heap[b]?=W.heap[b]?):Dr W' b xs:=by obtain⟨a,h⟩:=h;exact⟨a,e.trans h⟩
theorem Dr.kept{row:Option Nat}(h:Dr W b xs)(a:W.grownBy W' row)(c:some b≠row):Dr W' b xs:=h.of_block (a.block b h.lt c)
theorem Dr.below(h:Dr W b xs)(a:Bl W W'):Dr W' b xs:=h.of_block (a.block b h.lt)
theorem Dr.alloc{W:E}{b:Nat}{xs:List Nat}(h:Dr W b xs)(o:Obj):Dr (W.alloc o) b xs:=h.below (Ba W o)
theorem Dr.set{W:E}{b:Nat}{xs:List Nat}(h:Dr W b xs)(j v:Nat):Dr (W.setCell ⟨b,j,none⟩ (.int .i64 (v:Nat))) b (xs.set j v):=by
 obtain⟨d,h⟩:=h;obtain⟨g,f⟩:=Ac.1 h;have e:∃c,(cellsOf .i64 xs++d).set j (.int .i64 (v:Nat))=cellsOf .i64 (xs.set j v)++c:=by
  rcases AB j xs.length with a|a
  . exact⟨d,by rw[Fo _ _ (by rw[Yi];exact a)];simp[cellsOf,List.map_set]⟩
  . exact⟨_,by rw[Cr _ _ (by rw[Yi];exact a),CX a]⟩
 obtain⟨c,e⟩:=e;refine⟨c,?_⟩;show(W.heap.modify b _)[b]?=_;rw[AZ (by rw[Cz];exact g),Ce,f,<-e];simp
theorem Dr.made(h:W.heap[b]?=some (H (cellsOf .i64 xs).toArray 3 (0,0))):Dr W b xs:=⟨[],by rw[Cm];exact h⟩
theorem Dr.row(h:Dr W b xs)(off len cap:Nat)(f:off+len<=xs.length)(i:len<=cap)(c:cap<=9223372036854775807)(d:len<=1099511627776):Row .i64 W (C (some ⟨b,off,none⟩) len cap) ((xs.drop off).take len):=by
 have e:((xs.drop off).take len).length=len:=by rw[Ai,Ay];omega
 refine⟨_,cap,by rw[e],om,c,om,Or.inr ⟨b,off,rfl,(by obtain⟨g,h⟩:=h;exact⟨_,_,h⟩),λj a=>?_⟩⟩;rw[e]at a;rw[h.cell om,AH a,CC]
theorem UC(n:Nat):madeCells #[.int .i64 0] n=(cellsOf .i64 (List.replicate n 0)).toArray:=by
 apply Array.ext
 . simp[madeCells,cellsOf]
 . intro i b a;simp[madeCells,cellsOf,Nat.mod_one]
theorem Od(n:Nat)(h:n<=2199023255552)(w:E):(Instr.makeSlice 45 (.int .i64 (n:Int)) (.int .i64 (n:Int))).run I w=.ok (C (some ⟨w.heap.size,0,none⟩) n n) (w.alloc (H (cellsOf .i64 (List.replicate n 0)).toArray 3)):=by
 rw[<-UC];exact run_make_row' 45 3 (.int .i64 0) 8 Tryz.underlying45 Tryz.infoInt rfl .i64 .i64 n om om w
theorem ME(B:Nat):∀(D:List Nat) (j d:Nat),j<D.length->val B (D.set j d)+B^j*D[j]?.getD 0=val B D+B^j*d
 |[],_,_,h=>by cases h
 |x::D,0,d,_=>by simp[val];omega
 |x::D,j+1,d,h=>by
  have a:=ME B D j d (by simpa using h);simp only[List.set_cons_succ,val,Ae,AR];have e:B*val B (D.set j d)+B*(B^j*D[j]?.getD 0)=B*val B D+B*(B^j*d):=by rw[<-Av,a,Av]
  have c:B^j*B*D[j]?.getD 0=B*(B^j*D[j]?.getD 0):=by rw[As (B^j) B,Aw]
  have b:B^j*B*d=B*(B^j*d):=by rw[As (B^j) B,Aw]
  omega
theorem Oe(B n:Nat):val B (List.replicate n 0)=0:=by
 induction n with
 |zero=>rfl
 |succ n a=>rw[CS,val,a];simp
theorem DP.set{B:Nat}{D:List Nat}(h:DP B D)(j:Nat){d:Nat}(c:d<B):DP B (D.set j d):=λx b=>by
 rcases List.mem_or_eq_of_mem_set b with a|a
 . exact h x a
 . rw[a];exact c
def FT(a bs:List Nat)(i:Nat)(D:List Nat):Prop:=
 D.length=a.length+bs.length+1/\DP 10000 D/\val 10000 D=val 10000 (a.take i)*val 10000 bs
def FN(a bs:List Nat)(i k c:Nat)(D:List Nat):Prop:=
 D.length=a.length+bs.length+1/\DP 10000 D/\c<10000/\
  val 10000 D+10000^(i+k)*c=val 10000 (a.take i)*val 10000 bs+10000^i*(a[i]?.getD 0*val 10000 (bs.take k))
theorem FT.start(a bs:List Nat):FT a bs 0 (List.replicate (a.length+bs.length+1) 0):=
 ⟨Ar,λx b=>by rw[Cy b];omega,by rw[Oe];simp[val]⟩
theorem FT.inner{D:List Nat}(h:FT d bs i D):FN d bs i 0 0 D:=by
 obtain⟨c,b,a⟩:=h;refine⟨c,b,om,?_⟩;rw[a];simp[val]
theorem FN.total{D:List Nat}(h:FN d bs i k c D)(b:bs.length<=k):val 10000 D+10000^(i+k)*c=val 10000 (d.take (i+1))*val 10000 bs:=by
 obtain⟨_,_,_,a⟩:=h;rw[a,Ab b,Jq,AV,Aw]
theorem FN.done{D:List Nat}(h:FN d bs i k 0 D)(a:bs.length<=k):FT d bs (i+1) D:=by
 have:=h.total a;exact⟨h.1,h.2.1,om⟩
theorem FN.over{D:List Nat}(h:FN d bs i k c D)(j:DP 10000 d)(f:DP 10000 bs)(o:i<d.length)(n:bs.length<k):c=0:=by
 have m:=h.total om;have b:=Yd (j.take (i+1));have e:=Yd f;rw[Ai,Cx om]at b;have g:val 10000 (d.take (i+1))*val 10000 bs<10000^(i+1)*10000^bs.length:=Nat.mul_lt_mul'' b e;rw[<-CH]at g;have l:10000^(i+1+bs.length)<=10000^(i+k):=AD om om;rcases AQ c with a|a
 . exact a
 . have:=Az (10000^(i+k)) a;omega
theorem FN.step{D:List Nat}(h:FN d bs i k c D)(n:DP 10000 d)(j:DP 10000 bs)(f:i+k<D.length)(c1:Nat)(a:c1=c+D[i+k]?.getD 0+d[i]?.getD 0*bs[k]?.getD 0):
 FN d bs i (k+1) (c1/10000) (D.set (i+k) (c1%10000)):=by
 obtain⟨m,b,p,q⟩:=h;have x1:=n.getD om i;have o:=j.getD om k;have r:=b.getD om (i+k);have s:d[i]?.getD 0*bs[k]?.getD 0<=9999*9999:=Fx om om;refine⟨by rw[Ct];exact m,b.set _ (A9 _ om),om,?_⟩;have g:=ME 10000 D (i+k) (c1%10000) f;rw[Jq,Av,Av];have e:10000^(i+(k+1))*(c1/10000)+10000^(i+k)*(c1%10000)=10000^(i+k)*c1:=by
  rw[<-CJ,AR,Aw,<-Av,Cb]
 have l:10000^i*(d[i]?.getD 0*(10000^k*bs[k]?.getD 0))=10000^(i+k)*(d[i]?.getD 0*bs[k]?.getD 0):=by
  rw[CH,Aw];congr 1;rw[Nat.mul_left_comm]
 rw[a,Av,Av]at e;rw[l];rw[a]at g ⊢;omega
theorem FT.fin{D:List Nat}{m n:Nat}(h:FT d bs d.length D)(b:d=Jc 10000 m)(e:bs=Jc 10000 n):Jt D=Jc 10000 (m*n):=by
 obtain⟨_,c,a⟩:=h;rw[Ab (Aa _)]at a;rw[<-JU om c,a,b,e,Jm om,Jm om]
theorem Jj.keptG{B:Nat}{t:TypeId}{x y:D}{g:Nat}(h:Jj W B t x y)(a:W.grownBy W' (some g))(b:B≠g):Jj W' B t x y:=
 (a.block B h.lt (λe=>b (by cases e;rfl))).trans h
theorem UD{x y:Nat}(b:x<10000)(a:y<10000):x*y<=99980001/\IntKind.i64.wrap ((x:Int)*(y:Int))=((x*y:Nat):Int):=by
 have h:x*y<=9999*9999:=Fx om om;refine⟨om,?_⟩;have e:(x:Int)*(y:Int)=((x*y:Nat):Int):=by rw[C0]
 rw[e];generalize x*y=p at *;simp[IntKind.wrap,IntKind.signed,IntKind.bits];omega
theorem UE(a b:Option Addr)(j lb z J m n:Nat)(s t:Bool)(w:E)(ra:RN w (C a j z) m)(rb:RN w (C b lb J) n)(bm:j<=1000000000)(bh:lb<=1000000000):
 Calls I 109 #[G #[C a j z,F s],G #[C b lb J,F t]] w λe R=>∃c lc cc,e=.returned (G #[C c lc cc,F ((s != t)&&decide (0<lc))])/\RN R (C c lc cc) (m*n)/\Bl w R:=by
 obtain⟨W0,K⟩:=ex (((w.alloc (H #[C a j z,F s] 47)).alloc (H #[C b lb J,F t] 47)).alloc (H #[C none 0 0,F false] 47));have Ql:Bl w W0:=by rw[<-K];exact Y6 w _ _ _
 have b0:Jj W0 w.heap.size 47 (C a j z) (F s):=by rw[<-K];exact((Jj.new w _ _ _).alloc _).alloc _
 have b1:Jj W0 (w.heap.size+1) 47 (C b lb J) (F t):=by
  have h:=(Jj.new (w.alloc (H #[C a j z,F s] 47)) 47 (C b lb J) (F t)).alloc (H #[C none 0 0,F false] 47);rw[A1,K]at h;exact h
 have bR:Jj W0 (w.heap.size+1+1) 47 (C none 0 0) (F false):=by
  have h:=Jj.new ((w.alloc (H #[C a j z,F s] 47)).alloc (H #[C b lb J,F t] 47)) 47 (C none 0 0) (F false);rw[A1,A1,K]at h;exact h
 have Qk:W0.heap.size=w.heap.size+3:=by rw[<-K];simp
 obtain⟨ad,bd,bj,bt,af⟩:=Js ra;obtain⟨ae,bc,bi,bu,aj⟩:=Js rb;have HF:=Ja (λD (h:FT (Jc 10000 m) (Jc 10000 n) (Jc 10000 m).length D)=>h.fin (m:=m) (n:=n) rfl rfl);have T:=Jo (B:=10000) om m;have X:=Jo (B:=10000) om n;have S:=Od (j+lb+1) om W0;rw[show((j+lb+1:Nat):Int)=(j:Int)+(lb:Int)+1 from by omega]at S;obtain⟨q,A⟩:=ex (W0.alloc (H (cellsOf .i64 (List.replicate (j+lb+1) 0)).toArray 3));rw[A]at S;obtain⟨g,Y⟩:∃g,g=W0.heap.size:=⟨_,rfl⟩;rw[<-Y]at S Qk;have Qj:Dr q g (List.replicate (j+lb+1) 0):=by rw[<-A,Y];exact Dr.made (BC W0 _)
 have Q:Bl w q:=by rw[<-A];exact Ql.alloc Ql.size _
 have q0:Jj q w.heap.size 47 (C a j z) (F s):=by rw[<-A];exact b0.alloc _
 have q1:Jj q (w.heap.size+1) 47 (C b lb J) (F t):=by rw[<-A];exact b1.alloc _
 have qR:Jj q (w.heap.size+1+1) 47 (C none 0 0) (F false):=by rw[<-A];exact bR.alloc _
 have k0:=b0.c0;have k1:=b1.c0;have HS:=Ja (FT.start (Jc 10000 m) (Jc 10000 n));generalize Jc 10000 m=V at *;generalize Jc 10000 n=M at *;obtain⟨H1,H2,U,N⟩:=D3 af aj ad ae;rw[<-ad,<-ae]at HS;have az:w.heap.size+2<g:=om
 clear Qk;clear af aj ad ae ra rb A Y b0 b1 bR;go_enter Tryz.func109,Tryz.ntmps109
 go_wp2;clear K S k0 k1;go_loopw [6] (λiv wr=>∃(i:Nat) (D:List Nat),iv=.int .i64 i/\i<=j/\Hid (FT V M i D)/\Dr wr g D/\q.grownBy wr (some g))
  (λiv _=>j-(intOf iv).toNat)
 case atStart=>exact⟨0,_,rfl,AX _,HS.o,Qj,Yw _ _⟩
 case round=>
  clear HS Qj;obtain⟨i,D,rfl,hi,P,l,f⟩:=hrel;have m0:=(q0.keptG f om).c0;have m1:=(q0.keptG f om).c1;have m2:=(q1.keptG f om).c0;have m3:=(q1.keptG f om).c1;by_cases an:i<j
  . have HI:=Ja P.o.inner;clear P;obtain⟨ab,ao,rfl,aq,ak⟩:=H1.o i an;go_wp2;go_loopw [7,8] (λcv kv wr=>∃(c k:Nat) (D:List Nat),cv=.int .i64 c/\kv=.int .i64 k/\k<=lb+1/\c<10000/\Hid (FN V M i k c D)/\Dr wr g D/\q.grownBy wr (some g))
     (λ_ kv _=>lb+2-(intOf kv).toNat)
    case atStart=>exact⟨0,0,D,rfl,rfl,om,om,HI,l,f⟩
    case round=>
     clear HI l f m0 m1 m2 m3;obtain⟨c,k,D,rfl,rfl,hk,hc,r,l,f⟩:=hrel;have m0:=(q0.keptG f om).c0;have m2:=(q1.keptG f om).c0;have Qg:=r.o.1;rw[<-U.o,<-N.o]at Qg;by_cases ay:k<lb
     . obtain⟨bb,bo,rfl,aw,ap⟩:=H2.o k ay;have bk:wr.cell? ⟨ab,ao+i,none⟩=some (.int .i64 (V[i]?.getD 0:Nat)):=(BR (w:=q) (f.block ab (by have:=Q.size;omega) (λe=>by cases e;omega))).trans ((Q.cell (p:=⟨ab,ao+i,none⟩) aq).trans ak);have bf:wr.cell? ⟨bb,bo+k,none⟩=some (.int .i64 (M[k]?.getD 0:Nat)):=(BR (w:=q) (f.block bb (by have:=Q.size;omega) (λe=>by cases e;omega))).trans ((Q.cell (p:=⟨bb,bo+k,none⟩) aw).trans ap);have Qo:wr.cell? ⟨g,i+k,none⟩=some (.int .i64 (D[i+k]?.getD 0:Nat)):=l.cell om;have Qn:=l.frozen (i+k);have y1:=T.getD om i;have y2:=X.getD om k;have y3:=r.o.2.1.getD om (i+k);have L:=Ja (r.o.step T X om _ rfl);obtain⟨z1,z2⟩:=UD y1 y2;generalize V[i]?.getD 0=x at *;generalize M[k]?.getD 0=y at *;generalize D[i+k]?.getD 0=d at *;generalize x*y=p at *;clear ak ap;go_upto_region 11 with fail
       go_quiet (fail)
       go_wp2;have Z:((c:Int)+(d:Int)+(p:Int))%10000=(((c+d+p)%10000:Nat):Int):=om
       rw[Z];exact⟨⟨(c+d+p)/10000,k+1,D.set (i+k) ((c+d+p)%10000),by go_num,DO,om,L.o.2.2.1,L,Dr.set (W:=wr.drewN nq) l _ _,Jf (B:=wr.drewN nq) ⟨f.os,f.tape,f.output,f.size,f.block⟩ (JD _ _ _ _)⟩,by simp[intOf];omega⟩
     . rcases AQ c with ah|ah
       . subst ah;have HN:=Ja (r.o.done (by rw[<-N.o];omega));clear r;go_wp2;exact⟨⟨i+1,D,DO,om,HN,l,f⟩,by simp[intOf];omega⟩
       . have bg:k<=lb:=by
          rcases AB lb k with h|h
          . have:=r.o.over T X (by rw[<-U.o];exact an) (by rw[<-N.o];exact h);omega
          . exact h
         have Qo:wr.cell? ⟨g,i+k,none⟩=some (.int .i64 (D[i+k]?.getD 0:Nat)):=l.cell om;have Qn:=l.frozen (i+k);have y3:=r.o.2.1.getD om (i+k);have Qh:M[k]?.getD 0=0:=by rw[Aq (by rw[<-N.o];omega)];rfl
         have L:=Ja (r.o.step T X om _ rfl);rw[Qh,Cq,Cd]at L;clear Qh;generalize D[i+k]?.getD 0=d at *;go_wp2;have Z:((c:Int)+(d:Int))%10000=(((c+d)%10000:Nat):Int):=om
         rw[Z];exact⟨⟨(c+d)/10000,k+1,D.set (i+k) ((c+d)%10000),by go_num,DO,om,L.o.2.2.1,L,Dr.set l _ _,Jf f (JD _ _ _ _)⟩,by simp[intOf];omega⟩
  . obtain rfl:i=j:=om
    have Qf:Row .i64 wr (C (some ⟨g,0,none⟩) (i+lb+1) (i+lb+1)) D:=by
     have Qg:=P.o.1;rw[<-U.o,<-N.o]at Qg;have h1:=l.row 0 (i+lb+1) (i+lb+1) om (Aa _) om om;rwa[Au,Ab om]at h1
    have Qm:=Ja (HF.o D (by rw[<-U.o];exact P.o));have Qi:Bl w wr:=below_grown Q f om;have rR:=qR.keptG f om;have p0:=q0.keptG f om;have p1:=q1.keptG f om;clear P HF H1 H2;go_upto_region 14 with fail
    have o:Bl wr wr.drew:=(BB _ wr).drew;have bn:¬(w.heap.size=w.heap.size+1+1):=om
    go_region_held3 (λR=>R.cell? ⟨w.heap.size,1,none⟩=some (F s)/\R.cell? ⟨w.heap.size+1,1,none⟩=some (F t)) (refine⟨?_,?_⟩<;>(first|(go_keep;done)|((repeat rw[JH om]);simp[*];done)))
     (first
      |(go_at_call 140;refine(Hc _ D _ (Row.below Qf o)).mono ?_;rintro e w1 ⟨u,rfl,O,rfl⟩;rw[Qm.o]at O;obtain⟨a',c',rfl⟩:=RN.form O)
      |(go_at_call 141;refine(GV _ _ _ _ _).mono ?_;rintro e w2 ⟨rfl,ai⟩;have O:=Row.below O ai;have o:=Bt o ai;have m1:=(p0.below o).c1;have m3:=(p1.below o).c1;obtain⟨r0,r1⟩:=(rR.below o).cp;obtain⟨f0,f1⟩:=(rR.below o).fp))
    all_goals go_wp2_with fail
    obtain⟨hr,av⟩:=J5 (C a' (Jc 10000 (m*n)).length c') (F (!(s==t)&&decide (0<(Jc 10000 (m*n)).length))) (Bt Qi o) om (rR.below o) rfl rfl O;exact BA (v:=G #[C a' (Jc 10000 (m*n)).length c',F (!(s==t)&&decide (0<(Jc 10000 (m*n)).length))]) (by simp[results,Tryz.results109,go_sem,r0,r1]) rfl ⟨_,_,_,rfl,hr,av⟩
theorem Gi(o l:D)(x y:Int)(w:E)(v:Jr w o x)(t:Jr w l y)(q:EA x<=1000000000)(B:EA y<=1000000000):
 Calls I 109 #[o,l] w λe j=>∃u,e=.returned u/\Jr j u (x*y)/\Bl w j:=by
 obtain⟨a,J,A,rfl,n⟩:=v;obtain⟨b,lb,r,rfl,k⟩:=t;have M:=(Js n).1;have N:=(Js k).1;unfold EA at q B;refine(UE a b J lb A r _ _ _ _ w n k om om).mono ?_;rintro e j ⟨c,i,K,rfl,m,s⟩;refine⟨_,rfl,⟨c,i,K,?_,?_⟩,s⟩
 . have hl:=(Js m).1;have p:((decide (x<0) != decide (y<0))&&decide (0<i))=decide (x*y<0):=by
    rw[Cn];simp only[AA,BQ];have z:0<i↔x.natAbs*y.natAbs≠0:=by
     rw[hl,A3,Ne,JB om]
    rw[z];rcases Fj x 0 with d|d|d<;>rcases Fj y 0 with f|f|f
    . have:=Int.mul_pos_of_neg_of_neg d f;simp[d,f];omega
    . subst f;simp
    . have:=Int.mul_neg_of_neg_of_pos d f;have g:¬y<0:=om
      simp only[d,g,DE,B3,this,iff_true];exact⟨rfl,Ft om om⟩
    . subst d;simp
    . subst d;simp
    . subst d;simp
    . have:=Int.mul_neg_of_pos_of_neg d f;have g:¬x<0:=om
      simp only[f,g,DE,B3,this,iff_true];exact⟨rfl,Ft om om⟩
    . subst f;simp
    . have:=Int.mul_pos d f;have g:¬x<0:=om
      have L:¬y<0:=om
      simp[g,L];omega
   rw[p]
 . rw[Int.natAbs_mul];exact m
theorem Ke{n:Int}(b:-9223372036854775808<=n)(c:n<=9223372036854775807):EA n<=1000000000:=by
 have a:(10000:Nat)^5=100000000000000000000:=DR
 have d:=JI (B:=10000) om (n:=n.natAbs) (k:=5) om;unfold EA;omega
theorem J2(c:f[i]?=some o)(d:Region.wanted o (yielded f a.tmps)=true)
(h:∀b:Act->E->Prop,(∀a w,K a w->b a w)->o.wp P a w b Q):wpOp P f Q i K a w:=by
 unfold wpOp;rw[c];simp only[d,if_true];exact Or.inl (h K (λ_ _ h=>h))
theorem EQ{p q:Prop}(k:q)(h:Hid q->p:=by intro x;refine J2 rfl rfl λK a=>?_;go_simp;refine a _ _ ?_;(repeat apply Exists.intro);refine ⟨rfl,?_⟩;exact x.o):p:=h k
theorem Yh(b:f[i]?=some o)(c:Region.wanted o (yielded f a.tmps)=false)
(h:K (a.put o.dst undef) w):wpOp P f Q i K a w:=by
 unfold wpOp;rw[b];simp only[c];exact h

