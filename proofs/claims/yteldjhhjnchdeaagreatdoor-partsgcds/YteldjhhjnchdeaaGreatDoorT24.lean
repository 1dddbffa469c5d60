import Derived.Test.YteldjhhjnchdeaaGreatDoorT20
import Derived.Test.YteldjhhjnchdeaaGreatDoorT15
import Derived.Test.YteldjhhjnchdeaaGreatDoorT16
import Derived.Test.YteldjhhjnchdeaaGreatDoorT06
import Derived.Lib.SliceRun
import Derived.Deep.OwnRows
import Derived.Test.YteldjhhjnchdeaaGreatDoorT23
open Go.Value renaming slice->C,bool->F,agg->H
open Go renaming World->E,Value->D
open Go.Obj renaming cells->G
open Go.Proofs.Tryz renaming prog->I
set_option maxRecDepth 100000
set_option maxHeartbeats 16000000
namespace Go.Proofs.YteldjhhjnchdeaaGreatDoor
open Go.RowKit Go.Shelf
section
variable{z:Int}{v:D}{W:E}
theorem ZJ(a:Option Addr)(cap:Nat)(w:E):
 Calls I 107 #[H #[F false,C a 0 cap]] w λe b=>e=.returned (.string ⟨#[48]⟩)/\Bl w b:=by
 have b0:=Jn.new w 63 (F false) (C a 0 cap);have c:=b0.c1;go_enter Tryz.func107,Tryz.ntmps107
 go_wp2;go_ret;exact⟨rfl,Ba w _⟩
theorem ZK(s:Bool)(a:Option Addr)(l cap:Nat)(T:ByteArray)(w:E)(hl:0<l)(m:T.size<=100000000000000)
(d:∀V,Bl w V->Calls I 134 #[C a l cap] V λe b=>e=.returned (.string T)/\Bl V b):
 Calls I 107 #[H #[F s,C a l cap]] w λe b=>e=.returned (.string (if s then(⟨#[45]⟩:ByteArray)++T else T))/\Bl w b:=by
 have b0:=Jn.new w 63 (F s) (C a l cap);have c:Bl w (w.alloc (G #[F s,C a l cap] 63)):=Ba w _;obtain⟨j,i⟩:=b0.cp;have g:=Ja d;clear d;cases s;all_goals
  go_enter Tryz.func107,Tryz.ntmps107
  go_wp2_with(go_at_call 134;refine(g.o _ c).mono ?_;rintro e k ⟨rfl,f⟩)
  go_ret;exact⟨DQ,Bt c f⟩
theorem Im(n:Nat):(Xm n).length<=20*(Jc DR n).length+1:=by
 unfold Xm;split
 . simp
 . rw[PA];have a:n<DR^(Jc DR n).length:=by
    have:=Yi (Jp Jf n);rwa[Jo Jf]at this
   have b:DR^(Jc DR n).length<=10^(20*(Jc DR n).length):=by
    rw[FI];exact CS uo _
   have:=JJ (B:=10) om (AC a b);omega
theorem OD(v:D)(z:Int)(w:E)(h:Jl w v z)(i:Lib.TabIs I w "internal/strconv.uint64pow10" .u64 Lib.pow10Tab):
 Calls I 107 #[v] w λe g=>e=.returned (.string ⟨(YU z).toArray⟩)/\Bl w g:=by
 obtain⟨a,l,cap,rfl,c⟩:=h;have hl:=c.len;by_cases d:z.natAbs=0
 . have b:z=0:=om
   subst b;have j:l=0:=by rw[hl];simp[Jy]
   subst j;exact ZJ a cap w
 . have k:0<l:=by rw[hl];exact NU.2 d
   refine(ZK _ a l cap ⟨(Xm z.natAbs).toArray⟩ w k (by
    have n:=Im z.natAbs;have o:=(Ju c).2.2.2.1;show(Xm z.natAbs).toArray.size<=_;rw[An];omega) (λV f=>WW a l cap z.natAbs V (Row.below c f) d (Yq i f))).mono ?_
   rintro e g ⟨rfl,m⟩;refine⟨?_,m⟩;congr 2;unfold YU;by_cases b:z<0
   . simp only[b,DI,if_true];exact Lh _ _
   . simp only[b,DA,if_false,A9]
attribute [local go_sem] Oper.semAt_some
theorem Jl.form(h:Jl W v z):∃a l cap,v=H #[F (decide (z<0)),C a l cap]:=by
 obtain⟨a,l,cap,e,_⟩:=h;exact⟨a,l,cap,e⟩
theorem Jl.alloc{W:E}{v:D}{z:Int}(h:Jl W v z)(o:Obj):Jl (W.alloc o) v z:=h.below (Ba W o)
theorem Jl.box{R:Nat}{t:TypeId}{u0 u1 x0 x1:D}(h:Jl W v z)(q:Jn W R t u0 u1)(n0:Jz u0=true)(b:Jz u1=true):Jl ((W.setCell ⟨R,0,none⟩ x0).setCell ⟨R,1,none⟩ x1) v z:=by
 obtain⟨a,l,cap,e,c⟩:=h;exact⟨a,l,cap,e,Row.set (Row.set c q.c0 n0 _) (u0:=u1) (q.set0 x0).c1 b _⟩
end
section
def JK(W:E)(B:Nat)(t:TypeId)(x y z u:D):Prop:=W.heap[B]?=some (G #[x,y,z,u] t (0,0))
section
variable {W W':World} {B:Nat} {t:TypeId} {x y z u:Value}
theorem JK.lt(h:JK W B t x y z u):B<W.heap.size:=(Ab.1 h).1
theorem JK.c0(h:JK W B t x y z u):W.cell? ⟨B,0,none⟩=some x:=by simp[World.cell?,show W.heap[B]?=_ from h]
theorem JK.c1(h:JK W B t x y z u):W.cell? ⟨B,1,none⟩=some y:=by simp[World.cell?,show W.heap[B]?=_ from h]
theorem JK.cp(h:JK W B t x y z u):type_of% (And.intro h.c0 h.c1):=⟨h.c0,h.c1⟩
theorem JK.c2(h:JK W B t x y z u):W.cell? ⟨B,2,none⟩=some z:=by simp[World.cell?,show W.heap[B]?=_ from h]
theorem JK.c3(h:JK W B t x y z u):W.cell? ⟨B,3,none⟩=some u:=by simp[World.cell?,show W.heap[B]?=_ from h]
theorem JK.cq(h:JK W B t x y z u):type_of% (And.intro h.c0 (And.intro h.c1 (And.intro h.c2 h.c3))):=⟨h.c0,h.c1,h.c2,h.c3⟩
theorem JK.f0(h:JK W B t x y z u):W.frozen? ⟨B,0,none⟩=false:=by simp[World.frozen?,show W.heap[B]?=_ from h]
theorem JK.f1(h:JK W B t x y z u):W.frozen? ⟨B,1,none⟩=false:=by simp[World.frozen?,show W.heap[B]?=_ from h]
theorem JK.fp(h:JK W B t x y z u):type_of% (And.intro h.f0 h.f1):=⟨h.f0,h.f1⟩
theorem JK.f2(h:JK W B t x y z u):W.frozen? ⟨B,2,none⟩=false:=by simp[World.frozen?,show W.heap[B]?=_ from h]
theorem JK.f3(h:JK W B t x y z u):W.frozen? ⟨B,3,none⟩=false:=by simp[World.frozen?,show W.heap[B]?=_ from h]
theorem JK.fq(h:JK W B t x y z u):type_of% (And.intro h.f0 (And.intro h.f1 (And.intro h.f2 h.f3))):=⟨h.f0,h.f1,h.f2,h.f3⟩
theorem JK.new(W:E)(t:TypeId)(x y z u:D):JK (W.alloc (G #[x,y,z,u] t)) W.heap.size t x y z u:=BE W _
theorem JK.below(h:JK W B t x y z u)(a:Bl W W'):JK W' B t x y z u:=(a.block B h.lt).trans h
theorem JK.alloc(h:JK W B t x y z u)(o:Obj):JK (W.alloc o) B t x y z u:=h.below (Ba W o)
theorem JK.set0(h:JK W B t x y z u)(v:D):JK (W.setCell ⟨B,0,none⟩ v) B t v y z u:=by
 obtain⟨b,a⟩:=Ab.1 h;show(W.heap.modify B _)[B]?=_;rw[Ca (by rw[CI];exact b),Cj,a];rfl
theorem JK.set1(h:JK W B t x y z u)(v:D):JK (W.setCell ⟨B,1,none⟩ v) B t x v z u:=by
 obtain⟨b,a⟩:=Ab.1 h;show(W.heap.modify B _)[B]?=_;rw[Ca (by rw[CI];exact b),Cj,a];rfl
theorem JK.set2(h:JK W B t x y z u)(v:D):JK (W.setCell ⟨B,2,none⟩ v) B t x y v u:=by
 obtain⟨b,a⟩:=Ab.1 h;show(W.heap.modify B _)[B]?=_;rw[Ca (by rw[CI];exact b),Cj,a];rfl
theorem JK.set3(h:JK W B t x y z u)(v:D):JK (W.setCell ⟨B,3,none⟩ v) B t x y z v:=by
 obtain⟨b,a⟩:=Ab.1 h;show(W.heap.modify B _)[B]?=_;rw[Ca (by rw[CI];exact b),Cj,a];rfl
theorem JK.far(h:JK W B t x y z u){p:Addr}(hp:B≠p.block)(v:D):JK (W.setCell p v) B t x y z u:=(BD W p v B hp).trans h
end
def put4(W:E)(B:Nat)(x y z u:D):E:=(((W.setCell ⟨B,0,none⟩ x).setCell ⟨B,1,none⟩ y).setCell ⟨B,2,none⟩ z).setCell ⟨B,3,none⟩ u
variable{B:Nat}{t:TypeId}{u x y z:D}{W:E}
theorem JK.put(h:JK W B t x y z u)(c a d b:D):JK (put4 W B c a d b) B t c a d b:=(((h.set0 c).set1 a).set2 d).set3 b
theorem JK.putFar{C:Nat}(h:JK W B t x y z u)(a:B≠C)(d b e c:D):JK (put4 W C d b e c) B t x y z u:=(((h.far a d).far a b).far a e).far a c
theorem Jt{n:Nat}{w:E}(h:Below n w W)(a:n<=B)(x y z u:D):Below n w (put4 W B x y z u):=(((h.setCell (p:=⟨B,0,none⟩) a _).setCell (p:=⟨B,1,none⟩) a _).setCell (p:=⟨B,2,none⟩) a _).setCell (p:=⟨B,3,none⟩) a _
theorem Row.put4{k:IntKind}{v:D}{ds:List Nat}(h:Row k W v ds)(q:JK W B t x y z u)(n0:Jz x=true)(f:Jz y=true)(d:Jz z=true)(g:Jz u=true)(a b c e:D):Row k (put4 W B a b c e) v ds:=
 Row.set (Row.set (Row.set (Row.set h q.c0 n0 _) (q.set0 a).c1 f _) ((q.set0 a).set1 b).c2 d _) (((q.set0 a).set1 b).set2 c).c3 g _
theorem Jl.put4{W:E}{v:D}{i:Int}(h:Jl W v i){B:Nat}{t:TypeId}{x y z u:D}(q:JK W B t x y z u)(n0:Jz x=true)(f:Jz y=true)(b:Jz z=true)(j:Jz u=true)(m k d c:D):Jl (put4 W B m k d c) v i:=by
 obtain⟨a,l,cap,e,g⟩:=h;exact⟨a,l,cap,e,Row.put4 g q n0 f b j _ _ _ _⟩
theorem Jr.put4{W:E}{v:D}{i:Int}(h:Jr W v i){B:Nat}{t:TypeId}{x y z u:D}(q:JK W B t x y z u)(n0:Jz x=true)(f:Jz y=true)(b:Jz z=true)(j:Jz u=true)(m k d c:D):Jr (put4 W B m k d c) v i:=by
 obtain⟨a,l,cap,e,g⟩:=h;exact⟨a,l,cap,e,Row.put4 g q n0 f b j _ _ _ _⟩
def Jj(W:E)(v:D)(q:Rat):Prop:=∃s a l c t b k d,v=H #[F s,C a l c,F t,C b k d]/\Jl W (H #[F s,C a l c]) q.num/\Jl W (H #[F t,C b k d]) (EA q)
theorem Jj.below{W W':E}{v:D}{q:Rat}(h:Jj W v q)(f:Bl W W'):Jj W' v q:=by
 obtain⟨s,a,l,c,t,b,k,d,e,g,i⟩:=h;exact⟨s,a,l,c,t,b,k,d,e,g.below f,i.below f⟩
theorem Jj.put4{W:E}{v:D}{p:Rat}(h:Jj W v p){B:Nat}{t:TypeId}{x y z u:D}(q:JK W B t x y z u)(n0:Jz x=true)(g:Jz y=true)(f:Jz z=true)(i:Jz u=true)(r o n j:D):Jj (put4 W B r o n j) v p:=by
 obtain⟨s,a,l,c,t,b,k,d,e,m,w⟩:=h;exact⟨s,a,l,c,t,b,k,d,e,m.put4 q n0 g f i _ _ _ _,w.put4 q n0 g f i _ _ _ _⟩
def Js(W:E)(v:D)(q:Rat):Prop:=∃a l c s b k d t,v=H #[C a l c,F s,C b k d,F t]/\Jr W (H #[C a l c,F s]) q.num/\Jr W (H #[C b k d,F t]) (q.den:Int)
theorem Js.below{W W':E}{v:D}{q:Rat}(h:Js W v q)(f:Bl W W'):Js W' v q:=by
 obtain⟨s,a,l,c,t,b,k,d,e,g,i⟩:=h;exact⟨s,a,l,c,t,b,k,d,e,g.below f,i.below f⟩
theorem Js.put4{W:E}{v:D}{p:Rat}(h:Js W v p){B:Nat}{t:TypeId}{x y z u:D}(q:JK W B t x y z u)(n0:Jz x=true)(g:Jz y=true)(f:Jz z=true)(i:Jz u=true)(r o n j:D):Js (put4 W B r o n j) v p:=by
 obtain⟨s,a,l,c,t,b,k,d,e,m,w⟩:=h;exact⟨s,a,l,c,t,b,k,d,e,m.put4 q n0 g f i _ _ _ _,w.put4 q n0 g f i _ _ _ _⟩
end
section
inductive Dat
 |int(z:Int)
 |rat(q:Rat)
 |big(z:Int)
 |ref(q:Rat)
 |zref
 |pair(x y:Int)
def Dat.ty:Dat->TypeId
 |.int _=>63
 |.rat _=>65
 |.big _=>83
 |.ref _=>85
 |.zref=>85
 |.pair _ _=>65
def Gz(W:E)(v:D)(x y:Int):Prop:=∃s a l c t b k d,v=H #[F s,C a l c,F t,C b k d]/\Jl W (H #[F s,C a l c]) x/\Jl W (H #[F t,C b k d]) y
variable{cs:Array D}{r:Bool}{d:Dat}{A z:Int}{bs:List (Option (Nat × Dat))}{qs:List Rat}{B b i j n o:Nat}{m:Nat × Nat}{q:Rat}{t:TypeId}{u u0 v x x0 y:D}{V V' W w:E}
theorem Jj.pair(h:Jj W v q):Gz W v q.num (EA q):=h
theorem Gz.below{W W':E}{v:D}{x y:Int}(h:Gz W v x y)(f:Bl W W'):Gz W' v x y:=by
 obtain⟨s,a,l,c,t,b,k,d,e,g,i⟩:=h;exact⟨s,a,l,c,t,b,k,d,e,g.below f,i.below f⟩
def Has(V:E)(v:D):Dat->Prop
 |.int z=>Jl V v z
 |.rat q=>Jj V v q
 |.big z=>Jr V v z
 |.ref q=>Js V v q
 |.zref=>v=H #[C none 0 0,F false,C none 0 0,F false]
 |.pair x y=>Gz V v x y
theorem Has.below{V V':E}{v:D}{d:Dat}(h:Has V v d)(a:Bl V V'):Has V' v d:=by
 cases d with
 |int z=>exact Jl.below h a
 |rat q=>exact Jj.below h a
 |big z=>exact Jr.below h a
 |ref q=>exact Js.below h a
 |zref=>exact h
 |pair x y=>exact Gz.below h a
theorem Has.alloc{V:E}{v:D}{d:Dat}(h:Has V v d)(o:Obj):Has (V.alloc o) v d:=h.below (Ba V o)
theorem Has.keep(h:Has V v d)(f:∀k v ds,Row k V v ds->Row k V' v ds):Has V' v d:=by
 cases d with
 |zref=>exact h
 |pair x y=>
  obtain⟨s,a,l,c,t,b,k,d,e,⟨i,l1,c1,j,g⟩,⟨o,l2,c2,n,m⟩⟩:=h;exact⟨s,a,l,c,t,b,k,d,e,⟨i,l1,c1,j,f _ _ _ g⟩,⟨o,l2,c2,n,f _ _ _ m⟩⟩
 |int z=>obtain⟨a,l,c,e,p⟩:=h;exact⟨a,l,c,e,f _ _ _ p⟩
 |big z=>obtain⟨a,l,c,e,p⟩:=h;exact⟨a,l,c,e,f _ _ _ p⟩
 |rat q=>
  obtain⟨s,a,l,c,t,b,k,d,e,⟨i,l1,c1,j,g⟩,⟨o,l2,c2,n,m⟩⟩:=h;exact⟨s,a,l,c,t,b,k,d,e,⟨i,l1,c1,j,f _ _ _ g⟩,⟨o,l2,c2,n,f _ _ _ m⟩⟩
 |ref q=>
  obtain⟨s,a,l,c,t,b,k,d,e,⟨i,l1,c1,j,g⟩,⟨o,l2,c2,n,m⟩⟩:=h;exact⟨s,a,l,c,t,b,k,d,e,⟨i,l1,c1,j,f _ _ _ g⟩,⟨o,l2,c2,n,f _ _ _ m⟩⟩
def Bx(V:E)(B:Nat)(t:TypeId)(cs:Array D):Prop:=V.heap[B]?=some (G cs t (0,0))
theorem Bx.lt(h:Bx V B t cs):B<V.heap.size:=(Ab.1 h).1
theorem Bx.below(h:Bx V B t cs)(a:Bl V V'):Bx V' B t cs:=(a.block B h.lt).trans h
theorem Bx.far(h:Bx V B t cs){p:Addr}(hp:B≠p.block)(u:D):Bx (V.setCell p u) B t cs:=(BD V p u B hp).trans h
def Mem(w V:E)(bs:List (Option (Nat × Dat))):Prop:=
 (∀(i:Nat) B d,bs[i]?=some (some (B,d))->(∃cs,Bx V B d.ty cs/\Has V (H cs) d)/\w.heap.size<=B)/\
 (∀(i j:Nat) B d a,bs[i]?=some (some (B,d))->bs[j]?=some (some (B,a))->i=j)/\Bl w V
theorem Mem.nil(w:E):Mem w w []:=⟨λi B z h=>by simp at h,λi j B z a h=>by simp at h,BB _ w⟩
theorem Mem.int{w V:E}{bs:List (Option (Nat × Dat))}(M:Mem w V bs){i B:Nat}{z:Int}(h:bs[i]?=some (some (B,.int z))):∃s a l c,Jn V B 63 (F s) (C a l c)/\Jl V (H #[F s,C a l c]) z:=by
 obtain⟨⟨cs,b,f⟩,_⟩:=M.1 i B _ h;obtain⟨a,l,c,e,d⟩:=f;cases e;exact⟨_,a,l,c,b,a,l,c,rfl,d⟩
theorem Mem.big{w V:E}{bs:List (Option (Nat × Dat))}(M:Mem w V bs){i B:Nat}{z:Int}(h:bs[i]?=some (some (B,.big z))):∃a l c s,Jn V B 83 (C a l c) (F s)/\Jr V (H #[C a l c,F s]) z:=by
 obtain⟨⟨cs,b,f⟩,_⟩:=M.1 i B _ h;obtain⟨a,l,c,e,d⟩:=f;cases e;exact⟨a,l,c,_,b,a,l,c,rfl,d⟩
theorem Mem.rat{w V:E}{bs:List (Option (Nat × Dat))}(M:Mem w V bs){i B:Nat}{q:Rat}(h:bs[i]?=some (some (B,.rat q))):
 ∃s a l c t b k d,JK V B 65 (F s) (C a l c) (F t) (C b k d)/\Jj V (H #[F s,C a l c,F t,C b k d]) q/\Jl V (H #[F s,C a l c]) q.num/\Jl V (H #[F t,C b k d]) (EA q):=by
 obtain⟨⟨cs,g,f⟩,_⟩:=M.1 i B _ h;have n:=f;obtain⟨s,a,l,c,t,b,k,d,e,m,j⟩:=f;cases e;exact⟨s,a,l,c,t,b,k,d,g,n,m,j⟩
theorem Mem.ref{w V:E}{bs:List (Option (Nat × Dat))}(M:Mem w V bs){i B:Nat}{q:Rat}(h:bs[i]?=some (some (B,.ref q))):
 ∃a l c s b k d t,JK V B 85 (C a l c) (F s) (C b k d) (F t)/\Js V (H #[C a l c,F s,C b k d,F t]) q/\Jr V (H #[C a l c,F s]) q.num/\Jr V (H #[C b k d,F t]) (q.den:Int):=by
 obtain⟨⟨cs,g,f⟩,_⟩:=M.1 i B _ h;have n:=f;obtain⟨s,a,l,c,t,b,k,d,e,m,j⟩:=f;cases e;exact⟨s,a,l,c,t,b,k,d,g,n,m,j⟩
theorem Mem.below{w V V':E}{bs:List (Option (Nat × Dat))}(M:Mem w V bs)(a:Bl V V'):Mem w V' bs:=
 ⟨λi B z h=>by
  obtain⟨⟨cs,b,c⟩,d⟩:=M.1 i B z h;exact⟨⟨cs,b.below a,c.below a⟩,d⟩,M.2.1,Bt M.2.2 a⟩
theorem Mem.drew{w V:E}{bs:List (Option (Nat × Dat))}(M:Mem w V bs):Mem w V.drew bs:=M.below ((BB _ V).drew)
theorem Mem.sub{cs:List (Option (Nat × Dat))}(M:Mem w V bs)(f:Nat->Nat)(b:∀(i j:Nat),f i=f j->i=j)(h:∀(i:Nat) x,cs[i]?=some (some x)->bs[f i]?=some (some x)):Mem w V cs:=
 ⟨λi B d a=>M.1 (f i) B d (h i _ a),λi j B d c a e=>b i j (M.2.1 (f i) (f j) B d c (h i _ a) (h j _ e)),M.2.2⟩
theorem Mem.take{w V:E}{bs:List (Option (Nat × Dat))}(M:Mem w V bs)(n:Nat):Mem w V (bs.take n):=by
 refine M.sub id (λ_ _ h=>h) (λi x h=>?_);rw[Fq]at h;split at h
 . exact h
 . cases h
theorem Mem.none{w V:E}{bs:List (Option (Nat × Dat))}(M:Mem w V bs):Mem w V (bs++[Option.none]):=by
 refine M.sub id (λ_ _ h=>h) (λi x h=>?_);by_cases b:i<bs.length
 . rwa[AJ b]at h
 . rw[AB om]at h;obtain⟨k,a⟩:=ex (i-bs.length);rw[a]at h;cases k<;>simp at h
theorem Mem.fill(M:Mem w V bs)(h:bs[i]?=some Option.none)(d:Dat)(p:Has V (H cs) d):
 Mem w (V.alloc (G cs d.ty)) (bs.set i (some (V.heap.size,d))):=by
 have m:Bl V (V.alloc (G cs d.ty)):=Ba V _;have g:i<bs.length:=(Ac.1 h).1;have o:=M.below m;have n:∀(j:Nat) B d,bs[j]?=some (some (B,d))->B<V.heap.size:=λj B d h=>by
  obtain⟨⟨_,a,_⟩,_⟩:=M.1 j B d h;exact a.lt
 refine⟨λj B q e=>?_,λj k B d1 l a c=>?_,o.2.2⟩
 . by_cases b:i=j
   . subst b;rw[A6 g]at e;simp at e;obtain⟨rfl,rfl⟩:=e;exact⟨⟨cs,BE V _,p.below m⟩,M.2.2.size⟩
   . rw[AW b]at e;exact o.1 j B q e
 . by_cases b:i=j<;>by_cases f:i=k
   . omega
   . subst b;rw[A6 g]at a;rw[AW f]at c;simp at a;have:=n k B l c;omega
   . subst f;rw[A6 g]at c;rw[AW b]at a;simp at c;have:=n j B d1 a;omega
   . rw[AW b]at a;rw[AW f]at c;exact M.2.1 j k B d1 l a c
theorem QO{α:Type}(l:List α)(x y:α):(l++[x]).set l.length y=l++[y]:=by
 induction l with
 |nil=>rfl
 |cons a l b=>simp
theorem Mem.push(M:Mem w V bs)(d:Dat)(a:Has V (H cs) d):Mem w (V.alloc (G cs d.ty)) (bs++[some (V.heap.size,d)]):=by
 have h:=M.none.fill (i:=bs.length) DQ d a;rwa[QO]at h
theorem Mem.repl(M:Mem w V bs)(h:bs[i]?=some (some (B,d)))(c:Dat)(x:Bx V' B c.ty cs)(s:Has V (H cs) c)
(o:∀k v ds,Row k V v ds->Row k V' v ds)(L:∀B' t cs,B'≠B->Bx V B' t cs->Bx V' B' t cs)(J:Bl w V'):Mem w V' (bs.set i (some (B,c))):=by
 have n:i<bs.length:=(Ac.1 h).1;obtain⟨_,p⟩:=M.1 i B d h;refine⟨λj B' d1 a=>?_,λj k B' d1 q y K=>?_,J⟩
 . by_cases b:i=j
   . subst b;rw[A6 n]at a;simp at a;obtain⟨rfl,rfl⟩:=a;exact⟨⟨cs,x,s.keep o⟩,p⟩
   . rw[AW b]at a;obtain⟨⟨u,l,f⟩,A⟩:=M.1 j B' d1 a;have z:B'≠B:=λe=>b (by rw[e]at a;exact M.2.1 i j B d d1 h a);exact⟨⟨u,L _ _ _ z l,f.keep o⟩,A⟩
 . have m:∀(j:Nat) d1,(bs.set i (some (B,c)))[j]?=some (some (B',d1))->∃g,bs[j]?=some (some (B',g)):=λj d1 a=>by
    by_cases b:i=j
    . subst b;rw[A6 n]at a;simp at a;exact⟨d,by rw[h,a.1]⟩
    . rw[AW b]at a;exact⟨d1,a⟩
   obtain⟨g,l⟩:=m j d1 y;obtain⟨r,f⟩:=m k q K;exact M.2.1 j k B' g r l f
theorem keep2(q:Jn V B t x y)(n0:Jz x=true)(c:Jz y=true)(a b:D):∀k v ds,Row k V v ds->Row k ((V.setCell ⟨B,0,Option.none⟩ a).setCell ⟨B,1,Option.none⟩ b) v ds:=
 λ_ _ _ h=>Row.set (Row.set h q.c0 n0 _) (q.set0 a).c1 c _
theorem Mem.putInt(M:Mem w V bs)(h:bs[i]?=some (some (B,.int A)))(f:Jl V (H #[x,y]) z):
 Mem w ((V.setCell ⟨B,0,Option.none⟩ x).setCell ⟨B,1,Option.none⟩ y) (bs.set i (some (B,.int z))):=by
 obtain⟨s,a,l,c,e,_⟩:=M.int h;obtain⟨_,d⟩:=M.1 i B _ h;exact M.repl h (.int z) (cs:=#[x,y]) ((e.set0 x).set1 y) f (keep2 e rfl rfl x y) (λB' t cs b g=>(g.far (p:=⟨B,0,Option.none⟩) b _).far (p:=⟨B,1,Option.none⟩) b _) ((M.2.2.setCell (p:=⟨B,0,Option.none⟩) d _).setCell (p:=⟨B,1,Option.none⟩) d _)
theorem Mem.putBig(M:Mem w V bs)(h:bs[i]?=some (some (B,.big A)))(f:Jr V (H #[x,y]) z):
 Mem w ((V.setCell ⟨B,0,Option.none⟩ x).setCell ⟨B,1,Option.none⟩ y) (bs.set i (some (B,.big z))):=by
 obtain⟨a,l,c,s,e,_⟩:=M.big h;obtain⟨_,d⟩:=M.1 i B _ h;exact M.repl h (.big z) (cs:=#[x,y]) ((e.set0 x).set1 y) f (keep2 e rfl rfl x y) (λB' t cs b g=>(g.far (p:=⟨B,0,Option.none⟩) b _).far (p:=⟨B,1,Option.none⟩) b _) ((M.2.2.setCell (p:=⟨B,0,Option.none⟩) d _).setCell (p:=⟨B,1,Option.none⟩) d _)
theorem far4(x y z u:D):∀B' t cs,B'≠B->Bx V B' t cs->Bx (put4 V B x y z u) B' t cs:=λ_ _ _ a g=>(((g.far (p:=⟨B,0,Option.none⟩) a _).far (p:=⟨B,1,Option.none⟩) a _).far (p:=⟨B,2,Option.none⟩) a _).far (p:=⟨B,3,Option.none⟩) a _
theorem Mem.putRat(M:Mem w V bs){q0:Rat}(h:bs[i]?=some (some (B,.rat q0))){z:D}(c:Jj V (H #[x,y,z,u]) q):
 Mem w (put4 V B x y z u) (bs.set i (some (B,.rat q))):=by
 obtain⟨_,_,_,_,_,_,_,_,a,_⟩:=M.rat h;obtain⟨_,b⟩:=M.1 i B _ h;exact M.repl h (.rat q) (cs:=#[x,y,z,u]) (a.put x y z u) c (λ_ _ _ g=>Row.put4 g a rfl rfl rfl rfl _ _ _ _) (far4 x y z u) (Jt M.2.2 b _ _ _ _)
theorem Mem.zref{w V:E}{bs:List (Option (Nat × Dat))}(M:Mem w V bs){i B:Nat}(h:bs[i]?=some (some (B,.zref))):JK V B 85 (C Option.none 0 0) (F false) (C Option.none 0 0) (F false):=by
 obtain⟨⟨cs,a,b⟩,_⟩:=M.1 i B _ h;cases(show Value.agg cs=_ from b);exact a
theorem Has.set2(h:Has V v d)(q:Jn V B t x y)(n0:Jz x=true)(c:Jz y=true)(b a:D):Has ((V.setCell ⟨B,0,Option.none⟩ b).setCell ⟨B,1,Option.none⟩ a) v d:=h.keep (keep2 q n0 c b a)
theorem Has.put4{V:E}{v:D}{d:Dat}(h:Has V v d){B:Nat}{t:TypeId}{x y z u:D}(q:JK V B t x y z u)(n0:Jz x=true)(i:Jz y=true)(a:Jz z=true)(j:Jz u=true)(e c f b:D):Has (Go.Proofs.YteldjhhjnchdeaaGreatDoor.put4 V B e c f b) v d:=h.keep (λ_ _ _ g=>Row.put4 g q n0 i a j _ _ _ _)
theorem Jl.form2(h:Jl W v z):∃s a l c,v=H #[F s,C a l c]:=by
 obtain⟨a,l,c,e,_⟩:=h;exact⟨_,a,l,c,e⟩
theorem Jr.form2(h:Jr W v z):∃a l c s,v=H #[C a l c,F s]:=by
 obtain⟨a,l,c,e,_⟩:=h;exact⟨a,l,c,_,e⟩
theorem Jj.form(h:Jj W v q):∃s a l c t b k d,v=H #[F s,C a l c,F t,C b k d]:=by
 obtain⟨s,a,l,c,t,b,k,d,e,_⟩:=h;exact⟨s,a,l,c,t,b,k,d,e⟩
theorem Js.form(h:Js W v q):∃a l c s b k d t,v=H #[C a l c,F s,C b k d,F t]:=by
 obtain⟨s,a,l,c,t,b,k,d,e,_⟩:=h;exact⟨s,a,l,c,t,b,k,d,e⟩
theorem Mem.ne(M:Mem w V bs)(i j:Nat){B':Nat}{a:Dat}(h:bs[i]?=some (some (B,d)))(b:bs[j]?=some (some (B',a)))(c:i≠j):B≠B':=λe=>by
 subst e;exact c (M.2.1 i j B d a h b)
theorem Mem.ge(M:Mem w V bs)(i:Nat)(h:bs[i]?=some (some (B,d))):w.heap.size<=B:=(M.1 i B d h).2
theorem EP(W:E):Jl W (H #[F false,C Option.none 0 0]) 0:=
 ⟨Option.none,0,0,DQ,by unfold UN;rw[Int.natAbs_zero,Jy];exact Row.nil _ _⟩
theorem ZL(W:E):Jr W (H #[C Option.none 0 0,F false]) 0:=
 ⟨Option.none,0,0,DQ,by unfold RN;rw[Int.natAbs_zero,Jy];exact Row.nil _ _⟩
theorem Ek(W:E):Jj W (H #[F false,C Option.none 0 0,F false,C Option.none 0 0]) 0:=⟨_,_,_,_,_,_,_,_,rfl,EP W,EP W⟩
def Tup2(V:E)(t:D)(d1 a:Dat):Prop:=∃u1 u2,t=.tuple #[u1,u2,F true]/\Has V u1 d1/\Has V u2 a
theorem Tup2.below{V V':E}{t:D}{d1 a:Dat}(h:Tup2 V t d1 a)(b:Bl V V'):Tup2 V' t d1 a:=by
 obtain⟨u1,u2,e,c,d⟩:=h;exact⟨u1,u2,e,c.below b,d.below b⟩
theorem Tup2.alloc{V:E}{t:D}{d1 a:Dat}(h:Tup2 V t d1 a)(o:Obj):Tup2 (V.alloc o) t d1 a:=by
 obtain⟨u1,u2,e,b,c⟩:=h;exact⟨u1,u2,e,b.alloc o,c.alloc o⟩
theorem Tup2.set2{V:E}{v:D}{d1 c:Dat}(h:Tup2 V v d1 c){B:Nat}{t:TypeId}{x y:D}(q:Jn V B t x y)(n0:Jz x=true)(d:Jz y=true)(b a:D):Tup2 ((V.setCell ⟨B,0,Option.none⟩ b).setCell ⟨B,1,Option.none⟩ a) v d1 c:=by
 obtain⟨u1,u2,e,f,g⟩:=h;exact⟨u1,u2,e,f.set2 q n0 d b a,g.set2 q n0 d b a⟩
def EQ(r:Bool)(W:E)(v:D)(q:Rat):Prop:=match r with|true=>Jj W v q|false=>Js W v q
def EK(r:Bool):TypeId:=match r with|true=>65|false=>85
theorem EQ.below{r:Bool}{W W':E}{v:D}{q:Rat}(h:EQ r W v q)(a:Bl W W'):EQ r W' v q:=by
 cases r with
 |true=>exact Jj.below h a
 |false=>exact Js.below h a
theorem EQ.keep{r:Bool}{W W':E}{v:D}{q:Rat}(h:EQ r W v q)(a:∀k v ds,Row k W v ds->Row k W' v ds):EQ r W' v q:=by
 cases r with
 |true=>exact Has.keep (d:=.rat q) h a
 |false=>exact Has.keep (d:=.ref q) h a
theorem EQ.form(h:EQ r W v q):∃x y z u,v=H #[x,y,z,u]/\Jz x=true/\Jz y=true/\Jz z=true/\Jz u=true:=by
 cases r with
 |true=>
  obtain⟨s,a,l,c,t,b,k,d,e,_⟩:=(show Jj W v q from h);exact⟨_,_,_,_,e,rfl,rfl,rfl,rfl⟩
 |false=>
  obtain⟨s,a,l,c,t,b,k,d,e,_⟩:=(show Js W v q from h);exact⟨_,_,_,_,e,rfl,rfl,rfl,rfl⟩
theorem EQ.no{z:D}(h:EQ r W (H #[x,y,z,u]) q):Jz x=true/\Jz y=true/\Jz z=true/\Jz u=true:=by
 obtain⟨j,i,g,f,e,a,c,d,b⟩:=h.form;cases e;exact⟨a,c,d,b⟩
theorem EQ.one{z:D}(h:EQ r W (H #[x,y,z,u]) q):∀v∈[x,y,z,u],v.oneCell'=true:=by
 cases r with
 |true=>
  obtain⟨s,a,l,c,t,b,k,d,e,_⟩:=(show Jj W _ q from h);cases e;intro v f;simp at f;rcases f with rfl|rfl|rfl|rfl<;>rfl
 |false=>
  obtain⟨s,a,l,c,t,b,k,d,e,_⟩:=(show Js W _ q from h);cases e;intro v f;simp at f;rcases f with rfl|rfl|rfl|rfl<;>rfl
def Dz(r:Bool)(W:E)(b:Nat)(qs:List Rat):Prop:=
 ∃cs:Array D,W.heap[b]?=some (G cs (EK r) (0,0))/\∀j,j<qs.length->∃x y z u,cs[j*4]?=some x/\cs[j*4+1]?=some y/\cs[j*4+2]?=some z/\cs[j*4+3]?=some u/\EQ r W (H #[x,y,z,u]) (cf qs j)
theorem Dz.lt(h:Dz r W b qs):b<W.heap.size:=by obtain⟨cs,h,_⟩:=h;exact(Ab.1 h).1
theorem Dz.below{r:Bool}{W W':E}{b:Nat}{qs:List Rat}(h:Dz r W b qs)(a:Bl W W'):Dz r W' b qs:=by
 have hl:=h.lt;obtain⟨cs,c,i⟩:=h;refine⟨cs,(a.block b hl).trans c,λj d=>?_⟩;obtain⟨x,y,z,u,e,f,k,g,l⟩:=i j d;exact⟨x,y,z,u,e,f,k,g,l.below a⟩
theorem Dz.keep{r:Bool}{W W':E}{b:Nat}{qs:List Rat}(h:Dz r W b qs)(m:W'.heap[b]?=W.heap[b]?)(g:∀k v ds,Row k W v ds->Row k W' v ds):Dz r W' b qs:=by
 obtain⟨cs,a,i⟩:=h;refine⟨cs,m.trans a,λj c=>?_⟩;obtain⟨x,y,z,u,d,e,l,f,n⟩:=i j c;exact⟨x,y,z,u,d,e,l,f,n.keep g⟩
theorem Dz.take{r:Bool}{W:E}{b:Nat}{qs:List Rat}(h:Dz r W b qs)(n:Nat):Dz r W b (qs.take n):=by
 obtain⟨cs,a,g⟩:=h;refine⟨cs,a,λj c=>?_⟩;rw[Al]at c;obtain⟨x,y,z,u,d,e,i,f,k⟩:=g j om;exact⟨x,y,z,u,d,e,i,f,by rw[Mr,BG om];exact k⟩
theorem Dz.at(h:Dz r W b qs)(c:j<qs.length):
 ∃x y z u,W.cell? ⟨b,j*4,none⟩=some x/\W.cell? ⟨b,j*4+1,none⟩=some y/\W.cell? ⟨b,j*4+2,none⟩=some z/\W.cell? ⟨b,j*4+3,none⟩=some u/\EQ r W (H #[x,y,z,u]) (cf qs j):=by
 obtain⟨cs,a,g⟩:=h;obtain⟨x,y,z,u,d,e,i,f,k⟩:=g j c;exact⟨x,y,z,u,by simp[World.cell?,a,d],by simp[World.cell?,a,e],by simp[World.cell?,a,i],by simp[World.cell?,a,f],k⟩
theorem Dz.frozen{r:Bool}{W:E}{b:Nat}{qs:List Rat}(h:Dz r W b qs)(o:Nat):W.frozen? ⟨b,o,none⟩=false:=by obtain⟨cs,a,_⟩:=h;simp[World.frozen?,a]
def putAt(W:E)(b o:Nat)(x y z u:D):E:=(((W.setCell ⟨b,o,none⟩ x).setCell ⟨b,o+1,none⟩ y).setCell ⟨b,o+2,none⟩ z).setCell ⟨b,o+3,none⟩ u
theorem JZ(h:W.heap[b]?=some (G cs t m))(v:D):(W.setCell ⟨b,o,none⟩ v).heap[b]?=some (G (cs.setIfInBounds o v) t m):=by
 obtain⟨c,a⟩:=Ab.1 h;show(W.heap.modify b _)[b]?=_;rw[Ca (by rw[CI];exact c),Cj,a];simp
theorem QP(h:W.heap[b]?=some (G cs t m))(x y z u:D):(putAt W b o x y z u).heap[b]?=some (G ((((cs.setIfInBounds o x).setIfInBounds (o+1) y).setIfInBounds (o+2) z).setIfInBounds (o+3) u) t m):=
 JZ (JZ (JZ (JZ h x) y) z) u
theorem Kw(a:B≠b)(x y z u:D):(putAt W b o x y z u).heap[B]?=W.heap[B]?:=
 (BD _ _ _ B a).trans ((BD _ _ _ B a).trans ((BD _ _ _ B a).trans (BD _ _ _ B a)))
theorem QQ(h:Below n w W)(a:n<=b)(x y z u:D):Below n w (putAt W b o x y z u):=
 (((h.setCell (p:=⟨b,o,none⟩) a _).setCell (p:=⟨b,o+1,none⟩) a _).setCell (p:=⟨b,o+2,none⟩) a _).setCell (p:=⟨b,o+3,none⟩) a _
theorem cell_of(h:W.heap[b]?=some (G cs t m))(e:cs[o]?=some x):W.cell? ⟨b,o,none⟩=some x:=by simp[World.cell?,h,e]
theorem ZM{c a:D}(h:W.heap[b]?=some (G cs t m))(i:cs[o]?=some x0)(g:cs[o+1]?=some c)(n:cs[o+2]?=some a)(l:cs[o+3]?=some u0)
(n0:Jz x0=true)(e:Jz c=true)(d:Jz a=true)(j:Jz u0=true)(x y z u:D):∀k v ds,Row k W v ds->Row k (putAt W b o x y z u) v ds:=λk v ds f=>by
 have c1:((cs.setIfInBounds o x))[o+1]?=some c:=by rw[Aj om];exact g
 have c2:(((cs.setIfInBounds o x).setIfInBounds (o+1) y))[o+2]?=some a:=by rw[Aj om,Aj om];exact n
 have c3:((((cs.setIfInBounds o x).setIfInBounds (o+1) y).setIfInBounds (o+2) z))[o+3]?=some u0:=by rw[Aj om,Aj om,Aj om];exact l
 exact Row.set (Row.set (Row.set (Row.set f (cell_of h i) n0 _) (cell_of (JZ h x) c1) e _) (cell_of (JZ (JZ h x) y) c2) d _) (cell_of (JZ (JZ (JZ h x) y) z) c3) j _
theorem Dz.putKeep(h:Dz r W b qs)(d:j<qs.length)(x y z u:D):∀k v ds,Row k W v ds->Row k (putAt W b (j*4) x y z u) v ds:=by
 obtain⟨cs,a,m⟩:=h;obtain⟨x0,q,p,u0,f,g,n,l,o⟩:=m j d;obtain⟨n0,e,c,i⟩:=o.no;exact ZM a f g n l n0 e c i x y z u
theorem Dz.set{r:Bool}{W:E}{b:Nat}{qs:List Rat}(h:Dz r W b qs){j:Nat}(a:j<qs.length){x y z u:D}{q:Rat}(J:EQ r W (H #[x,y,z,u]) q):Dz r (putAt W b (j*4) x y z u) b (qs.set j q):=by
 have e:=h.putKeep a x y z u;obtain⟨cs,n,f⟩:=h;obtain⟨x0,L,M,u0,p,t,K,l,N⟩:=f j a;refine⟨_,QP n x y z u,λi c=>?_⟩;rw[Cq]at c;have m:=(Ab.1 p).1;have k:=(Ab.1 t).1;have A:=(Ab.1 K).1;have o:=(Ab.1 l).1;by_cases d:i=j
 . subst d;refine⟨x,y,z,u,?_,?_,?_,?_,?_⟩
   . rw[Aj om,Aj om,Aj om,CJ m]
   . rw[Aj om,Aj om,CJ (by simpa using k)]
   . rw[Aj om,CJ (by simpa using A)]
   . rw[CJ (by simpa using o)]
   . rw[Xy _ _ _ _ a,BG rfl];exact J.keep e
 . obtain⟨x1,w,s,u1,d0,d1,g,B,v⟩:=f i c;refine⟨x1,w,s,u1,?_,?_,?_,?_,?_⟩
   . rw[Aj om,Aj om,Aj om,Aj om];exact d0
   . rw[Aj om,Aj om,Aj om,Aj om];exact d1
   . rw[Aj om,Aj om,Aj om,Aj om];exact g
   . rw[Aj om,Aj om,Aj om,Aj om];exact B
   . rw[Xy _ _ _ _ a,BC d];exact v.keep e
def RowK(r:Bool)(W:E)(v:D)(qs:List Rat):Prop:=
 ∃a cap,v=C a qs.length cap/\qs.length<=cap/\cap<=9223372036854775807/\qs.length<=1099511627776/\(qs=[]\/∃b,a=some ⟨b,0,none⟩/\Dz r W b qs)
theorem RowK.below{r:Bool}{W W':E}{v:D}{qs:List Rat}(h:RowK r W v qs)(j:Bl W W'):RowK r W' v qs:=by
 obtain⟨a,cap,e,d,f,k,c⟩:=h;refine⟨a,cap,e,d,f,k,?_⟩;rcases c with c|⟨b,i,g⟩
 . exact Or.inl c
 . exact Or.inr ⟨b,i,g.below j⟩
theorem RowK.nil(r:Bool)(W:E):RowK r W (C none 0 0) []:=⟨none,0,rfl,Aa _,om,DQ,Or.inl rfl⟩
theorem Dz.row(h:Dz r W b qs){cap:Nat}(c:n<=qs.length)(d:n<=cap)(a:cap<=9223372036854775807)(hl:n<=1099511627776):RowK r W (C (some ⟨b,0,none⟩) n cap) (qs.take n):=by
 have e:(qs.take n).length=n:=by rw[Al];omega
 exact⟨_,cap,by rw[e],om,a,om,Or.inr ⟨b,rfl,h.take n⟩⟩
theorem RowK.open(h:RowK r W v qs):∃a cap,v=C a qs.length cap/\qs.length<=cap/\cap<=9223372036854775807/\qs.length<=1099511627776/\
 Hid (∀j,j<qs.length->∃b,a=some ⟨b,0,none⟩/\Dz r W b qs):=by
 obtain⟨a,cap,e,f,g,l,c⟩:=h;refine⟨a,cap,e,f,g,l,λj d=>?_⟩;rcases c with c|⟨b,k,i⟩
 . rw[c]at d;simp at d
 . exact⟨b,k,i⟩
theorem RowK.take{r:Bool}{W:E}{a:Option Addr}{l cap:Nat}{qs:List Rat}(h:RowK r W (C a l cap) qs){n:Nat}(j:n<=l):RowK r W (C a n cap) (qs.take n):=by
 obtain⟨a',k,e,i,d,m,c⟩:=h;cases e;have e:(qs.take n).length=n:=by rw[Al];omega
 refine⟨a,cap,by rw[e],om,d,om,?_⟩;rcases c with c|⟨b,g,f⟩
 . left;rw[c];simp
 . exact Or.inr ⟨b,g,f.take n⟩
def Jg(W:E)(v:D)(ps:List Rat):Prop:=∃u,v=H #[u]/\RowK true W u ps
theorem Jg.below{W W':E}{v:D}{ps:List Rat}(h:Jg W v ps)(b:Bl W W'):Jg W' v ps:=by
 obtain⟨u,e,a⟩:=h;exact⟨u,e,a.below b⟩
theorem RowK.form(h:RowK r W v qs):∃a l c,v=C a l c:=by
 obtain⟨a,cap,e,_⟩:=h;exact⟨a,_,cap,e⟩
theorem Jg.form{W:E}{v:D}{ps:List Rat}(h:Jg W v ps):∃a l c,v=H #[C a l c]:=by
 obtain⟨u,e,b⟩:=h;obtain⟨a,l,c,rfl⟩:=b.form;exact⟨a,l,c,e⟩
theorem Jg.row{a:Option Addr}{l c:Nat}{ps:List Rat}(h:Jg W (H #[C a l c]) ps):RowK true W (C a l c) ps:=by
 obtain⟨u,e,b⟩:=h;cases e;exact b
@[irreducible] def Db(qs:List Rat):Prop:=∀i,Sq (cf qs i)
theorem Db.at(h:Db qs)(i:Nat):Sq (cf qs i):=by unfold Db at h;exact h i
theorem Db.of(h:∀i,Sq (cf qs i)):Db qs:=by unfold Db;exact h
def YI(r:Bool)(W:E)(cs:List D)(qs:List Rat):Prop:=
 cs.length=qs.length*4/\∀j,j<qs.length->∃x y z u,cs[j*4]?=some x/\cs[j*4+1]?=some y/\cs[j*4+2]?=some z/\cs[j*4+3]?=some u/\EQ r W (H #[x,y,z,u]) (cf qs j)
theorem YI.nil(r:Bool)(W:E):YI r W [] []:=⟨rfl,λj a=>by simp at a⟩
theorem YI.below{r:Bool}{W W':E}{cs:List D}{qs:List Rat}(h:YI r W cs qs)(f:Bl W W'):YI r W' cs qs:=by
 refine⟨h.1,λj a=>?_⟩;obtain⟨x,y,z,u,c,d,e,b,g⟩:=h.2 j a;exact⟨x,y,z,u,c,d,e,b,g.below f⟩
theorem YI.keep{r:Bool}{W W':E}{cs:List D}{qs:List Rat}(h:YI r W cs qs)(c:∀k v ds,Row k W v ds->Row k W' v ds):YI r W' cs qs:=by
 refine⟨h.1,λj a=>?_⟩;obtain⟨x,y,z,u,d,e,f,b,g⟩:=h.2 j a;exact⟨x,y,z,u,d,e,f,b,g.keep c⟩
theorem YI.one{r:Bool}{W:E}{cs:List D}{qs:List Rat}(h:YI r W cs qs):∀v∈cs,v.oneCell'=true:=by
 intro v i;obtain⟨k,j,rfl⟩:=List.mem_iff_getElem.1 i;have hl:=h.1;obtain⟨x,y,z,u,d,e,g,f,l⟩:=h.2 (k/4) om;have c:=l.one;have b:cs[k]?=some cs[k]:=Ah j;have a:k=k/4*4\/k=k/4*4+1\/k=k/4*4+2\/k=k/4*4+3:=om
 rcases a with a|a|a|a
 . rw[<-a,b]at d;cases d;exact c _ DQ
 . rw[<-a,b]at e;cases e;exact c _ DQ
 . rw[<-a,b]at g;cases g;exact c _ DQ
 . rw[<-a,b]at f;cases f;exact c _ DQ
theorem YI.snoc{cs:List D}(h:YI r W cs qs){z:D}(hq:EQ r W (H #[x,y,z,u]) q):YI r W (cs++[x,y,z,u]) (qs++[q]):=by
 have hl:=h.1;refine⟨by simp;omega,λj c=>?_⟩;rw[Ai,FE]at c;by_cases b:j<qs.length
 . obtain⟨k,g,d,a,e,f,m,l,n⟩:=h.2 j b;refine⟨k,g,d,a,?_,?_,?_,?_,?_⟩
   . rw[AJ om];exact e
   . rw[AJ om];exact f
   . rw[AJ om];exact m
   . rw[AJ om];exact l
   . rw[Mq,BC om];exact n
 . have i:j=qs.length:=om
   subst i;refine⟨x,y,z,u,?_,?_,?_,?_,?_⟩
   . rw[AB om,show qs.length*4-cs.length=0 from by omega];rfl
   . rw[AB om,show qs.length*4+1-cs.length=1 from by omega];rfl
   . rw[AB om,show qs.length*4+2-cs.length=2 from by omega];rfl
   . rw[AB om,show qs.length*4+3-cs.length=3 from by omega];rfl
   . rw[Mq,BG rfl];exact hq
theorem Dz.cells(h:Dz r W b qs):∃cs,YI r W cs qs/\∀j u,cs[j]?=some u->W.cell? ⟨b,j,none⟩=some u:=by
 obtain⟨a,f,d⟩:=h;have p:qs.length*4<=a.size:=by
  cases hq:qs.length with
  |zero=>omega
  |succ n=>
   obtain⟨x,y,z,u,_,_,_,c,_⟩:=d n om;have:=(Ab.1 c).1;omega
 refine⟨a.toList.take (qs.length*4),⟨by rw[Al];have o:a.toList.length=a.size:=CH;omega,λj g=>?_⟩,λj u e=>?_⟩
 . obtain⟨x,y,z,u,i,k,l,c,m⟩:=d j g;refine⟨x,y,z,u,?_,?_,?_,?_,m⟩
   . rw[AH om,Ck];exact i
   . rw[AH om,Ck];exact k
   . rw[AH om,Ck];exact l
   . rw[AH om,Ck];exact c
 . rw[Fq]at e;split at e
   . rw[Ck]at e;exact cell_of f e
   . cases e
theorem RowK.owns{base:Nat}{cs:List D}(h:W.ownsRow base (EK r) 4 v n cs)(e:YI r W cs qs)(hl:qs.length<=1099511627776):RowK r W v qs/\n=qs.length/\(v=C none 0 0\/∃g cap,v=C (some ⟨g,0,none⟩) n cap/\base<=g/\Dz r W g qs):=by
 obtain⟨A,p⟩:=h;have q:n=qs.length:=by have:=e.1;omega
 subst q;rcases p with⟨rfl,l⟩|⟨g,cap,i,rfl,m,k,hle,o,w,s⟩
 . have:qs=[]:=Ap l;subst this;exact⟨RowK.nil r W,rfl,Or.inl rfl⟩
 . have hE:Dz r W g qs:=by
    refine⟨i,k,λj f=>?_⟩;obtain⟨x,y,z,u,b,c,d,a,t⟩:=e.2 j f;rw[<-s]at b c d a;rw[AH om,Ck]at b c d a;exact⟨x,y,z,u,b,c,d,a,t⟩
   refine⟨⟨_,cap,rfl,hle,by unfold maxLen at o;omega,hl,Or.inr ⟨g,rfl,hE⟩⟩,rfl,Or.inr ⟨g,cap,rfl,m,hE⟩⟩
attribute [local go_sem] Oper.semAt_some
theorem Jr.form(h:Jr W v z):∃a l cap,v=H #[C a l cap,F (decide (z<0))]:=by
 obtain⟨a,l,cap,e,_⟩:=h;exact⟨a,l,cap,e⟩
theorem Jr.box{R:Nat}{u1 x1:D}(h:Jr W v z)(q:Jn W R t u0 u1)(n0:Jz u0=true)(b:Jz u1=true):Jr ((W.setCell ⟨R,0,none⟩ x0).setCell ⟨R,1,none⟩ x1) v z:=by
 obtain⟨a,l,cap,e,c⟩:=h;exact⟨a,l,cap,e,Row.set (Row.set c q.c0 n0 _) (u0:=u1) (q.set0 x0).c1 b _⟩
theorem ZN(z J:D)(x y:Int)(w:E)(f:Jr w z x)(g:Jr w J y)(N:ET x<=1000000000)(S:ET y<=1000000000):
 Calls I 140 #[z,J] w λe c=>∃u,e=.returned u/\Jr c u (x-y)/\Bl w c:=by
 obtain⟨a,la,ca,rfl⟩:=f.form;obtain⟨b,lb,cb,rfl⟩:=g.form;obtain⟨s,hs⟩:=ex (decide (x<0));obtain⟨t,L⟩:=ex (decide (y<0));rw[hs]at f ⊢;rw[L]at g ⊢;clear hs L;obtain⟨W0,d⟩:=ex (((w.alloc (G #[C a la ca,F s] 83)).alloc (G #[C b lb cb,F t] 83)).alloc (G #[C none 0 0,F false] 83));have i:Bl w W0:=by rw[<-d];exact Xn w _ _ _
 have b0:Jn W0 w.heap.size 83 (C a la ca) (F s):=by rw[<-d];exact((Jn.new w _ _ _).alloc _).alloc _
 have m:Jn W0 (w.heap.size+1) 83 (C b lb cb) (F t):=by
  have h:=(Jn.new (w.alloc (G #[C a la ca,F s] 83)) 83 (C b lb cb) (F t)).alloc (G #[C none 0 0,F false] 83);rw[A1,d]at h;exact h
 have l:Jn W0 (w.heap.size+1+1) 83 (C none 0 0) (F false):=by
  have h:=Jn.new ((w.alloc (G #[C a la ca,F s] 83)).alloc (G #[C b lb cb,F t] 83)) 83 (C none 0 0) (F false);rw[A1,A1,d]at h;exact h
 have O:=Ja (λ(V:E) (h:Bl W0 V)=>PP _ y V ((g.below i).below h));have R:=Ja (λ(V:E) (u:D) (h:Bl W0 V) (Q:Jr V u (-y))=>NR _ u x (-y) V ((f.below i).below h) Q N (by unfold ET at *;rw[Fp];exact S));clear f g;go_enter Tryz.func140,Tryz.ntmps140
 go_wp2_with fail
 try rw[d]
 clear d;have hq:Bl W0 W0.drew:=(BB _ W0).drew;obtain⟨B,A⟩:=b0.cp;obtain⟨q,r⟩:=m.cp;have Y:¬(w.heap.size=w.heap.size+1+1):=om
 go_region_held3 (λc=>c.cell? ⟨w.heap.size,0,none⟩=some (C a la ca)/\c.cell? ⟨w.heap.size,1,none⟩=some (F s)/\c.cell? ⟨w.heap.size+1,0,none⟩=some (C b lb cb)/\c.cell? ⟨w.heap.size+1,1,none⟩=some (F t)) (refine⟨?_,?_,?_,?_⟩<;>(first|(go_keep;done)|((repeat rw[JH om]);simp[*];done)))
  (first
   |(go_at_call 110;refine(O.o _ hq).mono ?_;rintro e w1 ⟨u1,rfl,j,U⟩;obtain⟨na,nl,Z,rfl⟩:=j.form;obtain⟨s1,n⟩:=ex (decide (-y<0));rw[n]at j;rw[n];clear n;have hq:=Bt hq U;obtain⟨B,A⟩:=(b0.below hq).cp;obtain⟨q,r⟩:=(m.below hq).cp)
   |(go_at_call 81;refine(R.o _ _ hq j).mono ?_;rintro e w2 ⟨u2,rfl,k,T⟩;obtain⟨K,sl,sc,rfl⟩:=k.form;obtain⟨M,o⟩:=ex (decide (x+-y<0));rw[o]at k;rw[o];clear o;have hq:=Bt hq T;obtain⟨B,A⟩:=(b0.below hq).cp;obtain⟨q,r⟩:=(m.below hq).cp;obtain⟨r0,W⟩:=(l.below hq).cp;obtain⟨f0,f1⟩:=(l.below hq).fp))
 all_goals go_wp2_with fail
 have X:=Bt i hq;have P:=k.box (l.below hq) rfl rfl (x0:=C K sl sc) (x1:=F M);exact BA (v:=H #[C K sl sc,F M]) (by simp[results,Tryz.results140,go_sem,r0,W]) rfl ⟨_,rfl,by rw[Int.sub_eq_add_neg];exact P,(X.setCell (p:=⟨_,0,none⟩) so _).setCell (p:=⟨_,1,none⟩) so _⟩
theorem QR(B L:D)(x y:Int)(w:E)(g:Jl w B x)(Z:Jl w L y)(Q:(Jc DR x.natAbs).length<1099511627776)(S:(Jc DR y.natAbs).length<1099511627776):
 Calls I 88 #[B,L] w λe c=>∃u,e=.returned u/\Jl c u (x-y)/\Bl w c:=by
 obtain⟨a,la,ca,rfl⟩:=g.form;obtain⟨b,lb,cb,T,f⟩:=Z;cases T;obtain⟨s,hs⟩:=ex (decide (x<0));obtain⟨t,m⟩:=ex (decide (y<0));rw[hs]at g ⊢;rw[m];clear hs;obtain⟨W0,d⟩:=ex (((w.alloc (G #[F s,C a la ca] 63)).alloc (G #[F t,C b lb cb] 63)).alloc (G #[F false,C none 0 0] 63));have i:Bl w W0:=by rw[<-d];exact Xn w _ _ _
 have b0:Jn W0 w.heap.size 63 (F s) (C a la ca):=by rw[<-d];exact((Jn.new w _ _ _).alloc _).alloc _
 have n:Jn W0 (w.heap.size+1) 63 (F t) (C b lb cb):=by
  have h:=(Jn.new (w.alloc (G #[F s,C a la ca] 63)) 63 (F t) (C b lb cb)).alloc (G #[F false,C none 0 0] 63);rw[A1,d]at h;exact h
 have l:Jn W0 (w.heap.size+1+1) 63 (F false) (C none 0 0):=by
  have h:=Jn.new ((w.alloc (G #[F s,C a la ca] 63)).alloc (G #[F t,C b lb cb] 63)) 63 (F false) (C none 0 0);rw[A1,A1,d]at h;exact h
 have A:(if(!t)=true then -(y.natAbs:Int)else y.natAbs)=-y:=by
  rw[<-m];by_cases h:y<0
  . simp only[h,DI,Bool.not_true,A9,if_false];omega
  . simp only[h,DA,Bool.not_false,if_true];omega
 have P:=Ja (λ(V:E) (h:Bl W0 V)=>show Calls I 119 #[F (!t),C b lb cb] V λe c=>∃u,e=.returned u/\Jl c u (-y)/\Bl V c by
  have M:=I1 (!t) (C b lb cb) y.natAbs V (UN.below (UN.below f i) h);rw[A]at M;exact M)
 have R:=Ja (λ(V:E) (u:D) (h:Bl W0 V) (f:Jl V u (-y))=>Nv _ u x (-y) V ((g.below i).below h) f Q (by rw[Fp];exact S));clear g f A m;go_enter Tryz.func88,Tryz.ntmps88
 go_wp2_with fail
 try rw[d]
 clear d;have hq:Bl W0 W0.drew:=(BB _ W0).drew;obtain⟨K,J⟩:=b0.cp;obtain⟨r,z⟩:=n.cp;have ad:¬(w.heap.size=w.heap.size+1+1):=om
 go_region_held3 (λc=>c.cell? ⟨w.heap.size,0,none⟩=some (F s)/\c.cell? ⟨w.heap.size,1,none⟩=some (C a la ca)/\c.cell? ⟨w.heap.size+1,0,none⟩=some (F t)/\c.cell? ⟨w.heap.size+1,1,none⟩=some (C b lb cb)) (refine⟨?_,?_,?_,?_⟩<;>(first|(go_keep;done)|((repeat rw[JH om]);simp[*];done)))
  (first
   |(go_at_call 119;refine(P.o _ hq).mono ?_;rintro e w1 ⟨u1,rfl,j,X⟩;obtain⟨na,nl,nc,rfl⟩:=j.form;obtain⟨s1,o⟩:=ex (decide (-y<0));rw[o]at j;rw[o];clear o;have hq:=Bt hq X;obtain⟨K,J⟩:=(b0.below hq).cp;obtain⟨r,z⟩:=(n.below hq).cp)
   |(go_at_call 121;refine(R.o _ _ hq j).mono ?_;rintro e w2 ⟨u2,rfl,k,W⟩;obtain⟨N,sl,sc,rfl⟩:=k.form;obtain⟨O,q⟩:=ex (decide (x+-y<0));rw[q]at k;rw[q];clear q;have hq:=Bt hq W;obtain⟨K,J⟩:=(b0.below hq).cp;obtain⟨r,z⟩:=(n.below hq).cp;obtain⟨r0,Y⟩:=(l.below hq).cp;obtain⟨f0,f1⟩:=(l.below hq).fp))
 all_goals go_wp2_with fail
 have U:=Bt i hq;have Qc:=k.box (l.below hq) rfl rfl (x0:=F O) (x1:=C N sl sc);exact BA (v:=H #[F O,C N sl sc]) (by simp[results,Tryz.results88,go_sem,r0,Y]) rfl ⟨_,rfl,by rw[Int.sub_eq_add_neg];exact Qc,(U.setCell (p:=⟨_,0,none⟩) so _).setCell (p:=⟨_,1,none⟩) so _⟩
theorem ZO(a:Option Addr)(la ca:Nat)(b:Option Addr)(lb cb m n:Nat)(w:E)(r:la+lb<=1099511627776)
(i:Row .u64 w (C a la ca) (Jc DR m))(j:Row .u64 w (C b lb cb) (Jc DR n)):
 Calls I 120 #[C a la ca,C b lb cb] w λe l=>∃u,e=.returned u/\UN l u (m*n)/\Bl w l:=by
 have q:=I5 (la+lb) om w;rw[show((la+lb:Nat):Int)=(la:Int)+(lb:Int)from by omega]at q;obtain⟨c,d⟩:∃c,c=w.alloc (G (cellsOf .u64 (List.replicate (la+lb) 0)).toArray 156):=⟨_,rfl⟩;have g:Bl w c:=by rw[d];exact Ba w _
 have k:DX c w.heap.size (List.replicate (la+lb) 0):=by rw[d];exact DX.made (BE w _)
 rw[<-d]at q;have s:=Ja (Vt w.heap.size (la+lb) (la+lb) (List.replicate (la+lb) 0) a la ca b lb cb m n c k (λx v=>by rw[CF v];unfold DR;omega) (by rw[Au];exact Aa _) (Aa _) om r (Row.below i g) (Row.below j g)
  (λp e f=>by have:=Ig i e f;omega) (λp e f=>by have:=Ig j e f;omega))
 clear d k i j;go_enter Tryz.func120,Tryz.ntmps120
 go_wp2_with(go_at_call 141;refine s.o.mono ?_;rintro e y ⟨u,rfl,⟨o,t⟩,_,_⟩;obtain⟨A,z,rfl⟩:=UN.form o)
 go_ret;exact⟨_,rfl,o,below_grown g t (Aa _)⟩
theorem Xi(K O:D)(x y:Int)(w:E)(U:Jl w K x)(hb:Jl w O y)(hl:(Jc DR x.natAbs).length+(Jc DR y.natAbs).length<=1099511627776):
 Calls I 85 #[K,O] w λe f=>∃u,e=.returned u/\Jl f u (x*y)/\Bl w f:=by
 obtain⟨a,la,ca,l,j⟩:=U;cases l;obtain⟨b,lb,cb,l,r⟩:=hb;cases l;have W:=j.len;have Qf:=r.len;obtain⟨s,hs⟩:=ex (decide (x<0));obtain⟨t,o⟩:=ex (decide (y<0));have P:(if(!(s==t))=true then -((x.natAbs*y.natAbs:Nat):Int)else((x.natAbs*y.natAbs:Nat):Int))=x*y:=by
  rw[<-hs,<-o,<-CW];rcases FH x 0 with c|c|c<;>rcases FH y 0 with d|d|d
  . have:=Int.mul_pos_of_neg_of_neg c d;simp[c,d];omega
  . subst d;simp
  . have:=Int.mul_neg_of_neg_of_pos c d;have g:¬y<0:=om
    simp[c,g];omega
  . subst c;simp
  . subst c;simp
  . subst c;simp
  . have:=Int.mul_neg_of_pos_of_neg c d;have g:¬x<0:=om
    simp[d,g];omega
  . subst d;simp
  . have:=Int.mul_pos c d;have g:¬x<0:=om
    have h2:¬y<0:=om
    simp[g,h2];omega
 rw[hs,o];obtain⟨W0,i⟩:=ex (((w.alloc (G #[F s,C a la ca] 63)).alloc (G #[F t,C b lb cb] 63)).alloc (G #[F false,C none 0 0] 63));have k:Bl w W0:=by rw[<-i];exact Xn w _ _ _
 have b0:Jn W0 w.heap.size 63 (F s) (C a la ca):=by rw[<-i];exact((Jn.new w _ _ _).alloc _).alloc _
 have q:Jn W0 (w.heap.size+1) 63 (F t) (C b lb cb):=by
  have h:=(Jn.new (w.alloc (G #[F s,C a la ca] 63)) 63 (F t) (C b lb cb)).alloc (G #[F false,C none 0 0] 63);rw[A1,i]at h;exact h
 have n:Jn W0 (w.heap.size+1+1) 63 (F false) (C none 0 0):=by
  have h:=Jn.new ((w.alloc (G #[F s,C a la ca] 63)).alloc (G #[F t,C b lb cb] 63)) 63 (F false) (C none 0 0);rw[A1,A1,i]at h;exact h
 have HT:=Ja (λ(V:E) (h:Bl W0 V)=>ZO a la ca b lb cb _ _ V om (UN.below (UN.below j k) h) (UN.below (UN.below r k) h));have T:=Ja (λ(V:E) (u:D) (j:UN V u (x.natAbs*y.natAbs))=>show Calls I 119 #[F (!(s==t)),u] V λe f=>∃u,e=.returned u/\Jl f u (x*y)/\Bl V f by
  have g:=I1 (!(s==t)) u _ V j;rw[P]at g;exact g)
 clear j r P hs o W Qf hl;go_enter Tryz.func85,Tryz.ntmps85
 go_wp2_with fail
 try rw[i]
 clear i;have hq:Bl W0 W0.drew:=(BB _ W0).drew;obtain⟨N,M⟩:=b0.cp;obtain⟨A,B⟩:=q.cp;have ad:¬(w.heap.size=w.heap.size+1+1):=om
 go_region_held3 (λf=>f.cell? ⟨w.heap.size,0,none⟩=some (F s)/\f.cell? ⟨w.heap.size,1,none⟩=some (C a la ca)/\f.cell? ⟨w.heap.size+1,0,none⟩=some (F t)/\f.cell? ⟨w.heap.size+1,1,none⟩=some (C b lb cb)) (refine⟨?_,?_,?_,?_⟩<;>(first|(go_keep;done)|((repeat rw[JH om]);simp[*];done)))
  (first
   |(go_at_call 120;refine(HT.o _ hq).mono ?_;rintro e w1 ⟨u1,rfl,J,Y⟩;obtain⟨na,nc,rfl⟩:=UN.form J;have hq:=Bt hq Y;obtain⟨N,M⟩:=(b0.below hq).cp;obtain⟨A,B⟩:=(q.below hq).cp)
   |(go_at_call 119;refine(T.o _ _ J).mono ?_;rintro e w2 ⟨u2,rfl,m,X⟩;obtain⟨Q,sl,sc,rfl⟩:=m.form;obtain⟨L,z⟩:=ex (decide (x*y<0));rw[z]at m;rw[z];clear z;have hq:=Bt hq X;obtain⟨N,M⟩:=(b0.below hq).cp;obtain⟨A,B⟩:=(q.below hq).cp;obtain⟨r0,Z⟩:=(n.below hq).cp;obtain⟨f0,f1⟩:=(n.below hq).fp))
 all_goals go_wp2_with fail
 have R:=Bt k hq;have S:=m.box (n.below hq) rfl rfl (x0:=F L) (x1:=C Q sl sc);exact BA (v:=H #[F L,C Q sl sc]) (by simp[results,Tryz.results85,go_sem,r0,Z]) rfl ⟨_,rfl,S,(R.setCell (p:=⟨_,0,none⟩) so _).setCell (p:=⟨_,1,none⟩) so _⟩
end
namespace M3
inductive Dat
 |int(z:Int)
 |rat(q:Rat)
 |big(z:Int)
 |ref(q:Rat)
 |zref
 |pair(x y:Int)
 |rats(qs:List Rat)
 |poly(ps:List Rat)
 |cell(t:TypeId)(v:Value)
def Dat.ty:Dat->TypeId
 |.int _=>63
 |.rat _=>65
 |.big _=>83
 |.ref _=>85
 |.zref=>85
 |.pair _ _=>65
 |.rats _=>65
 |.poly _=>25
 |.cell t _=>t
def Has(V:E)(v:D):Dat->Prop
 |.int z=>Jl V v z
 |.rat q=>Jj V v q
 |.big z=>Jr V v z
 |.ref q=>Js V v q
 |.zref=>v=H #[C none 0 0,F false,C none 0 0,F false]
 |.pair x y=>Gz V v x y
 |.rats qs=>∃cs,v=H cs/\∀j,j<qs.length->∃x y z u,cs[j*4]?=some x/\cs[j*4+1]?=some y/\cs[j*4+2]?=some z/\cs[j*4+3]?=some u/\EQ true V (H #[x,y,z,u]) (cf qs j)
 |.poly ps=>Jg V v ps
 |.cell _ x=>v=H #[x]/\Jz x=true
theorem Has.below{V V':E}{v:D}{d:Dat}(h:Has V v d)(a:Bl V V'):Has V' v d:=by
 cases d with
 |int z=>exact Jl.below h a
 |rat q=>exact Jj.below h a
 |big z=>exact Jr.below h a
 |ref q=>exact Js.below h a
 |zref=>exact h
 |pair x y=>exact Gz.below h a
 |rats qs=>
  obtain⟨cs,e,h⟩:=h;refine⟨cs,e,λj b=>?_⟩;obtain⟨x,y,z,u,f,g,i,c,k⟩:=h j b;exact⟨x,y,z,u,f,g,i,c,k.below a⟩
 |poly ps=>exact Jg.below h a
 |cell t x=>exact h
theorem Has.alloc{V:E}{v:D}{d:Dat}(h:Has V v d)(o:Obj):Has (V.alloc o) v d:=h.below (Ba V o)
def Dat.noPoly:Dat->Bool|.poly _=>false|_=>true
theorem Has.keep{V V':E}{v:D}{d:Dat}(h:Has V v d)(f:∀k v ds,Row k V v ds->Row k V' v ds)(hp:d.noPoly=true\/∀v qs,RowK true V v qs->RowK true V' v qs):Has V' v d:=by
 cases d with
 |rats qs=>
  obtain⟨cs,e,h⟩:=h;refine⟨cs,e,λj w=>?_⟩;obtain⟨x,y,z,u,A,i,m,B,J⟩:=h j w;exact⟨x,y,z,u,A,i,m,B,J.keep f⟩
 |poly ps=>
  rcases hp with hp|hp
  . cases hp
  . obtain⟨u,e,g⟩:=h;exact⟨u,e,hp _ _ g⟩
 |cell t x=>exact h
 |zref=>exact h
 |pair x y=>
  obtain⟨s,a,l,c,t,b,k,d,e,⟨n,l1,c1,i,g⟩,⟨o,l2,c2,m,p⟩⟩:=h;exact⟨s,a,l,c,t,b,k,d,e,⟨n,l1,c1,i,f _ _ _ g⟩,⟨o,l2,c2,m,f _ _ _ p⟩⟩
 |int z=>obtain⟨a,l,c,e,r⟩:=h;exact⟨a,l,c,e,f _ _ _ r⟩
 |big z=>obtain⟨a,l,c,e,r⟩:=h;exact⟨a,l,c,e,f _ _ _ r⟩
 |rat q=>
  obtain⟨s,a,l,c,t,b,k,d,e,⟨n,l1,c1,i,g⟩,⟨o,l2,c2,m,p⟩⟩:=h;exact⟨s,a,l,c,t,b,k,d,e,⟨n,l1,c1,i,f _ _ _ g⟩,⟨o,l2,c2,m,f _ _ _ p⟩⟩
 |ref q=>
  obtain⟨s,a,l,c,t,b,k,d,e,⟨n,l1,c1,i,g⟩,⟨o,l2,c2,m,p⟩⟩:=h;exact⟨s,a,l,c,t,b,k,d,e,⟨n,l1,c1,i,f _ _ _ g⟩,⟨o,l2,c2,m,f _ _ _ p⟩⟩
def Bx(V:E)(B:Nat)(t:TypeId)(cs:Array D):Prop:=V.heap[B]?=some (G cs t (0,0))
variable{cs:Array D}{d:Dat}{m z:Int}{bs:List (Option (Nat × Dat))}{qs:List Rat}{B i:Nat}{q:Rat}{t:TypeId}{u x x0 y:D}{V V' w:E}
theorem Bx.lt(h:Bx V B t cs):B<V.heap.size:=(Ab.1 h).1
theorem Bx.below(h:Bx V B t cs)(a:Bl V V'):Bx V' B t cs:=(a.block B h.lt).trans h
theorem Bx.far(h:Bx V B t cs){p:Addr}(hp:B≠p.block)(u:D):Bx (V.setCell p u) B t cs:=(BD V p u B hp).trans h
def noPoly:List (Option (Nat × Dat))->Bool
 |[]=>true
 |some (_,d)::t=>d.noPoly&&noPoly t
 |Option.none::t=>noPoly t
theorem QS(h:noPoly bs=true){x:Nat × Dat}(e:bs[i]?=some (some x)):x.2.noPoly=true:=by
 induction bs generalizing i with
 |nil=>simp at e
 |cons b t a=>
  cases b with
  |none=>
   cases i with
   |zero=>simp at e
   |succ i=>exact a h (by simpa using e)
  |some y=>
   rw[noPoly,AM]at h;cases i with
   |zero=>simp at e;rw[<-e];exact h.1
   |succ i=>exact a h.2 (by simpa using e)
def Mem(w V:E)(bs:List (Option (Nat × Dat))):Prop:=
 (∀(i:Nat) B d,bs[i]?=some (some (B,d))->(∃cs,Bx V B d.ty cs/\Has V (H cs) d)/\w.heap.size<=B)/\
 (∀(i j:Nat) B d a,bs[i]?=some (some (B,d))->bs[j]?=some (some (B,a))->i=j)/\Bl w V
theorem Mem.nil(w:E):Mem w w []:=⟨λi B z h=>by simp at h,λi j B z a h=>by simp at h,BB _ w⟩
theorem Mem.int{w V:E}{bs:List (Option (Nat × Dat))}(M:Mem w V bs){i B:Nat}{z:Int}(h:bs[i]?=some (some (B,.int z))):∃s a l c,Jn V B 63 (F s) (C a l c)/\Jl V (H #[F s,C a l c]) z:=by
 obtain⟨⟨cs,b,f⟩,_⟩:=M.1 i B _ h;obtain⟨a,l,c,e,d⟩:=f;cases e;exact⟨_,a,l,c,b,a,l,c,rfl,d⟩
theorem Mem.big{w V:E}{bs:List (Option (Nat × Dat))}(M:Mem w V bs){i B:Nat}{z:Int}(h:bs[i]?=some (some (B,.big z))):∃a l c s,Jn V B 83 (C a l c) (F s)/\Jr V (H #[C a l c,F s]) z:=by
 obtain⟨⟨cs,b,f⟩,_⟩:=M.1 i B _ h;obtain⟨a,l,c,e,d⟩:=f;cases e;exact⟨a,l,c,_,b,a,l,c,rfl,d⟩
theorem Mem.rat{w V:E}{bs:List (Option (Nat × Dat))}(M:Mem w V bs){i B:Nat}{q:Rat}(h:bs[i]?=some (some (B,.rat q))):
 ∃s a l c t b k d,JK V B 65 (F s) (C a l c) (F t) (C b k d)/\Jj V (H #[F s,C a l c,F t,C b k d]) q/\Jl V (H #[F s,C a l c]) q.num/\Jl V (H #[F t,C b k d]) (EA q):=by
 obtain⟨⟨cs,g,f⟩,_⟩:=M.1 i B _ h;have n:=f;obtain⟨s,a,l,c,t,b,k,d,e,m,j⟩:=f;cases e;exact⟨s,a,l,c,t,b,k,d,g,n,m,j⟩
theorem Mem.ref{w V:E}{bs:List (Option (Nat × Dat))}(M:Mem w V bs){i B:Nat}{q:Rat}(h:bs[i]?=some (some (B,.ref q))):
 ∃a l c s b k d t,JK V B 85 (C a l c) (F s) (C b k d) (F t)/\Js V (H #[C a l c,F s,C b k d,F t]) q/\Jr V (H #[C a l c,F s]) q.num/\Jr V (H #[C b k d,F t]) (q.den:Int):=by
 obtain⟨⟨cs,g,f⟩,_⟩:=M.1 i B _ h;have n:=f;obtain⟨s,a,l,c,t,b,k,d,e,m,j⟩:=f;cases e;exact⟨s,a,l,c,t,b,k,d,g,n,m,j⟩
theorem Mem.below{w V V':E}{bs:List (Option (Nat × Dat))}(M:Mem w V bs)(a:Bl V V'):Mem w V' bs:=
 ⟨λi B z h=>by
  obtain⟨⟨cs,b,c⟩,d⟩:=M.1 i B z h;exact⟨⟨cs,b.below a,c.below a⟩,d⟩,M.2.1,Bt M.2.2 a⟩
theorem Mem.drew{w V:E}{bs:List (Option (Nat × Dat))}(M:Mem w V bs):Mem w V.drew bs:=M.below ((BB _ V).drew)
theorem Mem.sub{cs:List (Option (Nat × Dat))}(M:Mem w V bs)(f:Nat->Nat)(b:∀(i j:Nat),f i=f j->i=j)(h:∀(i:Nat) x,cs[i]?=some (some x)->bs[f i]?=some (some x)):Mem w V cs:=
 ⟨λi B d a=>M.1 (f i) B d (h i _ a),λi j B d c a e=>b i j (M.2.1 (f i) (f j) B d c (h i _ a) (h j _ e)),M.2.2⟩
theorem Mem.take{w V:E}{bs:List (Option (Nat × Dat))}(M:Mem w V bs)(n:Nat):Mem w V (bs.take n):=by
 refine M.sub id (λ_ _ h=>h) (λi x h=>?_);rw[Fq]at h;split at h
 . exact h
 . cases h
theorem Mem.none{w V:E}{bs:List (Option (Nat × Dat))}(M:Mem w V bs):Mem w V (bs++[Option.none]):=by
 refine M.sub id (λ_ _ h=>h) (λi x h=>?_);by_cases b:i<bs.length
 . rwa[AJ b]at h
 . rw[AB om]at h;obtain⟨k,a⟩:=ex (i-bs.length);rw[a]at h;cases k<;>simp at h
theorem Mem.fill(M:Mem w V bs)(h:bs[i]?=some Option.none)(d:Dat)(p:Has V (H cs) d):
 Mem w (V.alloc (G cs d.ty)) (bs.set i (some (V.heap.size,d))):=by
 have m:Bl V (V.alloc (G cs d.ty)):=Ba V _;have g:i<bs.length:=(Ac.1 h).1;have o:=M.below m;have n:∀(j:Nat) B d,bs[j]?=some (some (B,d))->B<V.heap.size:=λj B d h=>by
  obtain⟨⟨_,a,_⟩,_⟩:=M.1 j B d h;exact a.lt
 refine⟨λj B q e=>?_,λj k B d1 l a c=>?_,o.2.2⟩
 . by_cases b:i=j
   . subst b;rw[A6 g]at e;simp at e;obtain⟨rfl,rfl⟩:=e;exact⟨⟨cs,BE V _,p.below m⟩,M.2.2.size⟩
   . rw[AW b]at e;exact o.1 j B q e
 . by_cases b:i=j<;>by_cases f:i=k
   . omega
   . subst b;rw[A6 g]at a;rw[AW f]at c;simp at a;have:=n k B l c;omega
   . subst f;rw[A6 g]at c;rw[AW b]at a;simp at c;have:=n j B d1 a;omega
   . rw[AW b]at a;rw[AW f]at c;exact M.2.1 j k B d1 l a c
theorem Mem.push(M:Mem w V bs)(d:Dat)(a:Has V (H cs) d):Mem w (V.alloc (G cs d.ty)) (bs++[some (V.heap.size,d)]):=by
 have h:=M.none.fill (i:=bs.length) DQ d a;rwa[QO]at h
theorem Mem.repl(M:Mem w V bs)(h:bs[i]?=some (some (B,d)))(c:Dat)(y:Bx V' B c.ty cs)(u:Has V (H cs) c)
(o:∀k v ds,Row k V v ds->Row k V' v ds)(N:∀B' t cs,B'≠B->Bx V B' t cs->Bx V' B' t cs)(K:Bl w V')
(hp:noPoly bs=true\/∀v qs,RowK true V v qs->RowK true V' v qs)(L:c.noPoly=true\/∀v qs,RowK true V v qs->RowK true V' v qs):Mem w V' (bs.set i (some (B,c))):=by
 have n:i<bs.length:=(Ac.1 h).1;obtain⟨_,p⟩:=M.1 i B d h;refine⟨λj B' d1 a=>?_,λj k B' d1 q z s=>?_,K⟩
 . by_cases b:i=j
   . subst b;rw[A6 n]at a;simp at a;obtain⟨rfl,rfl⟩:=a;exact⟨⟨cs,y,u.keep o L⟩,p⟩
   . rw[AW b]at a;obtain⟨⟨x,l,f⟩,J⟩:=M.1 j B' d1 a;have A:B'≠B:=λe=>b (by rw[e]at a;exact M.2.1 i j B d d1 h a);exact⟨⟨x,N _ _ _ A l,f.keep o (hp.imp (λh=>QS h a) id)⟩,J⟩
 . have m:∀(j:Nat) d1,(bs.set i (some (B,c)))[j]?=some (some (B',d1))->∃g,bs[j]?=some (some (B',g)):=λj d1 a=>by
    by_cases b:i=j
    . subst b;rw[A6 n]at a;simp at a;exact⟨d,by rw[h,a.1]⟩
    . rw[AW b]at a;exact⟨d1,a⟩
   obtain⟨g,l⟩:=m j d1 z;obtain⟨r,f⟩:=m k q s;exact M.2.1 j k B' g r l f
theorem L5(h:Bx V B t cs){o:Nat}(e:cs[o]?=some x0)(n0:Jz x0=true)(r:Bool)(j:t≠EK r)(x:D)(v:D)(qs:List Rat)(c:RowK r V v qs):RowK r (V.setCell ⟨B,o,Option.none⟩ x) v qs:=by
 obtain⟨a,cap,ev,i,k,m,d⟩:=c;refine⟨a,cap,ev,i,k,m,?_⟩;rcases d with d|⟨b,l,f⟩
 . exact Or.inl d
 . refine Or.inr ⟨b,l,f.keep (BD V ⟨B,o,Option.none⟩ x b ?_) (λ_ _ _ c=>Row.set c (cell_of h e) n0 _)⟩;rintro rfl;obtain⟨n,g,_⟩:=f;rw[show V.heap[b]?=_ from h]at g;cases g;exact j rfl
theorem QT{a:D}(q:Jn V B t x0 a){r:Bool}(b:t≠EK r)(n0:Jz x0=true)(c:Jz a=true)(x y:D):∀v qs,RowK r V v qs->RowK r ((V.setCell ⟨B,0,Option.none⟩ x).setCell ⟨B,1,Option.none⟩ y) v qs:=
 λv qs h=>L5 (cs:=#[x,a]) (q.set0 x) (o:=1) rfl c r b y v qs (L5 (cs:=#[x0,a]) q (o:=0) rfl n0 r b x v qs h)
theorem keep2(q:Jn V B t x y)(n0:Jz x=true)(c:Jz y=true)(a b:D):∀k v ds,Row k V v ds->Row k ((V.setCell ⟨B,0,Option.none⟩ a).setCell ⟨B,1,Option.none⟩ b) v ds:=
 λ_ _ _ h=>Row.set (Row.set h q.c0 n0 _) (q.set0 a).c1 c _
theorem Mem.putInt(M:Mem w V bs)(h:bs[i]?=some (some (B,.int m)))(f:Jl V (H #[x,y]) z):
 Mem w ((V.setCell ⟨B,0,Option.none⟩ x).setCell ⟨B,1,Option.none⟩ y) (bs.set i (some (B,.int z))):=by
 obtain⟨s,a,l,c,b,_⟩:=M.int h;obtain⟨_,e⟩:=M.1 i B _ h;exact M.repl h (.int z) (cs:=#[x,y]) ((b.set0 x).set1 y) f (keep2 b rfl rfl x y) (λB' t cs d g=>(g.far (p:=⟨B,0,Option.none⟩) d _).far (p:=⟨B,1,Option.none⟩) d _) ((M.2.2.setCell (p:=⟨B,0,Option.none⟩) e _).setCell (p:=⟨B,1,Option.none⟩) e _) (Or.inr (QT b DS rfl rfl x y)) (Or.inl rfl)
theorem Mem.putBig(M:Mem w V bs)(h:bs[i]?=some (some (B,.big m)))(f:Jr V (H #[x,y]) z):
 Mem w ((V.setCell ⟨B,0,Option.none⟩ x).setCell ⟨B,1,Option.none⟩ y) (bs.set i (some (B,.big z))):=by
 obtain⟨a,l,c,s,b,_⟩:=M.big h;obtain⟨_,e⟩:=M.1 i B _ h;exact M.repl h (.big z) (cs:=#[x,y]) ((b.set0 x).set1 y) f (keep2 b rfl rfl x y) (λB' t cs d g=>(g.far (p:=⟨B,0,Option.none⟩) d _).far (p:=⟨B,1,Option.none⟩) d _) ((M.2.2.setCell (p:=⟨B,0,Option.none⟩) e _).setCell (p:=⟨B,1,Option.none⟩) e _) (Or.inr (QT b DS rfl rfl x y)) (Or.inl rfl)
theorem far4(x y z u:D):∀B' t cs,B'≠B->Bx V B' t cs->Bx (put4 V B x y z u) B' t cs:=λ_ _ _ a g=>(((g.far (p:=⟨B,0,Option.none⟩) a _).far (p:=⟨B,1,Option.none⟩) a _).far (p:=⟨B,2,Option.none⟩) a _).far (p:=⟨B,3,Option.none⟩) a _
theorem Mem.putRat(M:Mem w V bs){q0:Rat}(h:bs[i]?=some (some (B,.rat q0))){z:D}(d:Jj V (H #[x,y,z,u]) q)(b:noPoly bs=true:=by rfl):
 Mem w (put4 V B x y z u) (bs.set i (some (B,.rat q))):=by
 obtain⟨_,_,_,_,_,_,_,_,a,_⟩:=M.rat h;obtain⟨_,c⟩:=M.1 i B _ h;exact M.repl h (.rat q) (cs:=#[x,y,z,u]) (a.put x y z u) d (λ_ _ _ g=>Row.put4 g a rfl rfl rfl rfl _ _ _ _) (far4 x y z u) (Jt M.2.2 c _ _ _ _) (Or.inl b) (Or.inl rfl)
theorem Mem.zref{w V:E}{bs:List (Option (Nat × Dat))}(M:Mem w V bs){i B:Nat}(h:bs[i]?=some (some (B,.zref))):JK V B 85 (C Option.none 0 0) (F false) (C Option.none 0 0) (F false):=by
 obtain⟨⟨cs,a,b⟩,_⟩:=M.1 i B _ h;cases(show Value.agg cs=_ from b);exact a
theorem Has.set2{v:D}(h:Has V v d)(q:Jn V B t x y)(n0:Jz x=true)(c:Jz y=true)(b a:D)(e:d.noPoly=true:=by rfl):Has ((V.setCell ⟨B,0,Option.none⟩ b).setCell ⟨B,1,Option.none⟩ a) v d:=h.keep (keep2 q n0 c b a) (Or.inl e)
theorem Has.put4{V:E}{v:D}{d:Dat}(h:Has V v d){B:Nat}{t:TypeId}{x y z u:D}(q:JK V B t x y z u)(n0:Jz x=true)(e:Jz y=true)(a:Jz z=true)(f:Jz u=true)(k i c b:D)(j:d.noPoly=true:=by rfl):Has (Go.Proofs.YteldjhhjnchdeaaGreatDoor.put4 V B k i c b) v d:=h.keep (λ_ _ _ g=>Row.put4 g q n0 e a f _ _ _ _) (Or.inl j)
theorem Mem.ne(M:Mem w V bs)(i j:Nat){B':Nat}{a:Dat}(h:bs[i]?=some (some (B,d)))(b:bs[j]?=some (some (B',a)))(c:i≠j):B≠B':=λe=>by
 subst e;exact c (M.2.1 i j B d a h b)
theorem Mem.ge(M:Mem w V bs)(i:Nat)(h:bs[i]?=some (some (B,d))):w.heap.size<=B:=(M.1 i B d h).2
def Tup2(V:E)(t:D)(d1 a:Dat):Prop:=∃u1 u2,t=.tuple #[u1,u2,F true]/\Has V u1 d1/\Has V u2 a
theorem Tup2.below{V V':E}{t:D}{d1 a:Dat}(h:Tup2 V t d1 a)(b:Bl V V'):Tup2 V' t d1 a:=by
 obtain⟨u1,u2,e,c,d⟩:=h;exact⟨u1,u2,e,c.below b,d.below b⟩
theorem Tup2.alloc{V:E}{t:D}{d1 a:Dat}(h:Tup2 V t d1 a)(o:Obj):Tup2 (V.alloc o) t d1 a:=by
 obtain⟨u1,u2,e,b,c⟩:=h;exact⟨u1,u2,e,b.alloc o,c.alloc o⟩
theorem Tup2.set2{V:E}{v:D}{d1 a:Dat}(h:Tup2 V v d1 a){B:Nat}{t:TypeId}{x y:D}(q:Jn V B t x y)(n0:Jz x=true)(d:Jz y=true)(c b:D)(g:d1.noPoly=true:=by rfl)(i:a.noPoly=true:=by rfl):Tup2 ((V.setCell ⟨B,0,Option.none⟩ c).setCell ⟨B,1,Option.none⟩ b) v d1 a:=by
 obtain⟨u1,u2,e,f,j⟩:=h;exact⟨u1,u2,e,f.set2 q n0 d c b g,j.set2 q n0 d c b i⟩
theorem Mem.rats{w V:E}{bs:List (Option (Nat × Dat))}(M:Mem w V bs){i B:Nat}{qs:List Rat}(h:bs[i]?=some (some (B,.rats qs))):Dz true V B qs:=by
 obtain⟨⟨cs,b,a⟩,_⟩:=M.1 i B _ h;obtain⟨c,e,a⟩:=a;cases e;exact⟨cs,b,a⟩
theorem Mem.putRats(M:Mem w V bs)(h:bs[i]?=some (some (B,.rats qs))){j:Nat}(m:j<qs.length){z:D}(J:Jj V (H #[x,y,z,u]) q)(N:noPoly bs=true:=by rfl):
 Mem w (putAt V B (j*4) x y z u) (bs.set i (some (B,.rats (qs.set j q)))):=by
 have p:=M.rats h;obtain⟨_,l⟩:=M.1 i B _ h;obtain⟨cs,c1,c2⟩:=Dz.set (r:=true) p m J;have O:=p.putKeep m x y z u;have o:i<bs.length:=(Ac.1 h).1;refine⟨λb B' d1 a=>?_,λb k B' d1 s A P=>?_,QQ M.2.2 l _ _ _ _⟩
 . by_cases c:i=b
   . subst c;rw[A6 o]at a;simp at a;obtain⟨rfl,rfl⟩:=a;exact⟨⟨cs,c1,cs,rfl,c2⟩,l⟩
   . rw[AW c]at a;obtain⟨⟨v,g,d⟩,L⟩:=M.1 b B' d1 a;have K:B'≠B:=λe=>c (by rw[e]at a;exact M.2.1 i b B _ d1 h a);exact⟨⟨v,(Kw K x y z u).trans g,d.keep O (Or.inl (QS N a))⟩,L⟩
 . have n:∀(b:Nat) d1,(bs.set i (some (B,.rats (qs.set j q))))[b]?=some (some (B',d1))->∃f,bs[b]?=some (some (B',f)):=λb d1 a=>by
    by_cases c:i=b
    . subst c;rw[A6 o]at a;simp at a;exact⟨_,by rw[h,a.1]⟩
    . rw[AW c]at a;exact⟨d1,a⟩
   obtain⟨f,g⟩:=n b d1 A;obtain⟨t,d⟩:=n k s P;exact M.2.1 b k B' f t g d
theorem Mem.cell{w V:E}{bs:List (Option (Nat × Dat))}(M:Mem w V bs){i B:Nat}{t:TypeId}{v:D}(h:bs[i]?=some (some (B,.cell t v))):Boxed V B t v/\Jz v=true:=by
 obtain⟨⟨cs,b,a⟩,_⟩:=M.1 i B _ h;obtain⟨e,a⟩:=a;cases e;exact⟨b,a⟩
theorem Mem.poly{w V:E}{bs:List (Option (Nat × Dat))}(M:Mem w V bs){i B:Nat}{ps:List Rat}(h:bs[i]?=some (some (B,.poly ps))):∃a l c,Boxed V B 25 (C a l c)/\RowK true V (C a l c) ps:=by
 obtain⟨⟨cs,d,b⟩,_⟩:=M.1 i B _ h;obtain⟨a,l,c,e⟩:=Jg.form b;cases e;exact⟨a,l,c,d,Jg.row b⟩
theorem QU(q:Boxed V B t x)(n0:Jz x=true)(a:D):∀k v ds,Row k V v ds->Row k (V.setCell ⟨B,0,Option.none⟩ a) v ds:=
 λ_ _ _ h=>Row.set h q.cell n0 _
theorem Mem.putPoly(M:Mem w V bs){e:List Rat}(h:bs[i]?=some (some (B,.poly e))){ps:List Rat}(j:Jg V (H #[x]) ps):
 Mem w (V.setCell ⟨B,0,Option.none⟩ x) (bs.set i (some (B,.poly ps))):=by
 obtain⟨a,l,c,b,_⟩:=M.poly h;obtain⟨_,f⟩:=M.1 i B _ h;have d:∀v qs,RowK true V v qs->RowK true (V.setCell ⟨B,0,Option.none⟩ x) v qs:=L5 (cs:=#[C a l c]) b (o:=0) rfl rfl true DS x;exact M.repl h (.poly ps) (cs:=#[x]) (b.set x) j (QU b rfl x) (λB' t cs k g=>g.far (p:=⟨B,0,Option.none⟩) k _) (M.2.2.setCell (p:=⟨B,0,Option.none⟩) f _) (Or.inr d) (Or.inr d)
theorem Mem.adopt(M:Mem w V bs)(p:Bl V V'){g:Nat}(n:V.heap.size<=g)(m:Dz true V' g qs):Mem w V' (bs++[some (g,.rats qs)]):=by
 have f:=M.below p;have e:∀(j:Nat) B d,bs[j]?=some (some (B,d))->B<V.heap.size:=λj B d h=>by
  obtain⟨⟨_,a,_⟩,_⟩:=M.1 j B d h;exact a.lt
 have c:∀(j:Nat) x,(bs++[some (g,Dat.rats qs)])[j]?=some (some x)->bs[j]?=some (some x)\/(j=bs.length/\x=(g,.rats qs)):=λj x h=>by
  by_cases i:j<bs.length
  . rw[AJ i]at h;exact Or.inl h
  . rw[AB om]at h;obtain⟨k,o⟩:=ex (j-bs.length);rw[o]at h;cases k with
    |zero=>simp at h;exact Or.inr ⟨om,h.symm⟩
    |succ k=>simp at h
 refine⟨λj B d h=>?_,λj k B d1 l a b=>?_,f.2.2⟩
 . rcases c j _ h with h|⟨_,h⟩
   . exact f.1 j B d h
   . cases h;obtain⟨cs,c1,c2⟩:=m;exact⟨⟨cs,c1,cs,rfl,c2⟩,As M.2.2.size n⟩
 . rcases c j _ a with a|⟨q,a⟩<;>rcases c k _ b with b|⟨r,b⟩
   . exact M.2.1 j k B d1 l a b
   . cases b;have:=e j _ _ a;omega
   . cases a;have:=e k _ _ b;omega
   . omega
end M3
def EG(W:E)(b:Nat)(xs:List Nat):Prop:=∃a:List D,W.heap[b]?=some (G (cellsOf .i64 xs++a).toArray 3 (0,0))
variable{a:Act}{K:Act->E->Prop}{f:Array Oper}{Q:Exit->Act->E->Prop}{bs d xs:List Nat}{b c i k:Nat}{o:Oper}{P:Program}{W W' w:E}
theorem EG.lt(h:EG W b xs):b<W.heap.size:=by obtain⟨_,h⟩:=h;exact(Ab.1 h).1
theorem EG.cell{W:E}{b:Nat}{xs:List Nat}(h:EG W b xs){j:Nat}(a:j<xs.length):W.cell? ⟨b,j,none⟩=some (.int .i64 (xs[j]?.getD 0:Nat)):=by
 obtain⟨c,h⟩:=h;have e:(cellsOf .i64 xs++c)[j]?=some (.int .i64 (xs[j]?.getD 0:Nat)):=by
  rw[AJ (by rw[Yn];exact a)];simp[cellsOf,List.getElem?_eq_getElem a]
 simp[World.cell?,h,e]
theorem EG.frozen{W:E}{b:Nat}{xs:List Nat}(h:EG W b xs)(j:Nat):W.frozen? ⟨b,j,none⟩=false:=by obtain⟨_,h⟩:=h;simp[World.frozen?,h]
theorem EG.of_block(h:EG W b xs)(e:W'.heap[b]?=W.heap[b]?):EG W' b xs:=by obtain⟨a,h⟩:=h;exact⟨a,e.trans h⟩
theorem EG.below(h:EG W b xs)(a:Bl W W'):EG W' b xs:=h.of_block (a.block b h.lt)
theorem EG.set{W:E}{b:Nat}{xs:List Nat}(h:EG W b xs)(j v:Nat):EG (W.setCell ⟨b,j,none⟩ (.int .i64 (v:Nat))) b (xs.set j v):=by
 obtain⟨d,h⟩:=h;obtain⟨f,g⟩:=Ab.1 h;have e:∃c,(cellsOf .i64 xs++d).set j (.int .i64 (v:Nat))=cellsOf .i64 (xs.set j v)++c:=by
  rcases AO j xs.length with a|a
  . exact⟨d,by rw[FL _ _ (by rw[Yn];exact a)];simp[cellsOf,List.map_set]⟩
  . exact⟨_,by rw[Cz _ _ (by rw[Yn];exact a),CX a]⟩
 obtain⟨c,e⟩:=e;refine⟨c,?_⟩;show(W.heap.modify b _)[b]?=_;rw[Ca (by rw[CI];exact f),Cj,g,<-e];simp
theorem EG.made(h:W.heap[b]?=some (G (cellsOf .i64 xs).toArray 3 (0,0))):EG W b xs:=⟨[],by rw[Cl];exact h⟩
theorem EG.row(h:EG W b xs)(off len cap:Nat)(d:off+len<=xs.length)(g:len<=cap)(c:cap<=9223372036854775807)(i:len<=1099511627776):Row .i64 W (C (some ⟨b,off,none⟩) len cap) ((xs.drop off).take len):=by
 have e:((xs.drop off).take len).length=len:=by rw[Al,AV];omega
 refine⟨_,cap,by rw[e],om,c,om,Or.inr ⟨b,off,rfl,(by obtain⟨f,h⟩:=h;exact⟨_,_,h⟩),λj a=>?_⟩⟩;rw[e]at a;rw[h.cell om,AH a,CL]
theorem ZP(n:Nat):madeCells #[.int .i64 0] n=(cellsOf .i64 (List.replicate n 0)).toArray:=by
 apply Array.ext
 . simp[madeCells,cellsOf]
 . intro i a b;simp[madeCells,cellsOf,Nat.mod_one]
theorem QV(n:Nat)(h:n<=2199023255552)(w:E):(Instr.makeSlice 81 (.int .i64 (n:Int)) (.int .i64 (n:Int))).run I w=.ok (C (some ⟨w.heap.size,0,none⟩) n n) (w.alloc (G (cellsOf .i64 (List.replicate n 0)).toArray 3)):=by
 rw[<-ZP];exact run_make_row' 81 3 (.int .i64 0) 8 Tryz.underlying81 Tryz.infoInt rfl .i64 .i64 n om om w
theorem OE(B:Nat):∀(D:List Nat) (j d:Nat),j<D.length->val B (D.set j d)+B^j*D[j]?.getD 0=val B D+B^j*d
 |[],_,_,h=>by cases h
 |x::D,0,d,_=>by simp[val];omega
 |x::D,j+1,d,h=>by
  have a:=OE B D j d (by simpa using h);simp only[List.set_cons_succ,val,Ae,AP];have e:B*val B (D.set j d)+B*(B^j*D[j]?.getD 0)=B*val B D+B*(B^j*d):=by rw[<-Ax,a,Ax]
  have b:B^j*B*D[j]?.getD 0=B*(B^j*D[j]?.getD 0):=by rw[Ar (B^j) B,Ay]
  have c:B^j*B*d=B*(B^j*d):=by rw[Ar (B^j) B,Ay]
  omega
theorem QW(B n:Nat):val B (List.replicate n 0)=0:=by
 induction n with
 |zero=>rfl
 |succ n a=>rw[C7,val,a];simp
theorem DT.set{B:Nat}{D:List Nat}(h:DT B D)(j:Nat){d:Nat}(b:d<B):DT B (D.set j d):=λx c=>by
 rcases List.mem_or_eq_of_mem_set c with a|a
 . exact h x a
 . rw[a];exact b
def Ha(a bs:List Nat)(i:Nat)(D:List Nat):Prop:=
 D.length=a.length+bs.length+1/\DT 10000 D/\val 10000 D=val 10000 (a.take i)*val 10000 bs
def Gl(a bs:List Nat)(i k c:Nat)(D:List Nat):Prop:=
 D.length=a.length+bs.length+1/\DT 10000 D/\c<10000/\
  val 10000 D+10000^(i+k)*c=val 10000 (a.take i)*val 10000 bs+10000^i*(a[i]?.getD 0*val 10000 (bs.take k))
theorem Ha.start(a bs:List Nat):Ha a bs 0 (List.replicate (a.length+bs.length+1) 0):=
 ⟨Au,λx b=>by rw[CF b];omega,by rw[QW];simp[val]⟩
theorem Ha.inner{D:List Nat}(h:Ha d bs i D):Gl d bs i 0 0 D:=by
 obtain⟨a,c,b⟩:=h;refine⟨a,c,om,?_⟩;rw[b];simp[val]
theorem Gl.total{D:List Nat}(h:Gl d bs i k c D)(a:bs.length<=k):val 10000 D+10000^(i+k)*c=val 10000 (d.take (i+1))*val 10000 bs:=by
 obtain⟨_,_,_,b⟩:=h;rw[b,Ad a,Jq,AA,Ay]
theorem Gl.done{D:List Nat}(h:Gl d bs i k 0 D)(a:bs.length<=k):Ha d bs (i+1) D:=by
 have:=h.total a;exact⟨h.1,h.2.1,om⟩
theorem Gl.over{D:List Nat}(h:Gl d bs i k c D)(e:DT 10000 d)(g:DT 10000 bs)(m:i<d.length)(n:bs.length<k):c=0:=by
 have l:=h.total om;have b:=Yi (e.take (i+1));have j:=Yi g;rw[Al,CC om]at b;have f:val 10000 (d.take (i+1))*val 10000 bs<10000^(i+1)*10000^bs.length:=Nat.mul_lt_mul'' b j;rw[<-CG]at f;have o:10000^(i+1+bs.length)<=10000^(i+k):=Aw om om;rcases AY c with a|a
 . exact a
 . have:=Av (10000^(i+k)) a;omega
theorem Gl.step{D:List Nat}(h:Gl d bs i k c D)(f:DT 10000 d)(n:DT 10000 bs)(g:i+k<D.length)(c1:Nat)(b:c1=c+D[i+k]?.getD 0+d[i]?.getD 0*bs[k]?.getD 0):
 Gl d bs i (k+1) (c1/10000) (D.set (i+k) (c1%10000)):=by
 obtain⟨e,a,s,o⟩:=h;have x1:=f.getD om i;have p:=n.getD om k;have r:=a.getD om (i+k);have q:d[i]?.getD 0*bs[k]?.getD 0<=9999*9999:=CN om om;refine⟨by rw[Cq];exact e,a.set _ (A7 _ om),om,?_⟩;have l:=OE 10000 D (i+k) (c1%10000) g;rw[Jq,Ax,Ax];have j:10000^(i+(k+1))*(c1/10000)+10000^(i+k)*(c1%10000)=10000^(i+k)*c1:=by
  rw[<-CO,AP,Ay,<-Ax,Cc]
 have m:10000^i*(d[i]?.getD 0*(10000^k*bs[k]?.getD 0))=10000^(i+k)*(d[i]?.getD 0*bs[k]?.getD 0):=by
  rw[CG,Ay];congr 1;rw[Nat.mul_left_comm]
 rw[b,Ax,Ax]at j;rw[m];rw[b]at l ⊢;omega
theorem Ha.fin{D:List Nat}{m n:Nat}(h:Ha d bs d.length D)(b:d=Jc 10000 m)(c:bs=Jc 10000 n):Jw D=Jc 10000 (m*n):=by
 obtain⟨_,e,a⟩:=h;rw[Ad (Aa _)]at a;rw[<-J9 om e,a,b,c,Jo om,Jo om]
theorem Jn.keptG{B:Nat}{t:TypeId}{x y:D}{g:Nat}(h:Jn W B t x y)(b:W.grownBy W' (some g))(a:B≠g):Jn W' B t x y:=
 (b.block B h.lt (λe=>a (by cases e;rfl))).trans h
theorem ZR{x y:Nat}(a:x<10000)(b:y<10000):x*y<=99980001/\IntKind.i64.wrap ((x:Int)*(y:Int))=((x*y:Nat):Int):=by
 have h:x*y<=9999*9999:=CN om om;refine⟨om,?_⟩;have e:(x:Int)*(y:Int)=((x*y:Nat):Int):=by rw[Fa]
 rw[e];generalize x*y=p at *;simp[IntKind.wrap,IntKind.signed,IntKind.bits];omega
theorem ZS(a b:Option Addr)(la lb ca cb m n:Nat)(s t:Bool)(w:E)(ra:RN w (C a la ca) m)(rb:RN w (C b lb cb) n)(bi:la<=1000000000)(bc:lb<=1000000000):
 Calls I 82 #[H #[C a la ca,F s],H #[C b lb cb,F t]] w λe J=>∃c Z cc,e=.returned (H #[C c Z cc,F ((s != t)&&decide (0<Z))])/\RN J (C c Z cc) (m*n)/\Bl w J:=by
 obtain⟨W0,r⟩:=ex (((w.alloc (G #[C a la ca,F s] 83)).alloc (G #[C b lb cb,F t] 83)).alloc (G #[C none 0 0,F false] 83));have Qh:Bl w W0:=by rw[<-r];exact Xn w _ _ _
 have b0:Jn W0 w.heap.size 83 (C a la ca) (F s):=by rw[<-r];exact((Jn.new w _ _ _).alloc _).alloc _
 have T:Jn W0 (w.heap.size+1) 83 (C b lb cb) (F t):=by
  have h:=(Jn.new (w.alloc (G #[C a la ca,F s] 83)) 83 (C b lb cb) (F t)).alloc (G #[C none 0 0,F false] 83);rw[A1,r]at h;exact h
 have bR:Jn W0 (w.heap.size+1+1) 83 (C none 0 0) (F false):=by
  have h:=Jn.new ((w.alloc (G #[C a la ca,F s] 83)).alloc (G #[C b lb cb,F t] 83)) 83 (C none 0 0) (F false);rw[A1,A1,r]at h;exact h
 have Qi:W0.heap.size=w.heap.size+3:=by rw[<-r];simp
 obtain⟨ad,az,bk,bn,ae⟩:=Ju ra;obtain⟨U,bm,bg,bh,af⟩:=Ju rb;have HF:=Ja (λD (h:Ha (Jc 10000 m) (Jc 10000 n) (Jc 10000 m).length D)=>h.fin (m:=m) (n:=n) rfl rfl);have P:=Jp (B:=10000) om m;have S:=Jp (B:=10000) om n;have O:=QV (la+lb+1) om W0;rw[show((la+lb+1:Nat):Int)=(la:Int)+(lb:Int)+1 from by omega]at O;obtain⟨l,q⟩:=ex (W0.alloc (G (cellsOf .i64 (List.replicate (la+lb+1) 0)).toArray 3));rw[q]at O;obtain⟨g,X⟩:∃g,g=W0.heap.size:=⟨_,rfl⟩;rw[<-X]at O Qi;have Ql:EG l g (List.replicate (la+lb+1) 0):=by rw[<-q,X];exact EG.made (BE W0 _)
 have A:Bl w l:=by rw[<-q];exact Qh.alloc Qh.size _
 have q0:Jn l w.heap.size 83 (C a la ca) (F s):=by rw[<-q];exact b0.alloc _
 have q1:Jn l (w.heap.size+1) 83 (C b lb cb) (F t):=by rw[<-q];exact T.alloc _
 have qR:Jn l (w.heap.size+1+1) 83 (C none 0 0) (F false):=by rw[<-q];exact bR.alloc _
 have k0:=b0.c0;have k1:=T.c0;have Y:=Ja (Ha.start (Jc 10000 m) (Jc 10000 n));generalize Jc 10000 m=R at *;generalize Jc 10000 n=M at *;obtain⟨H1,H2,Q,K⟩:=EC ae af ad U;rw[<-ad,<-U]at Y;have bf:w.heap.size+2<g:=om
 clear Qi;clear ae af ad U ra rb q X b0 T bR;go_enter Tryz.func82,Tryz.ntmps82
 go_wp2;clear r O k0 k1;go_loopw [6] (λiv wr=>∃(i:Nat) (D:List Nat),iv=.int .i64 i/\i<=la/\Hid (Ha R M i D)/\EG wr g D/\l.grownBy wr (some g))
  (λiv _=>la-(intOf iv).toNat)
 case atStart=>exact⟨0,_,rfl,AK _,Y.o,Ql,YD _ _⟩
 case round=>
  clear Y Ql;obtain⟨i,D,rfl,hi,N,j,f⟩:=hrel;have m0:=(q0.keptG f om).c0;have m1:=(q0.keptG f om).c1;have m2:=(q1.keptG f om).c0;have m3:=(q1.keptG f om).c1;by_cases am:i<la
  . have HI:=Ja N.o.inner;clear N;obtain⟨ab,ao,rfl,ap,ah⟩:=H1.o i am;go_wp2;go_loopw [7,8] (λcv kv wr=>∃(c k:Nat) (D:List Nat),cv=.int .i64 c/\kv=.int .i64 k/\k<=lb+1/\c<10000/\Hid (Gl R M i k c D)/\EG wr g D/\l.grownBy wr (some g))
     (λ_ kv _=>lb+2-(intOf kv).toNat)
    case atStart=>exact⟨0,0,D,rfl,rfl,om,om,HI,j,f⟩
    case round=>
     clear HI j f m0 m1 m2 m3;obtain⟨c,k,D,rfl,rfl,hk,hc,o,j,f⟩:=hrel;have m0:=(q0.keptG f om).c0;have m2:=(q1.keptG f om).c0;have Qg:=o.o.1;rw[<-Q.o,<-K.o]at Qg;by_cases an:k<lb
     . obtain⟨bb,bo,rfl,aq,aj⟩:=H2.o k an;have bu:wr.cell? ⟨ab,ao+i,none⟩=some (.int .i64 (R[i]?.getD 0:Nat)):=(BO (w:=l) (f.block ab (by have:=A.size;omega) (λe=>by cases e;omega))).trans ((A.cell (p:=⟨ab,ao+i,none⟩) ap).trans ah);have bj:wr.cell? ⟨bb,bo+k,none⟩=some (.int .i64 (M[k]?.getD 0:Nat)):=(BO (w:=l) (f.block bb (by have:=A.size;omega) (λe=>by cases e;omega))).trans ((A.cell (p:=⟨bb,bo+k,none⟩) aq).trans aj);have Qn:wr.cell? ⟨g,i+k,none⟩=some (.int .i64 (D[i+k]?.getD 0:Nat)):=j.cell om;have Qm:=j.frozen (i+k);have y1:=P.getD om i;have y2:=S.getD om k;have y3:=o.o.2.1.getD om (i+k);have z:=Ja (o.o.step P S om _ rfl);obtain⟨z1,z2⟩:=ZR y1 y2;generalize R[i]?.getD 0=x at *;generalize M[k]?.getD 0=y at *;generalize D[i+k]?.getD 0=d at *;generalize x*y=p at *;clear ah aj;go_upto_region 11 with fail
       go_quiet (fail)
       go_wp2;have e2:((c:Int)+(d:Int)+(p:Int))%10000=(((c+d+p)%10000:Nat):Int):=om
       rw[e2];exact⟨⟨(c+d+p)/10000,k+1,D.set (i+k) ((c+d+p)%10000),by go_num,DQ,om,z.o.2.2.1,z,EG.set (W:=wr.drewN nq) j _ _,Jh (B:=wr.drewN nq) ⟨f.os,f.tape,f.output,f.size,f.block⟩ (JC _ _ _ _)⟩,by simp[intOf];omega⟩
     . rcases AY c with ai|ai
       . subst ai;have HN:=Ja (o.o.done (by rw[<-K.o];omega));clear o;go_wp2;exact⟨⟨i+1,D,DQ,om,HN,j,f⟩,by simp[intOf];omega⟩
       . have bt:k<=lb:=by
          rcases AO lb k with h|h
          . have:=o.o.over P S (by rw[<-Q.o];exact am) (by rw[<-K.o];exact h);omega
          . exact h
         have Qn:wr.cell? ⟨g,i+k,none⟩=some (.int .i64 (D[i+k]?.getD 0:Nat)):=j.cell om;have Qm:=j.frozen (i+k);have y3:=o.o.2.1.getD om (i+k);have Qj:M[k]?.getD 0=0:=by rw[At (by rw[<-K.o];omega)];rfl
         have z:=Ja (o.o.step P S om _ rfl);rw[Qj,Cv,Ci]at z;clear Qj;generalize D[i+k]?.getD 0=d at *;go_wp2;have e2:((c:Int)+(d:Int))%10000=(((c+d)%10000:Nat):Int):=om
         rw[e2];exact⟨⟨(c+d)/10000,k+1,D.set (i+k) ((c+d)%10000),by go_num,DQ,om,z.o.2.2.1,z,EG.set j _ _,Jh f (JC _ _ _ _)⟩,by simp[intOf];omega⟩
  . obtain rfl:i=la:=om
    have Qf:Row .i64 wr (C (some ⟨g,0,none⟩) (i+lb+1) (i+lb+1)) D:=by
     have Qg:=N.o.1;rw[<-Q.o,<-K.o]at Qg;have h1:=j.row 0 (i+lb+1) (i+lb+1) om (Aa _) om om;rwa[AE,Ad om]at h1
    have Qo:=Ja (HF.o D (by rw[<-Q.o];exact N.o));have Qk:Bl w wr:=below_grown A f om;have V:=qR.keptG f om;have p0:=q0.keptG f om;have p1:=q1.keptG f om;clear N HF H1 H2;go_upto_region 14 with fail
    have hq:Bl wr wr.drew:=(BB _ wr).drew;have ay:¬(w.heap.size=w.heap.size+1+1):=om
    go_region_held3 (λJ=>J.cell? ⟨w.heap.size,1,none⟩=some (F s)/\J.cell? ⟨w.heap.size+1,1,none⟩=some (F t)) (refine⟨?_,?_⟩<;>(first|(go_keep;done)|((repeat rw[JH om]);simp[*];done)))
     (first
      |(go_at_call 116;refine(NP _ D _ (Row.below Qf hq)).mono ?_;rintro e w1 ⟨u,rfl,L,rfl⟩;rw[Qo.o]at L;obtain⟨a',c',rfl⟩:=RN.form L)
      |(go_at_call 112;refine(Ia _ _ _ _ _).mono ?_;rintro e w2 ⟨rfl,ak⟩;have L:=Row.below L ak;have hq:=Bt hq ak;have m1:=(p0.below hq).c1;have m3:=(p1.below hq).c1;obtain⟨r0,r1⟩:=(V.below hq).cp;obtain⟨f0,f1⟩:=(V.below hq).fp))
    all_goals go_wp2_with fail
    obtain⟨hr,aw⟩:=YO (C a' (Jc 10000 (m*n)).length c') (F (!(s==t)&&decide (0<(Jc 10000 (m*n)).length))) (Bt Qk hq) om (V.below hq) rfl rfl L;exact BA (v:=H #[C a' (Jc 10000 (m*n)).length c',F (!(s==t)&&decide (0<(Jc 10000 (m*n)).length))]) (by simp[results,Tryz.results82,go_sem,r0,r1]) rfl ⟨_,_,_,rfl,hr,aw⟩
theorem X0(n k:D)(x y:Int)(w:E)(t:Jr w n x)(s:Jr w k y)(p:ET x<=1000000000)(z:ET y<=1000000000):
 Calls I 82 #[n,k] w λe i=>∃u,e=.returned u/\Jr i u (x*y)/\Bl w i:=by
 obtain⟨a,la,ca,rfl,l⟩:=t;obtain⟨b,lb,cb,rfl,o⟩:=s;have J:=(Ju l).1;have K:=(Ju o).1;unfold ET at p z;refine(ZS a b la lb ca cb _ _ _ _ w l o om om).mono ?_;rintro e i ⟨c,j,r,rfl,m,A⟩;refine⟨_,rfl,⟨c,j,r,?_,?_⟩,A⟩
 . have hl:=(Ju m).1;have v:((decide (x<0) != decide (y<0))&&decide (0<j))=decide (x*y<0):=by
    rw[Cp];simp only[AM,BR];have q:0<j↔x.natAbs*y.natAbs≠0:=by
     rw[hl,Aq,Ne,JA om]
    rw[q];rcases FH x 0 with d|d|d<;>rcases FH y 0 with f|f|f
    . have:=Int.mul_pos_of_neg_of_neg d f;simp[d,f];omega
    . subst f;simp
    . have:=Int.mul_neg_of_neg_of_pos d f;have g:¬y<0:=om
      simp only[d,g,DI,DA,this,iff_true];exact⟨rfl,FP om om⟩
    . subst d;simp
    . subst d;simp
    . subst d;simp
    . have:=Int.mul_neg_of_pos_of_neg d f;have g:¬x<0:=om
      simp only[f,g,DI,DA,this,iff_true];exact⟨rfl,FP om om⟩
    . subst f;simp
    . have:=Int.mul_pos d f;have g:¬x<0:=om
      have B:¬y<0:=om
      simp[g,B];omega
   rw[v]
 . rw[CW];exact m
theorem L6{n:Int}(a:-9223372036854775808<=n)(c:n<=9223372036854775807):ET n<=1000000000:=by
 have b:=JJ (B:=10000) om (n:=n.natAbs) (k:=5) om;unfold ET;omega
theorem Yb(d:f[i]?=some o)(c:Region.wanted o (yielded f a.tmps)=true)
(h:∀b:Act->E->Prop,(∀a w,K a w->b a w)->o.wp P a w b Q):wpOp P f Q i K a w:=by
 unfold wpOp;rw[d];simp only[c,if_true];exact Or.inl (h K (λ_ _ h=>h))
theorem Et{p q:Prop}(k:q)(h:Hid q->p:=by intro x;refine Yb rfl rfl λK a=>?_;go_simp;refine a _ _ ?_;(repeat apply Exists.intro);refine ⟨rfl,?_⟩;exact x.o):p:=h k
theorem Ym(c:f[i]?=some o)(b:Region.wanted o (yielded f a.tmps)=false)
(h:K (a.put o.dst undef) w):wpOp P f Q i K a w:=by
 unfold wpOp;rw[c];simp only[b];exact h

