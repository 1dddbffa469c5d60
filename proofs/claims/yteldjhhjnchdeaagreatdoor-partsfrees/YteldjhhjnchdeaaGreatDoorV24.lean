import Derived.Test.YteldjhhjnchdeaaGreatDoorV20
import Derived.Test.YteldjhhjnchdeaaGreatDoorV15
import Derived.Test.YteldjhhjnchdeaaGreatDoorV16
import Derived.Test.YteldjhhjnchdeaaGreatDoorV06
import Derived.Lib.SliceRun
import Derived.Deep.OwnRows
import Derived.Test.YteldjhhjnchdeaaGreatDoorV23
open Go.Value renaming slice->C,bool->F,agg->H
open Go renaming World->E,Value->D
open Go.Obj renaming cells->G
open Go.Proofs.Tryz renaming prog->I
set_option maxRecDepth 100000
set_option maxHeartbeats 16000000
namespace Go.Proofs.YteldjhhjnchdeaaGreatDoor
open Go.RowKit Go.Shelf
section
variable{z:Int}{v:D}{W:E}
theorem ZL(a:Option Addr)(cap:Nat)(w:E):
 Calls I 107 #[H #[F false,C a 0 cap]] w λe b=>e=.returned (.string ⟨#[48]⟩)/\Bl w b:=by
 have b0:=Jn.new w 63 (F false) (C a 0 cap);have c:=b0.c1;go_enter Tryz.func107,Tryz.ntmps107
 go_wp2;go_ret;exact⟨rfl,Ba w _⟩
theorem ZM(s:Bool)(a:Option Addr)(l cap:Nat)(T:ByteArray)(w:E)(hl:0<l)(i:T.size<=100000000000000)
(c:∀V,Bl w V->Calls I 134 #[C a l cap] V λe b=>e=.returned (.string T)/\Bl V b):
 Calls I 107 #[H #[F s,C a l cap]] w λe b=>e=.returned (.string (if s then(⟨#[45]⟩:ByteArray)++T else T))/\Bl w b:=by
 have b0:=Jn.new w 63 (F s) (C a l cap);have d:Bl w (w.alloc (G #[F s,C a l cap] 63)):=Ba w _;obtain⟨j,k⟩:=b0.cp;have f:=J c;clear c;cases s;all_goals
  go_enter Tryz.func107,Tryz.ntmps107
  go_wp2_with(go_at_call 134;refine(f.o _ d).mono ?_;rintro e m ⟨rfl,g⟩)
  go_ret;exact⟨O,Bt d g⟩
theorem Im(n:Nat):(Xp n).length<=20*(Jc Z n).length+1:=by
 unfold Xp;split
 . simp
 . rw[O6];have a:n<Z^(Jc Z n).length:=by
    have:=Yh (Jp Jf n);rwa[Jo Jf]at this
   have b:Z^(Jc Z n).length<=10^(20*(Jc Z n).length):=by
    rw[FI];exact CR uo _
   have:=JK (B:=10) Y (AC a b);omega
theorem OB(v:D)(z:Int)(w:E)(h:Jm w v z)(m:Lib.TabIs I w "internal/strconv.uint64pow10" .u64 Lib.pow10Tab):
 Calls I 107 #[v] w λe g=>e=.returned (.string ⟨(YX z).toArray⟩)/\Bl w g:=by
 obtain⟨a,l,cap,rfl,c⟩:=h;have hl:=c.len;by_cases d:z.natAbs=0
 . have b:z=0:=Y
   subst b;have j:l=0:=by rw[hl];simp[Jz]
   subst j;exact ZL a cap w
 . have i:0<l:=by rw[hl];exact NS.2 d
   refine(ZM _ a l cap ⟨(Xp z.natAbs).toArray⟩ w i (by
    have n:=Im z.natAbs;have o:=(Ju c).2.2.2.1;show(Xp z.natAbs).toArray.size<=_;rw[An];omega) λV f=>WX a l cap z.natAbs V (Row.below c f) d (Yq m f)).mono ?_
   rintro e g ⟨rfl,k⟩;refine⟨?_,k⟩;congr 2;unfold YX;by_cases b:z<0
   . simp only[b,DI,if_true];exact Lh _ _
   . simp only[b,DA,if_false,A9]
attribute [local go_sem] Oper.semAt_some
theorem Jm.form(h:Jm W v z):∃a l cap,v=H #[F (decide (z<0)),C a l cap]:=by
 obtain⟨a,l,cap,e,_⟩:=h;exact⟨a,l,cap,e⟩
theorem Jm.alloc{W:E}{v:D}{z:Int}(h:Jm W v z)(o:Obj):Jm (W.alloc o) v z:=h.below (Ba W o)
theorem Jm.box{R:Nat}{t:TypeId}{u0 u1 x0 x1:D}(h:Jm W v z)(q:Jn W R t u0 u1)(n0:JA u0=true)(c:JA u1=true):Jm ((W.setCell ⟨R,0,none⟩ x0).setCell ⟨R,1,none⟩ x1) v z:=by
 obtain⟨a,l,cap,e,b⟩:=h;exact⟨a,l,cap,e,Row.set (Row.set b q.c0 n0 _) (u0:=u1) (q.set0 x0).c1 c _⟩
end
section
def JL(W:E)(B:Nat)(t:TypeId)(x y z u:D):Prop:=W.heap[B]?=some (G #[x,y,z,u] t (0,0))
section
variable {W W':World} {B:Nat} {t:TypeId} {x y z u:Value}
theorem JL.lt(h:JL W B t x y z u):B<W.heap.size:=(Ab.1 h).1
theorem JL.c0(h:JL W B t x y z u):W.cell? ⟨B,0,none⟩=some x:=by simp[World.cell?,show W.heap[B]?=_ from h]
theorem JL.c1(h:JL W B t x y z u):W.cell? ⟨B,1,none⟩=some y:=by simp[World.cell?,show W.heap[B]?=_ from h]
theorem JL.cp(h:JL W B t x y z u):type_of% (And.intro h.c0 h.c1):=⟨h.c0,h.c1⟩
theorem JL.c2(h:JL W B t x y z u):W.cell? ⟨B,2,none⟩=some z:=by simp[World.cell?,show W.heap[B]?=_ from h]
theorem JL.c3(h:JL W B t x y z u):W.cell? ⟨B,3,none⟩=some u:=by simp[World.cell?,show W.heap[B]?=_ from h]
theorem JL.cq(h:JL W B t x y z u):type_of% (And.intro h.c0 (And.intro h.c1 (And.intro h.c2 h.c3))):=⟨h.c0,h.c1,h.c2,h.c3⟩
theorem JL.f0(h:JL W B t x y z u):W.frozen? ⟨B,0,none⟩=false:=by simp[World.frozen?,show W.heap[B]?=_ from h]
theorem JL.f1(h:JL W B t x y z u):W.frozen? ⟨B,1,none⟩=false:=by simp[World.frozen?,show W.heap[B]?=_ from h]
theorem JL.fp(h:JL W B t x y z u):type_of% (And.intro h.f0 h.f1):=⟨h.f0,h.f1⟩
theorem JL.f2(h:JL W B t x y z u):W.frozen? ⟨B,2,none⟩=false:=by simp[World.frozen?,show W.heap[B]?=_ from h]
theorem JL.f3(h:JL W B t x y z u):W.frozen? ⟨B,3,none⟩=false:=by simp[World.frozen?,show W.heap[B]?=_ from h]
theorem JL.fq(h:JL W B t x y z u):type_of% (And.intro h.f0 (And.intro h.f1 (And.intro h.f2 h.f3))):=⟨h.f0,h.f1,h.f2,h.f3⟩
theorem JL.new(W:E)(t:TypeId)(x y z u:D):JL (W.alloc (G #[x,y,z,u] t)) W.heap.size t x y z u:=BE W _
theorem JL.below(h:JL W B t x y z u)(a:Bl W W'):JL W' B t x y z u:=(a.block B h.lt).trans h
theorem JL.alloc(h:JL W B t x y z u)(o:Obj):JL (W.alloc o) B t x y z u:=h.below (Ba W o)
theorem JL.set0(h:JL W B t x y z u)(v:D):JL (W.setCell ⟨B,0,none⟩ v) B t v y z u:=by
 obtain⟨b,a⟩:=Ab.1 h;show(W.heap.modify B _)[B]?=_;rw[Ca (by rw[CI];exact b),Cj,a];rfl
theorem JL.set1(h:JL W B t x y z u)(v:D):JL (W.setCell ⟨B,1,none⟩ v) B t x v z u:=by
 obtain⟨b,a⟩:=Ab.1 h;show(W.heap.modify B _)[B]?=_;rw[Ca (by rw[CI];exact b),Cj,a];rfl
theorem JL.set2(h:JL W B t x y z u)(v:D):JL (W.setCell ⟨B,2,none⟩ v) B t x y v u:=by
 obtain⟨b,a⟩:=Ab.1 h;show(W.heap.modify B _)[B]?=_;rw[Ca (by rw[CI];exact b),Cj,a];rfl
theorem JL.set3(h:JL W B t x y z u)(v:D):JL (W.setCell ⟨B,3,none⟩ v) B t x y z v:=by
 obtain⟨b,a⟩:=Ab.1 h;show(W.heap.modify B _)[B]?=_;rw[Ca (by rw[CI];exact b),Cj,a];rfl
theorem JL.far(h:JL W B t x y z u){p:Addr}(hp:B≠p.block)(v:D):JL (W.setCell p v) B t x y z u:=(BD W p v B hp).trans h
end
def put4(W:E)(B:Nat)(x y z u:D):E:=(((W.setCell ⟨B,0,none⟩ x).setCell ⟨B,1,none⟩ y).setCell ⟨B,2,none⟩ z).setCell ⟨B,3,none⟩ u
variable{B:Nat}{t:TypeId}{u x y z:D}{W:E}
theorem JL.put(h:JL W B t x y z u)(b c d a:D):JL (put4 W B b c d a) B t b c d a:=(((h.set0 b).set1 c).set2 d).set3 a
theorem JL.putFar{C:Nat}(h:JL W B t x y z u)(a:B≠C)(c d e b:D):JL (put4 W C c d e b) B t x y z u:=(((h.far a c).far a d).far a e).far a b
theorem Jt{n:Nat}{w:E}(h:Below n w W)(a:n<=B)(x y z u:D):Below n w (put4 W B x y z u):=(((h.setCell (p:=⟨B,0,none⟩) a _).setCell (p:=⟨B,1,none⟩) a _).setCell (p:=⟨B,2,none⟩) a _).setCell (p:=⟨B,3,none⟩) a _
theorem Row.put4{k:IntKind}{v:D}{ds:List Nat}(h:Row k W v ds)(q:JL W B t x y z u)(n0:JA x=true)(d:JA y=true)(e:JA z=true)(f:JA u=true)(a b c g:D):Row k (put4 W B a b c g) v ds:=
 Row.set (Row.set (Row.set (Row.set h q.c0 n0 _) (q.set0 a).c1 d _) ((q.set0 a).set1 b).c2 e _) (((q.set0 a).set1 b).set2 c).c3 f _
theorem Jm.put4{W:E}{v:D}{i:Int}(h:Jm W v i){B:Nat}{t:TypeId}{x y z u:D}(q:JL W B t x y z u)(n0:JA x=true)(c:JA y=true)(d:JA z=true)(f:JA u=true)(j k m g:D):Jm (put4 W B j k m g) v i:=by
 obtain⟨a,l,cap,e,b⟩:=h;exact⟨a,l,cap,e,Row.put4 b q n0 c d f _ _ _ _⟩
theorem Js.put4{W:E}{v:D}{i:Int}(h:Js W v i){B:Nat}{t:TypeId}{x y z u:D}(q:JL W B t x y z u)(n0:JA x=true)(c:JA y=true)(d:JA z=true)(f:JA u=true)(j k m g:D):Js (put4 W B j k m g) v i:=by
 obtain⟨a,l,cap,e,b⟩:=h;exact⟨a,l,cap,e,Row.put4 b q n0 c d f _ _ _ _⟩
def Jk(W:E)(v:D)(q:Rat):Prop:=∃s a l c t b k d,v=H #[F s,C a l c,F t,C b k d]/\Jm W (H #[F s,C a l c]) q.num/\Jm W (H #[F t,C b k d]) (EC q)
theorem Jk.below{W W':E}{v:D}{q:Rat}(h:Jk W v q)(f:Bl W W'):Jk W' v q:=by
 obtain⟨s,a,l,c,t,b,k,d,e,g,i⟩:=h;exact⟨s,a,l,c,t,b,k,d,e,g.below f,i.below f⟩
theorem Jk.put4{W:E}{v:D}{p:Rat}(h:Jk W v p){B:Nat}{t:TypeId}{x y z u:D}(q:JL W B t x y z u)(n0:JA x=true)(f:JA y=true)(g:JA z=true)(i:JA u=true)(o r w n:D):Jk (put4 W B o r w n) v p:=by
 obtain⟨s,a,l,c,t,b,k,d,e,j,m⟩:=h;exact⟨s,a,l,c,t,b,k,d,e,j.put4 q n0 f g i _ _ _ _,m.put4 q n0 f g i _ _ _ _⟩
def Jr(W:E)(v:D)(q:Rat):Prop:=∃a l c s b k d t,v=H #[C a l c,F s,C b k d,F t]/\Js W (H #[C a l c,F s]) q.num/\Js W (H #[C b k d,F t]) (q.den:Int)
theorem Jr.below{W W':E}{v:D}{q:Rat}(h:Jr W v q)(f:Bl W W'):Jr W' v q:=by
 obtain⟨s,a,l,c,t,b,k,d,e,g,i⟩:=h;exact⟨s,a,l,c,t,b,k,d,e,g.below f,i.below f⟩
theorem Jr.put4{W:E}{v:D}{p:Rat}(h:Jr W v p){B:Nat}{t:TypeId}{x y z u:D}(q:JL W B t x y z u)(n0:JA x=true)(f:JA y=true)(g:JA z=true)(i:JA u=true)(o r w n:D):Jr (put4 W B o r w n) v p:=by
 obtain⟨s,a,l,c,t,b,k,d,e,j,m⟩:=h;exact⟨s,a,l,c,t,b,k,d,e,j.put4 q n0 f g i _ _ _ _,m.put4 q n0 f g i _ _ _ _⟩
end
section
inductive Dat
 |int(z:Int)
 |rat(q:Rat)
 |big(z:Int)
 |ref(q:Rat)
 |zref
 |pair(x y:Int)
def Dat.ty:Dat->TypeId
 |.int _=>63
 |.rat _=>65
 |.big _=>83
 |.ref _=>85
 |.zref=>85
 |.pair _ _=>65
def Gy(W:E)(v:D)(x y:Int):Prop:=∃s a l c t b k d,v=H #[F s,C a l c,F t,C b k d]/\Jm W (H #[F s,C a l c]) x/\Jm W (H #[F t,C b k d]) y
variable{cs:Array D}{r:Bool}{d:Dat}{A z:Int}{bs:List (Option (Nat × Dat))}{qs:List Rat}{B b i j n o:Nat}{m:Nat × Nat}{q:Rat}{t:TypeId}{u u0 v x x0 y:D}{V V' W w:E}
theorem Jk.pair(h:Jk W v q):Gy W v q.num (EC q):=h
theorem Gy.below{W W':E}{v:D}{x y:Int}(h:Gy W v x y)(f:Bl W W'):Gy W' v x y:=by
 obtain⟨s,a,l,c,t,b,k,d,e,g,i⟩:=h;exact⟨s,a,l,c,t,b,k,d,e,g.below f,i.below f⟩
def Has(V:E)(v:D):Dat->Prop
 |.int z=>Jm V v z
 |.rat q=>Jk V v q
 |.big z=>Js V v z
 |.ref q=>Jr V v q
 |.zref=>v=H #[C none 0 0,F false,C none 0 0,F false]
 |.pair x y=>Gy V v x y
theorem Has.below{V V':E}{v:D}{d:Dat}(h:Has V v d)(a:Bl V V'):Has V' v d:=by
 cases d with
 |int z=>exact Jm.below h a
 |rat q=>exact Jk.below h a
 |big z=>exact Js.below h a
 |ref q=>exact Jr.below h a
 |zref=>exact h
 |pair x y=>exact Gy.below h a
theorem Has.alloc{V:E}{v:D}{d:Dat}(h:Has V v d)(o:Obj):Has (V.alloc o) v d:=h.below (Ba V o)
theorem Has.keep{V V':E}{v:D}{d:Dat}(h:Has V v d)(f:∀k v ds,Row k V v ds->Row k V' v ds):Has V' v d:=by
 cases d with
 |zref=>exact h
 |pair x y=>
  obtain⟨s,a,l,c,t,b,k,d,e,⟨g,l1,c1,j,n⟩,⟨i,l2,c2,m,o⟩⟩:=h;exact⟨s,a,l,c,t,b,k,d,e,⟨g,l1,c1,j,f _ _ _ n⟩,⟨i,l2,c2,m,f _ _ _ o⟩⟩
 |int z=>obtain⟨a,l,c,e,p⟩:=h;exact⟨a,l,c,e,f _ _ _ p⟩
 |big z=>obtain⟨a,l,c,e,p⟩:=h;exact⟨a,l,c,e,f _ _ _ p⟩
 |rat q=>
  obtain⟨s,a,l,c,t,b,k,d,e,⟨g,l1,c1,j,n⟩,⟨i,l2,c2,m,o⟩⟩:=h;exact⟨s,a,l,c,t,b,k,d,e,⟨g,l1,c1,j,f _ _ _ n⟩,⟨i,l2,c2,m,f _ _ _ o⟩⟩
 |ref q=>
  obtain⟨s,a,l,c,t,b,k,d,e,⟨g,l1,c1,j,n⟩,⟨i,l2,c2,m,o⟩⟩:=h;exact⟨s,a,l,c,t,b,k,d,e,⟨g,l1,c1,j,f _ _ _ n⟩,⟨i,l2,c2,m,f _ _ _ o⟩⟩
def Bx(V:E)(B:Nat)(t:TypeId)(cs:Array D):Prop:=V.heap[B]?=some (G cs t (0,0))
theorem Bx.lt(h:Bx V B t cs):B<V.heap.size:=(Ab.1 h).1
theorem Bx.below(h:Bx V B t cs)(a:Bl V V'):Bx V' B t cs:=(a.block B h.lt).trans h
theorem Bx.far(h:Bx V B t cs){p:Addr}(hp:B≠p.block)(u:D):Bx (V.setCell p u) B t cs:=(BD V p u B hp).trans h
def Mem(w V:E)(bs:List (Option (Nat × Dat))):Prop:=
 (∀(i:Nat) B d,bs[i]?=some (some (B,d))->(∃cs,Bx V B d.ty cs/\Has V (H cs) d)/\w.heap.size<=B)/\
 (∀(i j:Nat) B d a,bs[i]?=some (some (B,d))->bs[j]?=some (some (B,a))->i=j)/\Bl w V
theorem Mem.nil(w:E):Mem w w []:=⟨λi B z h=>by simp at h,λi j B z a h=>by simp at h,BB _ w⟩
theorem Mem.int{w V:E}{bs:List (Option (Nat × Dat))}(M:Mem w V bs){i B:Nat}{z:Int}(h:bs[i]?=some (some (B,.int z))):∃s a l c,Jn V B 63 (F s) (C a l c)/\Jm V (H #[F s,C a l c]) z:=by
 obtain⟨⟨cs,b,d⟩,_⟩:=M.1 i B _ h;obtain⟨a,l,c,e,f⟩:=d;cases e;exact⟨_,a,l,c,b,a,l,c,rfl,f⟩
theorem Mem.big{w V:E}{bs:List (Option (Nat × Dat))}(M:Mem w V bs){i B:Nat}{z:Int}(h:bs[i]?=some (some (B,.big z))):∃a l c s,Jn V B 83 (C a l c) (F s)/\Js V (H #[C a l c,F s]) z:=by
 obtain⟨⟨cs,b,d⟩,_⟩:=M.1 i B _ h;obtain⟨a,l,c,e,f⟩:=d;cases e;exact⟨a,l,c,_,b,a,l,c,rfl,f⟩
theorem Mem.rat{w V:E}{bs:List (Option (Nat × Dat))}(M:Mem w V bs){i B:Nat}{q:Rat}(h:bs[i]?=some (some (B,.rat q))):
 ∃s a l c t b k d,JL V B 65 (F s) (C a l c) (F t) (C b k d)/\Jk V (H #[F s,C a l c,F t,C b k d]) q/\Jm V (H #[F s,C a l c]) q.num/\Jm V (H #[F t,C b k d]) (EC q):=by
 obtain⟨⟨cs,m,f⟩,_⟩:=M.1 i B _ h;have n:=f;obtain⟨s,a,l,c,t,b,k,d,e,g,j⟩:=f;cases e;exact⟨s,a,l,c,t,b,k,d,m,n,g,j⟩
theorem Mem.ref{w V:E}{bs:List (Option (Nat × Dat))}(M:Mem w V bs){i B:Nat}{q:Rat}(h:bs[i]?=some (some (B,.ref q))):
 ∃a l c s b k d t,JL V B 85 (C a l c) (F s) (C b k d) (F t)/\Jr V (H #[C a l c,F s,C b k d,F t]) q/\Js V (H #[C a l c,F s]) q.num/\Js V (H #[C b k d,F t]) (q.den:Int):=by
 obtain⟨⟨cs,m,f⟩,_⟩:=M.1 i B _ h;have n:=f;obtain⟨s,a,l,c,t,b,k,d,e,g,j⟩:=f;cases e;exact⟨s,a,l,c,t,b,k,d,m,n,g,j⟩
theorem Mem.below{w V V':E}{bs:List (Option (Nat × Dat))}(M:Mem w V bs)(a:Bl V V'):Mem w V' bs:=
 ⟨λi B z h=>by
  obtain⟨⟨cs,b,c⟩,d⟩:=M.1 i B z h;exact⟨⟨cs,b.below a,c.below a⟩,d⟩,M.2.1,Bt M.2.2 a⟩
theorem Mem.drew{w V:E}{bs:List (Option (Nat × Dat))}(M:Mem w V bs):Mem w V.drew bs:=M.below ((BB _ V).drew)
theorem Mem.sub{cs:List (Option (Nat × Dat))}(M:Mem w V bs)(f:Nat->Nat)(e:∀(i j:Nat),f i=f j->i=j)(h:∀(i:Nat) x,cs[i]?=some (some x)->bs[f i]?=some (some x)):Mem w V cs:=
 ⟨λi B d a=>M.1 (f i) B d (h i _ a),λi j B d b a c=>e i j (M.2.1 (f i) (f j) B d b (h i _ a) (h j _ c)),M.2.2⟩
theorem Mem.take{w V:E}{bs:List (Option (Nat × Dat))}(M:Mem w V bs)(n:Nat):Mem w V (bs.take n):=by
 refine M.sub id (λ_ _ h=>h) λi x h=>?_;rw[Fs]at h;split at h
 . exact h
 . cases h
theorem Mem.none{w V:E}{bs:List (Option (Nat × Dat))}(M:Mem w V bs):Mem w V (bs++[Option.none]):=by
 refine M.sub id (λ_ _ h=>h) λi x h=>?_;by_cases a:i<bs.length
 . rwa[AJ a]at h
 . rw[AB Y]at h;obtain⟨k,b⟩:=ex (i-bs.length);rw[b]at h;cases k<;>simp at h
theorem Mem.fill(M:Mem w V bs)(h:bs[i]?=some Option.none)(d:Dat)(q:Has V (H cs) d):
 Mem w (V.alloc (G cs d.ty)) (bs.set i (some (V.heap.size,d))):=by
 have m:Bl V (V.alloc (G cs d.ty)):=Ba V _;have f:i<bs.length:=(Ac.1 h).1;have l:=M.below m;have n:∀(j:Nat) B d,bs[j]?=some (some (B,d))->B<V.heap.size:=λj B d h=>by
  obtain⟨⟨_,a,_⟩,_⟩:=M.1 j B d h;exact a.lt
 refine⟨λj B p e=>?_,λj k B d1 o a b=>?_,l.2.2⟩
 . by_cases c:i=j
   . subst c;rw[A6 f]at e;simp at e;obtain⟨rfl,rfl⟩:=e;exact⟨⟨cs,BE V _,q.below m⟩,M.2.2.size⟩
   . rw[AW c]at e;exact l.1 j B p e
 . by_cases c:i=j<;>by_cases g:i=k
   . omega
   . subst c;rw[A6 f]at a;rw[AW g]at b;simp at a;have:=n k B o b;omega
   . subst g;rw[A6 f]at b;rw[AW c]at a;simp at b;have:=n j B d1 a;omega
   . rw[AW c]at a;rw[AW g]at b;exact M.2.1 j k B d1 o a b
theorem QK{α:Type}(l:List α)(x y:α):(l++[x]).set l.length y=l++[y]:=by
 induction l with
 |nil=>rfl
 |cons a l b=>simp
theorem Mem.push(M:Mem w V bs)(d:Dat)(a:Has V (H cs) d):Mem w (V.alloc (G cs d.ty)) (bs++[some (V.heap.size,d)]):=by
 have h:=M.none.fill (i:=bs.length) O d a;rwa[QK]at h
theorem Mem.repl(M:Mem w V bs)(h:bs[i]?=some (some (B,d)))(c:Dat)(z:Bx V' B c.ty cs)(A:Has V (H cs) c)
(o:∀k v ds,Row k V v ds->Row k V' v ds)(K:∀B' t cs,B'≠B->Bx V B' t cs->Bx V' B' t cs)(y:Bl w V'):Mem w V' (bs.set i (some (B,c))):=by
 have n:i<bs.length:=(Ac.1 h).1;obtain⟨_,L⟩:=M.1 i B d h;refine⟨λj B' d1 a=>?_,λj k B' d1 r u x=>?_,y⟩
 . by_cases b:i=j
   . subst b;rw[A6 n]at a;simp at a;obtain⟨rfl,rfl⟩:=a;exact⟨⟨cs,z,A.keep o⟩,L⟩
   . rw[AW b]at a;obtain⟨⟨q,g,l⟩,N⟩:=M.1 j B' d1 a;have p:B'≠B:=λe=>b (by rw[e]at a;exact M.2.1 i j B d d1 h a);exact⟨⟨q,K _ _ _ p g,l.keep o⟩,N⟩
 . have m:∀(j:Nat) d1,(bs.set i (some (B,c)))[j]?=some (some (B',d1))->∃f,bs[j]?=some (some (B',f)):=λj d1 a=>by
    by_cases b:i=j
    . subst b;rw[A6 n]at a;simp at a;exact⟨d,by rw[h,a.1]⟩
    . rw[AW b]at a;exact⟨d1,a⟩
   obtain⟨f,g⟩:=m j d1 u;obtain⟨s,l⟩:=m k r x;exact M.2.1 j k B' f s g l
theorem keep2(q:Jn V B t x y)(n0:JA x=true)(b:JA y=true)(a c:D):∀k v ds,Row k V v ds->Row k ((V.setCell ⟨B,0,Option.none⟩ a).setCell ⟨B,1,Option.none⟩ c) v ds:=
 λ_ _ _ h=>Row.set (Row.set h q.c0 n0 _) (q.set0 a).c1 b _
theorem Mem.putInt(M:Mem w V bs)(h:bs[i]?=some (some (B,.int A)))(f:Jm V (H #[x,y]) z):
 Mem w ((V.setCell ⟨B,0,Option.none⟩ x).setCell ⟨B,1,Option.none⟩ y) (bs.set i (some (B,.int z))):=by
 obtain⟨s,a,l,c,b,_⟩:=M.int h;obtain⟨_,e⟩:=M.1 i B _ h;exact M.repl h (.int z) (cs:=#[x,y]) ((b.set0 x).set1 y) f (keep2 b rfl rfl x y) (λB' t cs d g=>(g.far (p:=⟨B,0,Option.none⟩) d _).far (p:=⟨B,1,Option.none⟩) d _) ((M.2.2.setCell (p:=⟨B,0,Option.none⟩) e _).setCell (p:=⟨B,1,Option.none⟩) e _)
theorem Mem.putBig(M:Mem w V bs)(h:bs[i]?=some (some (B,.big A)))(f:Js V (H #[x,y]) z):
 Mem w ((V.setCell ⟨B,0,Option.none⟩ x).setCell ⟨B,1,Option.none⟩ y) (bs.set i (some (B,.big z))):=by
 obtain⟨a,l,c,s,b,_⟩:=M.big h;obtain⟨_,e⟩:=M.1 i B _ h;exact M.repl h (.big z) (cs:=#[x,y]) ((b.set0 x).set1 y) f (keep2 b rfl rfl x y) (λB' t cs d g=>(g.far (p:=⟨B,0,Option.none⟩) d _).far (p:=⟨B,1,Option.none⟩) d _) ((M.2.2.setCell (p:=⟨B,0,Option.none⟩) e _).setCell (p:=⟨B,1,Option.none⟩) e _)
theorem far4(x y z u:D):∀B' t cs,B'≠B->Bx V B' t cs->Bx (put4 V B x y z u) B' t cs:=λ_ _ _ a g=>(((g.far (p:=⟨B,0,Option.none⟩) a _).far (p:=⟨B,1,Option.none⟩) a _).far (p:=⟨B,2,Option.none⟩) a _).far (p:=⟨B,3,Option.none⟩) a _
theorem Mem.putRat(M:Mem w V bs){q0:Rat}(h:bs[i]?=some (some (B,.rat q0))){z:D}(b:Jk V (H #[x,y,z,u]) q):
 Mem w (put4 V B x y z u) (bs.set i (some (B,.rat q))):=by
 obtain⟨_,_,_,_,_,_,_,_,a,_⟩:=M.rat h;obtain⟨_,c⟩:=M.1 i B _ h;exact M.repl h (.rat q) (cs:=#[x,y,z,u]) (a.put x y z u) b (λ_ _ _ g=>Row.put4 g a rfl rfl rfl rfl _ _ _ _) (far4 x y z u) (Jt M.2.2 c _ _ _ _)
theorem Mem.zref{w V:E}{bs:List (Option (Nat × Dat))}(M:Mem w V bs){i B:Nat}(h:bs[i]?=some (some (B,.zref))):JL V B 85 (C Option.none 0 0) (F false) (C Option.none 0 0) (F false):=by
 obtain⟨⟨cs,a,b⟩,_⟩:=M.1 i B _ h;cases(show Value.agg cs=_ from b);exact a
theorem Has.set2(h:Has V v d)(q:Jn V B t x y)(n0:JA x=true)(c:JA y=true)(a b:D):Has ((V.setCell ⟨B,0,Option.none⟩ a).setCell ⟨B,1,Option.none⟩ b) v d:=h.keep (keep2 q n0 c a b)
theorem Has.put4{V:E}{v:D}{d:Dat}(h:Has V v d){B:Nat}{t:TypeId}{x y z u:D}(q:JL V B t x y z u)(n0:JA x=true)(a:JA y=true)(b:JA z=true)(c:JA u=true)(f i j e:D):Has (Go.Proofs.YteldjhhjnchdeaaGreatDoor.put4 V B f i j e) v d:=h.keep λ_ _ _ g=>Row.put4 g q n0 a b c _ _ _ _
theorem Jm.form2(h:Jm W v z):∃s a l c,v=H #[F s,C a l c]:=by
 obtain⟨a,l,c,e,_⟩:=h;exact⟨_,a,l,c,e⟩
theorem Js.form2(h:Js W v z):∃a l c s,v=H #[C a l c,F s]:=by
 obtain⟨a,l,c,e,_⟩:=h;exact⟨a,l,c,_,e⟩
theorem Jk.form(h:Jk W v q):∃s a l c t b k d,v=H #[F s,C a l c,F t,C b k d]:=by
 obtain⟨s,a,l,c,t,b,k,d,e,_⟩:=h;exact⟨s,a,l,c,t,b,k,d,e⟩
theorem Jr.form(h:Jr W v q):∃a l c s b k d t,v=H #[C a l c,F s,C b k d,F t]:=by
 obtain⟨s,a,l,c,t,b,k,d,e,_⟩:=h;exact⟨s,a,l,c,t,b,k,d,e⟩
theorem Mem.ne(M:Mem w V bs)(i j:Nat){B':Nat}{a:Dat}(h:bs[i]?=some (some (B,d)))(b:bs[j]?=some (some (B',a)))(c:i≠j):B≠B':=λe=>by
 subst e;exact c (M.2.1 i j B d a h b)
theorem Mem.ge(M:Mem w V bs)(i:Nat)(h:bs[i]?=some (some (B,d))):w.heap.size<=B:=(M.1 i B d h).2
theorem EQ(W:E):Jm W (H #[F false,C Option.none 0 0]) 0:=
 ⟨Option.none,0,0,O,by unfold UN;rw[Int.natAbs_zero,Jz];exact Row.nil _ _⟩
theorem ZN(W:E):Js W (H #[C Option.none 0 0,F false]) 0:=
 ⟨Option.none,0,0,O,by unfold RN;rw[Int.natAbs_zero,Jz];exact Row.nil _ _⟩
theorem El(W:E):Jk W (H #[F false,C Option.none 0 0,F false,C Option.none 0 0]) 0:=⟨_,_,_,_,_,_,_,_,rfl,EQ W,EQ W⟩
def Tup2(V:E)(t:D)(d1 a:Dat):Prop:=∃u1 u2,t=.tuple #[u1,u2,F true]/\Has V u1 d1/\Has V u2 a
theorem Tup2.below{V V':E}{t:D}{d1 a:Dat}(h:Tup2 V t d1 a)(b:Bl V V'):Tup2 V' t d1 a:=by
 obtain⟨u1,u2,e,c,d⟩:=h;exact⟨u1,u2,e,c.below b,d.below b⟩
theorem Tup2.alloc{V:E}{t:D}{d1 a:Dat}(h:Tup2 V t d1 a)(o:Obj):Tup2 (V.alloc o) t d1 a:=by
 obtain⟨u1,u2,e,b,c⟩:=h;exact⟨u1,u2,e,b.alloc o,c.alloc o⟩
theorem Tup2.set2{V:E}{v:D}{d1 c:Dat}(h:Tup2 V v d1 c){B:Nat}{t:TypeId}{x y:D}(q:Jn V B t x y)(n0:JA x=true)(d:JA y=true)(a b:D):Tup2 ((V.setCell ⟨B,0,Option.none⟩ a).setCell ⟨B,1,Option.none⟩ b) v d1 c:=by
 obtain⟨u1,u2,e,f,g⟩:=h;exact⟨u1,u2,e,f.set2 q n0 d a b,g.set2 q n0 d a b⟩
def EM(r:Bool)(W:E)(v:D)(q:Rat):Prop:=match r with|true=>Jk W v q|false=>Jr W v q
def EH(r:Bool):TypeId:=match r with|true=>65|false=>85
theorem EM.below{r:Bool}{W W':E}{v:D}{q:Rat}(h:EM r W v q)(a:Bl W W'):EM r W' v q:=by
 cases r with
 |true=>exact Jk.below h a
 |false=>exact Jr.below h a
theorem EM.keep{r:Bool}{W W':E}{v:D}{q:Rat}(h:EM r W v q)(a:∀k v ds,Row k W v ds->Row k W' v ds):EM r W' v q:=by
 cases r with
 |true=>exact Has.keep (d:=.rat q) h a
 |false=>exact Has.keep (d:=.ref q) h a
theorem EM.form(h:EM r W v q):∃x y z u,v=H #[x,y,z,u]/\JA x=true/\JA y=true/\JA z=true/\JA u=true:=by
 cases r with
 |true=>
  obtain⟨s,a,l,c,t,b,k,d,e,_⟩:=(show Jk W v q from h);exact⟨_,_,_,_,e,rfl,rfl,rfl,rfl⟩
 |false=>
  obtain⟨s,a,l,c,t,b,k,d,e,_⟩:=(show Jr W v q from h);exact⟨_,_,_,_,e,rfl,rfl,rfl,rfl⟩
theorem EM.no{z:D}(h:EM r W (H #[x,y,z,u]) q):JA x=true/\JA y=true/\JA z=true/\JA u=true:=by
 obtain⟨g,i,j,f,e,a,b,c,d⟩:=h.form;cases e;exact⟨a,b,c,d⟩
theorem EM.one{z:D}(h:EM r W (H #[x,y,z,u]) q):∀v∈[x,y,z,u],v.oneCell'=true:=by
 cases r with
 |true=>
  obtain⟨s,a,l,c,t,b,k,d,e,_⟩:=(show Jk W _ q from h);cases e;intro v f;simp at f;rcases f with rfl|rfl|rfl|rfl<;>rfl
 |false=>
  obtain⟨s,a,l,c,t,b,k,d,e,_⟩:=(show Jr W _ q from h);cases e;intro v f;simp at f;rcases f with rfl|rfl|rfl|rfl<;>rfl
def Dy(r:Bool)(W:E)(b:Nat)(qs:List Rat):Prop:=
 ∃cs:Array D,W.heap[b]?=some (G cs (EH r) (0,0))/\∀j,j<qs.length->∃x y z u,cs[j*4]?=some x/\cs[j*4+1]?=some y/\cs[j*4+2]?=some z/\cs[j*4+3]?=some u/\EM r W (H #[x,y,z,u]) (cf qs j)
theorem Dy.lt(h:Dy r W b qs):b<W.heap.size:=by obtain⟨cs,h,_⟩:=h;exact(Ab.1 h).1
theorem Dy.below{r:Bool}{W W':E}{b:Nat}{qs:List Rat}(h:Dy r W b qs)(a:Bl W W'):Dy r W' b qs:=by
 have hl:=h.lt;obtain⟨cs,g,i⟩:=h;refine⟨cs,(a.block b hl).trans g,λj l=>?_⟩;obtain⟨x,y,z,u,c,d,e,f,k⟩:=i j l;exact⟨x,y,z,u,c,d,e,f,k.below a⟩
theorem Dy.keep{r:Bool}{W W':E}{b:Nat}{qs:List Rat}(h:Dy r W b qs)(l:W'.heap[b]?=W.heap[b]?)(n:∀k v ds,Row k W v ds->Row k W' v ds):Dy r W' b qs:=by
 obtain⟨cs,f,g⟩:=h;refine⟨cs,l.trans f,λj m=>?_⟩;obtain⟨x,y,z,u,a,c,d,e,i⟩:=g j m;exact⟨x,y,z,u,a,c,d,e,i.keep n⟩
theorem Dy.take{r:Bool}{W:E}{b:Nat}{qs:List Rat}(h:Dy r W b qs)(n:Nat):Dy r W b (qs.take n):=by
 obtain⟨cs,f,g⟩:=h;refine⟨cs,f,λj k=>?_⟩;rw[Al]at k;obtain⟨x,y,z,u,a,c,d,e,i⟩:=g j Y;exact⟨x,y,z,u,a,c,d,e,by rw[Mr,BG Y];exact i⟩
theorem Dy.at(h:Dy r W b qs)(k:j<qs.length):
 ∃x y z u,W.cell? ⟨b,j*4,none⟩=some x/\W.cell? ⟨b,j*4+1,none⟩=some y/\W.cell? ⟨b,j*4+2,none⟩=some z/\W.cell? ⟨b,j*4+3,none⟩=some u/\EM r W (H #[x,y,z,u]) (cf qs j):=by
 obtain⟨cs,a,g⟩:=h;obtain⟨x,y,z,u,c,d,e,f,i⟩:=g j k;exact⟨x,y,z,u,by simp[World.cell?,a,c],by simp[World.cell?,a,d],by simp[World.cell?,a,e],by simp[World.cell?,a,f],i⟩
theorem Dy.frozen{r:Bool}{W:E}{b:Nat}{qs:List Rat}(h:Dy r W b qs)(o:Nat):W.frozen? ⟨b,o,none⟩=false:=by obtain⟨cs,a,_⟩:=h;simp[World.frozen?,a]
def putAt(W:E)(b o:Nat)(x y z u:D):E:=(((W.setCell ⟨b,o,none⟩ x).setCell ⟨b,o+1,none⟩ y).setCell ⟨b,o+2,none⟩ z).setCell ⟨b,o+3,none⟩ u
theorem JY(h:W.heap[b]?=some (G cs t m))(v:D):(W.setCell ⟨b,o,none⟩ v).heap[b]?=some (G (cs.setIfInBounds o v) t m):=by
 obtain⟨c,a⟩:=Ab.1 h;show(W.heap.modify b _)[b]?=_;rw[Ca (by rw[CI];exact c),Cj,a];simp
theorem QL(h:W.heap[b]?=some (G cs t m))(x y z u:D):(putAt W b o x y z u).heap[b]?=some (G ((((cs.setIfInBounds o x).setIfInBounds (o+1) y).setIfInBounds (o+2) z).setIfInBounds (o+3) u) t m):=
 JY (JY (JY (JY h x) y) z) u
theorem Ky(a:B≠b)(x y z u:D):(putAt W b o x y z u).heap[B]?=W.heap[B]?:=
 (BD _ _ _ B a).trans ((BD _ _ _ B a).trans ((BD _ _ _ B a).trans (BD _ _ _ B a)))
theorem QM(h:Below n w W)(a:n<=b)(x y z u:D):Below n w (putAt W b o x y z u):=
 (((h.setCell (p:=⟨b,o,none⟩) a _).setCell (p:=⟨b,o+1,none⟩) a _).setCell (p:=⟨b,o+2,none⟩) a _).setCell (p:=⟨b,o+3,none⟩) a _
theorem cell_of(h:W.heap[b]?=some (G cs t m))(e:cs[o]?=some x):W.cell? ⟨b,o,none⟩=some x:=by simp[World.cell?,h,e]
theorem ZO{a c:D}(h:W.heap[b]?=some (G cs t m))(d:cs[o]?=some x0)(e:cs[o+1]?=some a)(f:cs[o+2]?=some c)(g:cs[o+3]?=some u0)
(n0:JA x0=true)(j:JA a=true)(l:JA c=true)(n:JA u0=true)(x y z u:D):∀k v ds,Row k W v ds->Row k (putAt W b o x y z u) v ds:=λk v ds i=>by
 have c1:((cs.setIfInBounds o x))[o+1]?=some a:=by rw[Aj Y];exact e
 have c2:(((cs.setIfInBounds o x).setIfInBounds (o+1) y))[o+2]?=some c:=by rw[Aj Y,Aj Y];exact f
 have c3:((((cs.setIfInBounds o x).setIfInBounds (o+1) y).setIfInBounds (o+2) z))[o+3]?=some u0:=by rw[Aj Y,Aj Y,Aj Y];exact g
 exact Row.set (Row.set (Row.set (Row.set i (cell_of h d) n0 _) (cell_of (JY h x) c1) j _) (cell_of (JY (JY h x) y) c2) l _) (cell_of (JY (JY (JY h x) y) z) c3) n _
theorem Dy.putKeep(h:Dy r W b qs)(l:j<qs.length)(x y z u:D):∀k v ds,Row k W v ds->Row k (putAt W b (j*4) x y z u) v ds:=by
 obtain⟨cs,f,g⟩:=h;obtain⟨x0,p,q,u0,a,c,d,e,i⟩:=g j l;obtain⟨n0,m,n,o⟩:=i.no;exact ZO f a c d e n0 m n o x y z u
theorem Dy.set{r:Bool}{W:E}{b:Nat}{qs:List Rat}(h:Dy r W b qs){j:Nat}(a:j<qs.length){x y z u:D}{q:Rat}(B:EM r W (H #[x,y,z,u]) q):Dy r (putAt W b (j*4) x y z u) b (qs.set j q):=by
 have f:=h.putKeep a x y z u;obtain⟨cs,w,c⟩:=h;obtain⟨x0,N,P,u0,p,s,t,v,M⟩:=c j a;refine⟨_,QL w x y z u,λi d=>?_⟩;rw[Cr]at d;have k:=(Ab.1 p).1;have m:=(Ab.1 s).1;have l:=(Ab.1 t).1;have g:=(Ab.1 v).1;by_cases e:i=j
 . subst e;refine⟨x,y,z,u,?_,?_,?_,?_,?_⟩
   . rw[Aj Y,Aj Y,Aj Y,CK k]
   . rw[Aj Y,Aj Y,CK (by simpa using m)]
   . rw[Aj Y,CK (by simpa using l)]
   . rw[CK (by simpa using g)]
   . rw[XC _ _ _ _ a,BG rfl];exact B.keep f
 . obtain⟨x1,K,L,u1,d0,d1,n,o,A⟩:=c i d;refine⟨x1,K,L,u1,?_,?_,?_,?_,?_⟩
   . rw[Aj Y,Aj Y,Aj Y,Aj Y];exact d0
   . rw[Aj Y,Aj Y,Aj Y,Aj Y];exact d1
   . rw[Aj Y,Aj Y,Aj Y,Aj Y];exact n
   . rw[Aj Y,Aj Y,Aj Y,Aj Y];exact o
   . rw[XC _ _ _ _ a,BC e];exact A.keep f
def RowK(r:Bool)(W:E)(v:D)(qs:List Rat):Prop:=
 ∃a cap,v=C a qs.length cap/\qs.length<=cap/\cap<=9223372036854775807/\qs.length<=1099511627776/\(qs=[]\/∃b,a=some ⟨b,0,none⟩/\Dy r W b qs)
theorem RowK.below{r:Bool}{W W':E}{v:D}{qs:List Rat}(h:RowK r W v qs)(k:Bl W W'):RowK r W' v qs:=by
 obtain⟨a,cap,e,f,g,i,c⟩:=h;refine⟨a,cap,e,f,g,i,?_⟩;rcases c with c|⟨b,d,j⟩
 . exact Or.inl c
 . exact Or.inr ⟨b,d,j.below k⟩
theorem RowK.nil(r:Bool)(W:E):RowK r W (C none 0 0) []:=⟨none,0,rfl,Aa _,Y,O,Or.inl rfl⟩
theorem Dy.row(h:Dy r W b qs){cap:Nat}(d:n<=qs.length)(c:n<=cap)(a:cap<=9223372036854775807)(hl:n<=1099511627776):RowK r W (C (some ⟨b,0,none⟩) n cap) (qs.take n):=by
 have e:(qs.take n).length=n:=by rw[Al];omega
 exact⟨_,cap,by rw[e],Y,a,Y,Or.inr ⟨b,rfl,h.take n⟩⟩
theorem RowK.open(h:RowK r W v qs):∃a cap,v=C a qs.length cap/\qs.length<=cap/\cap<=9223372036854775807/\qs.length<=1099511627776/\
 Hid (∀j,j<qs.length->∃b,a=some ⟨b,0,none⟩/\Dy r W b qs):=by
 obtain⟨a,cap,e,g,i,k,c⟩:=h;refine⟨a,cap,e,g,i,k,λj d=>?_⟩;rcases c with c|⟨b,f,l⟩
 . rw[c]at d;simp at d
 . exact⟨b,f,l⟩
theorem RowK.take{r:Bool}{W:E}{a:Option Addr}{l cap:Nat}{qs:List Rat}(h:RowK r W (C a l cap) qs){n:Nat}(m:n<=l):RowK r W (C a n cap) (qs.take n):=by
 obtain⟨a',i,e,j,f,k,c⟩:=h;cases e;have e:(qs.take n).length=n:=by rw[Al];omega
 refine⟨a,cap,by rw[e],Y,f,Y,?_⟩;rcases c with c|⟨b,d,g⟩
 . left;rw[c];simp
 . exact Or.inr ⟨b,d,g.take n⟩
def Jg(W:E)(v:D)(ps:List Rat):Prop:=∃u,v=H #[u]/\RowK true W u ps
theorem Jg.below{W W':E}{v:D}{ps:List Rat}(h:Jg W v ps)(b:Bl W W'):Jg W' v ps:=by
 obtain⟨u,e,a⟩:=h;exact⟨u,e,a.below b⟩
theorem RowK.form(h:RowK r W v qs):∃a l c,v=C a l c:=by
 obtain⟨a,cap,e,_⟩:=h;exact⟨a,_,cap,e⟩
theorem Jg.form{W:E}{v:D}{ps:List Rat}(h:Jg W v ps):∃a l c,v=H #[C a l c]:=by
 obtain⟨u,e,b⟩:=h;obtain⟨a,l,c,rfl⟩:=b.form;exact⟨a,l,c,e⟩
theorem Jg.row{a:Option Addr}{l c:Nat}{ps:List Rat}(h:Jg W (H #[C a l c]) ps):RowK true W (C a l c) ps:=by
 obtain⟨u,e,b⟩:=h;cases e;exact b
@[irreducible] def DZ(qs:List Rat):Prop:=∀i,Sq (cf qs i)
theorem DZ.at(h:DZ qs)(i:Nat):Sq (cf qs i):=by unfold DZ at h;exact h i
theorem DZ.of(h:∀i,Sq (cf qs i)):DZ qs:=by unfold DZ;exact h
def YM(r:Bool)(W:E)(cs:List D)(qs:List Rat):Prop:=
 cs.length=qs.length*4/\∀j,j<qs.length->∃x y z u,cs[j*4]?=some x/\cs[j*4+1]?=some y/\cs[j*4+2]?=some z/\cs[j*4+3]?=some u/\EM r W (H #[x,y,z,u]) (cf qs j)
theorem YM.nil(r:Bool)(W:E):YM r W [] []:=⟨rfl,λj a=>by simp at a⟩
theorem YM.below{r:Bool}{W W':E}{cs:List D}{qs:List Rat}(h:YM r W cs qs)(f:Bl W W'):YM r W' cs qs:=by
 refine⟨h.1,λj g=>?_⟩;obtain⟨x,y,z,u,a,b,c,d,e⟩:=h.2 j g;exact⟨x,y,z,u,a,b,c,d,e.below f⟩
theorem YM.keep{r:Bool}{W W':E}{cs:List D}{qs:List Rat}(h:YM r W cs qs)(g:∀k v ds,Row k W v ds->Row k W' v ds):YM r W' cs qs:=by
 refine⟨h.1,λj f=>?_⟩;obtain⟨x,y,z,u,a,b,c,d,e⟩:=h.2 j f;exact⟨x,y,z,u,a,b,c,d,e.keep g⟩
theorem YM.one{r:Bool}{W:E}{cs:List D}{qs:List Rat}(h:YM r W cs qs):∀v∈cs,v.oneCell'=true:=by
 intro v l;obtain⟨k,j,rfl⟩:=List.mem_iff_getElem.1 l;have hl:=h.1;obtain⟨x,y,z,u,d,e,f,g,i⟩:=h.2 (k/4) Y;have b:=i.one;have c:cs[k]?=some cs[k]:=Ah j;have a:k=k/4*4\/k=k/4*4+1\/k=k/4*4+2\/k=k/4*4+3:=Y
 rcases a with a|a|a|a
 . rw[<-a,c]at d;cases d;exact b _ O
 . rw[<-a,c]at e;cases e;exact b _ O
 . rw[<-a,c]at f;cases f;exact b _ O
 . rw[<-a,c]at g;cases g;exact b _ O
theorem YM.snoc{cs:List D}(h:YM r W cs qs){z:D}(hq:EM r W (H #[x,y,z,u]) q):YM r W (cs++[x,y,z,u]) (qs++[q]):=by
 have hl:=h.1;refine⟨by simp;omega,λj g=>?_⟩;rw[Ai,FE]at g;by_cases i:j<qs.length
 . obtain⟨l,m,n,k,b,c,d,e,f⟩:=h.2 j i;refine⟨l,m,n,k,?_,?_,?_,?_,?_⟩
   . rw[AJ Y];exact b
   . rw[AJ Y];exact c
   . rw[AJ Y];exact d
   . rw[AJ Y];exact e
   . rw[Mq,BC Y];exact f
 . have a:j=qs.length:=Y
   subst a;refine⟨x,y,z,u,?_,?_,?_,?_,?_⟩
   . rw[AB Y,show qs.length*4-cs.length=0 from by omega];rfl
   . rw[AB Y,show qs.length*4+1-cs.length=1 from by omega];rfl
   . rw[AB Y,show qs.length*4+2-cs.length=2 from by omega];rfl
   . rw[AB Y,show qs.length*4+3-cs.length=3 from by omega];rfl
   . rw[Mq,BG rfl];exact hq
theorem Dy.cells(h:Dy r W b qs):∃cs,YM r W cs qs/\∀j u,cs[j]?=some u->W.cell? ⟨b,j,none⟩=some u:=by
 obtain⟨a,k,d⟩:=h;have p:qs.length*4<=a.size:=by
  cases hq:qs.length with
  |zero=>omega
  |succ n=>
   obtain⟨x,y,z,u,_,_,_,c,_⟩:=d n Y;have:=(Ab.1 c).1;omega
 refine⟨a.toList.take (qs.length*4),⟨by rw[Al];have o:a.toList.length=a.size:=CS;omega,λj m=>?_⟩,λj u e=>?_⟩
 . obtain⟨x,y,z,u,f,g,i,c,l⟩:=d j m;refine⟨x,y,z,u,?_,?_,?_,?_,l⟩
   . rw[AH Y,Ck];exact f
   . rw[AH Y,Ck];exact g
   . rw[AH Y,Ck];exact i
   . rw[AH Y,Ck];exact c
 . rw[Fs]at e;split at e
   . rw[Ck]at e;exact cell_of k e
   . cases e
theorem RowK.owns{base:Nat}{cs:List D}(h:W.ownsRow base (EH r) 4 v n cs)(e:YM r W cs qs)(hl:qs.length<=1099511627776):RowK r W v qs/\n=qs.length/\(v=C none 0 0\/∃g cap,v=C (some ⟨g,0,none⟩) n cap/\base<=g/\Dy r W g qs):=by
 obtain⟨w,k⟩:=h;have s:n=qs.length:=by have:=e.1;omega
 subst s;rcases k with⟨rfl,i⟩|⟨g,cap,f,rfl,m,o,hle,q,A,t⟩
 . have:qs=[]:=Ap i;subst this;exact⟨RowK.nil r W,rfl,Or.inl rfl⟩
 . have hE:Dy r W g qs:=by
    refine⟨f,o,λj p=>?_⟩;obtain⟨x,y,z,u,a,b,c,d,l⟩:=e.2 j p;rw[<-t]at a b c d;rw[AH Y,Ck]at a b c d;exact⟨x,y,z,u,a,b,c,d,l⟩
   refine⟨⟨_,cap,rfl,hle,by unfold maxLen at q;omega,hl,Or.inr ⟨g,rfl,hE⟩⟩,rfl,Or.inr ⟨g,cap,rfl,m,hE⟩⟩
attribute [local go_sem] Oper.semAt_some
theorem Js.form(h:Js W v z):∃a l cap,v=H #[C a l cap,F (decide (z<0))]:=by
 obtain⟨a,l,cap,e,_⟩:=h;exact⟨a,l,cap,e⟩
theorem Js.box{R:Nat}{u1 x1:D}(h:Js W v z)(q:Jn W R t u0 u1)(n0:JA u0=true)(c:JA u1=true):Js ((W.setCell ⟨R,0,none⟩ x0).setCell ⟨R,1,none⟩ x1) v z:=by
 obtain⟨a,l,cap,e,b⟩:=h;exact⟨a,l,cap,e,Row.set (Row.set b q.c0 n0 _) (u0:=u1) (q.set0 x0).c1 c _⟩
theorem ZP(M N:D)(x y:Int)(w:E)(f:Js w M x)(g:Js w N y)(W:EU x<=1000000000)(X:EU y<=1000000000):
 Calls I 140 #[M,N] w λe c=>∃u,e=.returned u/\Js c u (x-y)/\Bl w c:=by
 obtain⟨a,la,ca,rfl⟩:=f.form;obtain⟨b,lb,cb,rfl⟩:=g.form;obtain⟨s,hs⟩:=ex (decide (x<0));obtain⟨t,q⟩:=ex (decide (y<0));rw[hs]at f ⊢;rw[q]at g ⊢;clear hs q;obtain⟨W0,d⟩:=ex (((w.alloc (G #[C a la ca,F s] 83)).alloc (G #[C b lb cb,F t] 83)).alloc (G #[C none 0 0,F false] 83));have i:Bl w W0:=by rw[<-d];exact Xq w _ _ _
 have b0:Jn W0 w.heap.size 83 (C a la ca) (F s):=by rw[<-d];exact((Jn.new w _ _ _).alloc _).alloc _
 have j:Jn W0 (w.heap.size+1) 83 (C b lb cb) (F t):=by
  have h:=(Jn.new (w.alloc (G #[C a la ca,F s] 83)) 83 (C b lb cb) (F t)).alloc (G #[C none 0 0,F false] 83);rw[A1,d]at h;exact h
 have k:Jn W0 (w.heap.size+1+1) 83 (C none 0 0) (F false):=by
  have h:=Jn.new ((w.alloc (G #[C a la ca,F s] 83)).alloc (G #[C b lb cb,F t] 83)) 83 (C none 0 0) (F false);rw[A1,A1,d]at h;exact h
 have P:=J λ(V:E) (h:Bl W0 V)=>PL _ y V ((g.below i).below h);have Q:=J λ(V:E) (u:D) (h:Bl W0 V) (hu:Js V u (-y))=>NP _ u x (-y) V ((f.below i).below h) hu W (by unfold EU at *;rw[Fq];exact X);clear f g;go_enter Tryz.func140,Tryz.ntmps140
 go_wp2_with fail
 try rw[d]
 clear d;have hq:Bl W0 W0.drew:=(BB _ W0).drew;obtain⟨r,z⟩:=b0.cp;obtain⟨A,B⟩:=j.cp;have ad:¬(w.heap.size=w.heap.size+1+1):=Y
 go_region_held3 (λc=>c.cell? ⟨w.heap.size,0,none⟩=some (C a la ca)/\c.cell? ⟨w.heap.size,1,none⟩=some (F s)/\c.cell? ⟨w.heap.size+1,0,none⟩=some (C b lb cb)/\c.cell? ⟨w.heap.size+1,1,none⟩=some (F t)) (refine⟨?_,?_,?_,?_⟩<;>(first|(go_keep;done)|((repeat rw[JH Y]);simp[*];done)))
  (first
   |(go_at_call 110;refine(P.o _ hq).mono ?_;rintro e w1 ⟨u1,rfl,n,T⟩;obtain⟨na,nl,nc,rfl⟩:=n.form;obtain⟨s1,l⟩:=ex (decide (-y<0));rw[l]at n;rw[l];clear l;have hq:=Bt hq T;obtain⟨r,z⟩:=(b0.below hq).cp;obtain⟨A,B⟩:=(j.below hq).cp)
   |(go_at_call 81;refine(Q.o _ _ hq n).mono ?_;rintro e w2 ⟨u2,rfl,o,U⟩;obtain⟨L,sl,sc,rfl⟩:=o.form;obtain⟨K,m⟩:=ex (decide (x+-y<0));rw[m]at o;rw[m];clear m;have hq:=Bt hq U;obtain⟨r,z⟩:=(b0.below hq).cp;obtain⟨A,B⟩:=(j.below hq).cp;obtain⟨r0,r1⟩:=(k.below hq).cp;obtain⟨f0,f1⟩:=(k.below hq).fp))
 all_goals go_wp2_with fail
 have S:=Bt i hq;have R:=o.box (k.below hq) rfl rfl (x0:=C L sl sc) (x1:=F K);exact BA (v:=H #[C L sl sc,F K]) (by simp[results,Tryz.results140,go_sem,r0,r1]) rfl ⟨_,rfl,by rw[Int.sub_eq_add_neg];exact R,(S.setCell (p:=⟨_,0,none⟩) so _).setCell (p:=⟨_,1,none⟩) so _⟩
theorem QN(P Q:D)(x y:Int)(w:E)(f:Jm w P x)(X:Jm w Q y)(af:(Jc Z x.natAbs).length<1099511627776)(ah:(Jc Z y.natAbs).length<1099511627776):
 Calls I 88 #[P,Q] w λe c=>∃u,e=.returned u/\Jm c u (x-y)/\Bl w c:=by
 obtain⟨a,la,ca,rfl⟩:=f.form;obtain⟨b,lb,cb,W,g⟩:=X;cases W;obtain⟨s,hs⟩:=ex (decide (x<0));obtain⟨t,n⟩:=ex (decide (y<0));rw[hs]at f ⊢;rw[n];clear hs;obtain⟨W0,d⟩:=ex (((w.alloc (G #[F s,C a la ca] 63)).alloc (G #[F t,C b lb cb] 63)).alloc (G #[F false,C none 0 0] 63));have i:Bl w W0:=by rw[<-d];exact Xq w _ _ _
 have b0:Jn W0 w.heap.size 63 (F s) (C a la ca):=by rw[<-d];exact((Jn.new w _ _ _).alloc _).alloc _
 have j:Jn W0 (w.heap.size+1) 63 (F t) (C b lb cb):=by
  have h:=(Jn.new (w.alloc (G #[F s,C a la ca] 63)) 63 (F t) (C b lb cb)).alloc (G #[F false,C none 0 0] 63);rw[A1,d]at h;exact h
 have k:Jn W0 (w.heap.size+1+1) 63 (F false) (C none 0 0):=by
  have h:=Jn.new ((w.alloc (G #[F s,C a la ca] 63)).alloc (G #[F t,C b lb cb] 63)) 63 (F false) (C none 0 0);rw[A1,A1,d]at h;exact h
 have r:(if(!t)=true then -(y.natAbs:Int)else y.natAbs)=-y:=by
  rw[<-n];by_cases h:y<0
  . simp only[h,DI,Bool.not_true,A9,if_false];omega
  . simp only[h,DA,Bool.not_false,if_true];omega
 have R:=J (λ(V:E) (h:Bl W0 V)=>show Calls I 119 #[F (!t),C b lb cb] V λe c=>∃u,e=.returned u/\Jm c u (-y)/\Bl V c by
  have z:=I5 (!t) (C b lb cb) y.natAbs V (UN.below (UN.below g i) h);rw[r]at z;exact z)
 have S:=J λ(V:E) (u:D) (h:Bl W0 V) (g:Jm V u (-y))=>Nt _ u x (-y) V ((f.below i).below h) g af (by rw[Fq];exact ah);clear f g r n;go_enter Tryz.func88,Tryz.ntmps88
 go_wp2_with fail
 try rw[d]
 clear d;have hq:Bl W0 W0.drew:=(BB _ W0).drew;obtain⟨A,B⟩:=b0.cp;obtain⟨K,L⟩:=j.cp;have ai:¬(w.heap.size=w.heap.size+1+1):=Y
 go_region_held3 (λc=>c.cell? ⟨w.heap.size,0,none⟩=some (F s)/\c.cell? ⟨w.heap.size,1,none⟩=some (C a la ca)/\c.cell? ⟨w.heap.size+1,0,none⟩=some (F t)/\c.cell? ⟨w.heap.size+1,1,none⟩=some (C b lb cb)) (refine⟨?_,?_,?_,?_⟩<;>(first|(go_keep;done)|((repeat rw[JH Y]);simp[*];done)))
  (first
   |(go_at_call 119;refine(R.o _ hq).mono ?_;rintro e w1 ⟨u1,rfl,o,ad⟩;obtain⟨na,nl,nc,rfl⟩:=o.form;obtain⟨s1,l⟩:=ex (decide (-y<0));rw[l]at o;rw[l];clear l;have hq:=Bt hq ad;obtain⟨A,B⟩:=(b0.below hq).cp;obtain⟨K,L⟩:=(j.below hq).cp)
   |(go_at_call 121;refine(S.o _ _ hq o).mono ?_;rintro e w2 ⟨u2,rfl,q,ae⟩;obtain⟨N,sl,sc,rfl⟩:=q.form;obtain⟨M,m⟩:=ex (decide (x+-y<0));rw[m]at q;rw[m];clear m;have hq:=Bt hq ae;obtain⟨A,B⟩:=(b0.below hq).cp;obtain⟨K,L⟩:=(j.below hq).cp;obtain⟨r0,r1⟩:=(k.below hq).cp;obtain⟨f0,f1⟩:=(k.below hq).fp))
 all_goals go_wp2_with fail
 have U:=Bt i hq;have T:=q.box (k.below hq) rfl rfl (x0:=F M) (x1:=C N sl sc);exact BA (v:=H #[F M,C N sl sc]) (by simp[results,Tryz.results88,go_sem,r0,r1]) rfl ⟨_,rfl,by rw[Int.sub_eq_add_neg];exact T,(U.setCell (p:=⟨_,0,none⟩) so _).setCell (p:=⟨_,1,none⟩) so _⟩
theorem ZR(a:Option Addr)(la ca:Nat)(b:Option Addr)(lb cb m n:Nat)(w:E)(t:la+lb<=1099511627776)
(i:Row .u64 w (C a la ca) (Jc Z m))(j:Row .u64 w (C b lb cb) (Jc Z n)):
 Calls I 120 #[C a la ca,C b lb cb] w λe q=>∃u,e=.returned u/\UN q u (m*n)/\Bl w q:=by
 have l:=I6 (la+lb) Y w;rw[show((la+lb:Nat):Int)=(la:Int)+(lb:Int)from by omega]at l;obtain⟨c,d⟩:∃c,c=w.alloc (G (cellsOf .u64 (List.replicate (la+lb) 0)).toArray 156):=⟨_,rfl⟩;have f:Bl w c:=by rw[d];exact Ba w _
 have k:DV c w.heap.size (List.replicate (la+lb) 0):=by rw[d];exact DV.made (BE w _)
 rw[<-d]at l;have r:=J (Vu w.heap.size (la+lb) (la+lb) (List.replicate (la+lb) 0) a la ca b lb cb m n c k (λx v=>by rw[CG v];unfold Z;omega) (by rw[Au];exact Aa _) (Aa _) Y t (Row.below i f) (Row.below j f)
  (λp e g=>by have:=Ig i e g;omega) λp e g=>by have:=Ig j e g;omega)
 clear d k i j;go_enter Tryz.func120,Tryz.ntmps120
 go_wp2_with(go_at_call 141;refine r.o.mono ?_;rintro e A ⟨u,rfl,⟨o,s⟩,_,_⟩;obtain⟨y,z,rfl⟩:=UN.form o)
 go_ret;exact⟨_,rfl,o,below_grown f s (Aa _)⟩
theorem Xl(R S:D)(x y:Int)(w:E)(ha:Jm w R x)(hb:Jm w S y)(hl:(Jc Z x.natAbs).length+(Jc Z y.natAbs).length<=1099511627776):
 Calls I 85 #[R,S] w λe f=>∃u,e=.returned u/\Jm f u (x*y)/\Bl w f:=by
 obtain⟨a,la,ca,n,j⟩:=ha;cases n;obtain⟨b,lb,cb,n,z⟩:=hb;cases n;have X:=j.len;have Qe:=z.len;obtain⟨s,hs⟩:=ex (decide (x<0));obtain⟨t,q⟩:=ex (decide (y<0));have A:(if(!(s==t))=true then -((x.natAbs*y.natAbs:Nat):Int)else((x.natAbs*y.natAbs:Nat):Int))=x*y:=by
  rw[<-hs,<-q,<-CX];rcases FH x 0 with c|c|c<;>rcases FH y 0 with d|d|d
  . have:=Int.mul_pos_of_neg_of_neg c d;simp[c,d];omega
  . subst d;simp
  . have:=Int.mul_neg_of_neg_of_pos c d;have g:¬y<0:=Y
    simp[c,g];omega
  . subst c;simp
  . subst c;simp
  . subst c;simp
  . have:=Int.mul_neg_of_pos_of_neg c d;have g:¬x<0:=Y
    simp[d,g];omega
  . subst d;simp
  . have:=Int.mul_pos c d;have g:¬x<0:=Y
    have h2:¬y<0:=Y
    simp[g,h2];omega
 rw[hs,q];obtain⟨W0,i⟩:=ex (((w.alloc (G #[F s,C a la ca] 63)).alloc (G #[F t,C b lb cb] 63)).alloc (G #[F false,C none 0 0] 63));have k:Bl w W0:=by rw[<-i];exact Xq w _ _ _
 have b0:Jn W0 w.heap.size 63 (F s) (C a la ca):=by rw[<-i];exact((Jn.new w _ _ _).alloc _).alloc _
 have l:Jn W0 (w.heap.size+1) 63 (F t) (C b lb cb):=by
  have h:=(Jn.new (w.alloc (G #[F s,C a la ca] 63)) 63 (F t) (C b lb cb)).alloc (G #[F false,C none 0 0] 63);rw[A1,i]at h;exact h
 have m:Jn W0 (w.heap.size+1+1) 63 (F false) (C none 0 0):=by
  have h:=Jn.new ((w.alloc (G #[F s,C a la ca] 63)).alloc (G #[F t,C b lb cb] 63)) 63 (F false) (C none 0 0);rw[A1,A1,i]at h;exact h
 have U:=J λ(V:E) (h:Bl W0 V)=>ZR a la ca b lb cb _ _ V Y (UN.below (UN.below j k) h) (UN.below (UN.below z k) h);have T:=J (λ(V:E) (u:D) (j:UN V u (x.natAbs*y.natAbs))=>show Calls I 119 #[F (!(s==t)),u] V λe f=>∃u,e=.returned u/\Jm f u (x*y)/\Bl V f by
  have g:=I5 (!(s==t)) u _ V j;rw[A]at g;exact g)
 clear j z A hs q X Qe hl;go_enter Tryz.func85,Tryz.ntmps85
 go_wp2_with fail
 try rw[i]
 clear i;have hq:Bl W0 W0.drew:=(BB _ W0).drew;obtain⟨K,L⟩:=b0.cp;obtain⟨M,N⟩:=l.cp;have af:¬(w.heap.size=w.heap.size+1+1):=Y
 go_region_held3 (λf=>f.cell? ⟨w.heap.size,0,none⟩=some (F s)/\f.cell? ⟨w.heap.size,1,none⟩=some (C a la ca)/\f.cell? ⟨w.heap.size+1,0,none⟩=some (F t)/\f.cell? ⟨w.heap.size+1,1,none⟩=some (C b lb cb)) (refine⟨?_,?_,?_,?_⟩<;>(first|(go_keep;done)|((repeat rw[JH Y]);simp[*];done)))
  (first
   |(go_at_call 120;refine(U.o _ hq).mono ?_;rintro e w1 ⟨u1,rfl,B,ad⟩;obtain⟨na,nc,rfl⟩:=UN.form B;have hq:=Bt hq ad;obtain⟨K,L⟩:=(b0.below hq).cp;obtain⟨M,N⟩:=(l.below hq).cp)
   |(go_at_call 119;refine(T.o _ _ B).mono ?_;rintro e w2 ⟨u2,rfl,r,ae⟩;obtain⟨Q,sl,sc,rfl⟩:=r.form;obtain⟨P,o⟩:=ex (decide (x*y<0));rw[o]at r;rw[o];clear o;have hq:=Bt hq ae;obtain⟨K,L⟩:=(b0.below hq).cp;obtain⟨M,N⟩:=(l.below hq).cp;obtain⟨r0,r1⟩:=(m.below hq).cp;obtain⟨f0,f1⟩:=(m.below hq).fp))
 all_goals go_wp2_with fail
 have Qf:=Bt k hq;have W:=r.box (m.below hq) rfl rfl (x0:=F P) (x1:=C Q sl sc);exact BA (v:=H #[F P,C Q sl sc]) (by simp[results,Tryz.results85,go_sem,r0,r1]) rfl ⟨_,rfl,W,(Qf.setCell (p:=⟨_,0,none⟩) so _).setCell (p:=⟨_,1,none⟩) so _⟩
end
namespace M3
inductive Dat
 |int(z:Int)
 |rat(q:Rat)
 |big(z:Int)
 |ref(q:Rat)
 |zref
 |pair(x y:Int)
 |rats(qs:List Rat)
 |poly(ps:List Rat)
 |cell(t:TypeId)(v:Value)
def Dat.ty:Dat->TypeId
 |.int _=>63
 |.rat _=>65
 |.big _=>83
 |.ref _=>85
 |.zref=>85
 |.pair _ _=>65
 |.rats _=>65
 |.poly _=>25
 |.cell t _=>t
def Has(V:E)(v:D):Dat->Prop
 |.int z=>Jm V v z
 |.rat q=>Jk V v q
 |.big z=>Js V v z
 |.ref q=>Jr V v q
 |.zref=>v=H #[C none 0 0,F false,C none 0 0,F false]
 |.pair x y=>Gy V v x y
 |.rats qs=>∃cs,v=H cs/\∀j,j<qs.length->∃x y z u,cs[j*4]?=some x/\cs[j*4+1]?=some y/\cs[j*4+2]?=some z/\cs[j*4+3]?=some u/\EM true V (H #[x,y,z,u]) (cf qs j)
 |.poly ps=>Jg V v ps
 |.cell _ x=>v=H #[x]/\JA x=true
theorem Has.below{V V':E}{v:D}{d:Dat}(h:Has V v d)(a:Bl V V'):Has V' v d:=by
 cases d with
 |int z=>exact Jm.below h a
 |rat q=>exact Jk.below h a
 |big z=>exact Js.below h a
 |ref q=>exact Jr.below h a
 |zref=>exact h
 |pair x y=>exact Gy.below h a
 |rats qs=>
  obtain⟨cs,e,h⟩:=h;refine⟨cs,e,λj k=>?_⟩;obtain⟨x,y,z,u,b,c,f,g,i⟩:=h j k;exact⟨x,y,z,u,b,c,f,g,i.below a⟩
 |poly ps=>exact Jg.below h a
 |cell t x=>exact h
theorem Has.alloc{V:E}{v:D}{d:Dat}(h:Has V v d)(o:Obj):Has (V.alloc o) v d:=h.below (Ba V o)
def Dat.noPoly:Dat->Bool|.poly _=>false|_=>true
theorem Has.keep{V V':E}{v:D}{d:Dat}(h:Has V v d)(f:∀k v ds,Row k V v ds->Row k V' v ds)(hp:d.noPoly=true\/∀v qs,RowK true V v qs->RowK true V' v qs):Has V' v d:=by
 cases d with
 |rats qs=>
  obtain⟨cs,e,h⟩:=h;refine⟨cs,e,λj K=>?_⟩;obtain⟨x,y,z,u,w,g,i,A,B⟩:=h j K;exact⟨x,y,z,u,w,g,i,A,B.keep f⟩
 |poly ps=>
  rcases hp with hp|hp
  . cases hp
  . obtain⟨u,e,m⟩:=h;exact⟨u,e,hp _ _ m⟩
 |cell t x=>exact h
 |zref=>exact h
 |pair x y=>
  obtain⟨s,a,l,c,t,b,k,d,e,⟨n,l1,c1,g,m⟩,⟨o,l2,c2,i,p⟩⟩:=h;exact⟨s,a,l,c,t,b,k,d,e,⟨n,l1,c1,g,f _ _ _ m⟩,⟨o,l2,c2,i,f _ _ _ p⟩⟩
 |int z=>obtain⟨a,l,c,e,r⟩:=h;exact⟨a,l,c,e,f _ _ _ r⟩
 |big z=>obtain⟨a,l,c,e,r⟩:=h;exact⟨a,l,c,e,f _ _ _ r⟩
 |rat q=>
  obtain⟨s,a,l,c,t,b,k,d,e,⟨n,l1,c1,g,m⟩,⟨o,l2,c2,i,p⟩⟩:=h;exact⟨s,a,l,c,t,b,k,d,e,⟨n,l1,c1,g,f _ _ _ m⟩,⟨o,l2,c2,i,f _ _ _ p⟩⟩
 |ref q=>
  obtain⟨s,a,l,c,t,b,k,d,e,⟨n,l1,c1,g,m⟩,⟨o,l2,c2,i,p⟩⟩:=h;exact⟨s,a,l,c,t,b,k,d,e,⟨n,l1,c1,g,f _ _ _ m⟩,⟨o,l2,c2,i,f _ _ _ p⟩⟩
def Bx(V:E)(B:Nat)(t:TypeId)(cs:Array D):Prop:=V.heap[B]?=some (G cs t (0,0))
variable{cs:Array D}{d:Dat}{m z:Int}{bs:List (Option (Nat × Dat))}{qs:List Rat}{B i:Nat}{q:Rat}{t:TypeId}{u x x0 y:D}{V V' w:E}
theorem Bx.lt(h:Bx V B t cs):B<V.heap.size:=(Ab.1 h).1
theorem Bx.below(h:Bx V B t cs)(a:Bl V V'):Bx V' B t cs:=(a.block B h.lt).trans h
theorem Bx.far(h:Bx V B t cs){p:Addr}(hp:B≠p.block)(u:D):Bx (V.setCell p u) B t cs:=(BD V p u B hp).trans h
def noPoly:List (Option (Nat × Dat))->Bool
 |[]=>true
 |some (_,d)::t=>d.noPoly&&noPoly t
 |Option.none::t=>noPoly t
theorem QO(h:noPoly bs=true){x:Nat × Dat}(e:bs[i]?=some (some x)):x.2.noPoly=true:=by
 induction bs generalizing i with
 |nil=>simp at e
 |cons b t a=>
  cases b with
  |none=>
   cases i with
   |zero=>simp at e
   |succ i=>exact a h (by simpa using e)
  |some y=>
   rw[noPoly,AM]at h;cases i with
   |zero=>simp at e;rw[<-e];exact h.1
   |succ i=>exact a h.2 (by simpa using e)
def Mem(w V:E)(bs:List (Option (Nat × Dat))):Prop:=
 (∀(i:Nat) B d,bs[i]?=some (some (B,d))->(∃cs,Bx V B d.ty cs/\Has V (H cs) d)/\w.heap.size<=B)/\
 (∀(i j:Nat) B d a,bs[i]?=some (some (B,d))->bs[j]?=some (some (B,a))->i=j)/\Bl w V
theorem Mem.nil(w:E):Mem w w []:=⟨λi B z h=>by simp at h,λi j B z a h=>by simp at h,BB _ w⟩
theorem Mem.int{w V:E}{bs:List (Option (Nat × Dat))}(M:Mem w V bs){i B:Nat}{z:Int}(h:bs[i]?=some (some (B,.int z))):∃s a l c,Jn V B 63 (F s) (C a l c)/\Jm V (H #[F s,C a l c]) z:=by
 obtain⟨⟨cs,b,d⟩,_⟩:=M.1 i B _ h;obtain⟨a,l,c,e,f⟩:=d;cases e;exact⟨_,a,l,c,b,a,l,c,rfl,f⟩
theorem Mem.big{w V:E}{bs:List (Option (Nat × Dat))}(M:Mem w V bs){i B:Nat}{z:Int}(h:bs[i]?=some (some (B,.big z))):∃a l c s,Jn V B 83 (C a l c) (F s)/\Js V (H #[C a l c,F s]) z:=by
 obtain⟨⟨cs,b,d⟩,_⟩:=M.1 i B _ h;obtain⟨a,l,c,e,f⟩:=d;cases e;exact⟨a,l,c,_,b,a,l,c,rfl,f⟩
theorem Mem.rat{w V:E}{bs:List (Option (Nat × Dat))}(M:Mem w V bs){i B:Nat}{q:Rat}(h:bs[i]?=some (some (B,.rat q))):
 ∃s a l c t b k d,JL V B 65 (F s) (C a l c) (F t) (C b k d)/\Jk V (H #[F s,C a l c,F t,C b k d]) q/\Jm V (H #[F s,C a l c]) q.num/\Jm V (H #[F t,C b k d]) (EC q):=by
 obtain⟨⟨cs,m,f⟩,_⟩:=M.1 i B _ h;have n:=f;obtain⟨s,a,l,c,t,b,k,d,e,g,j⟩:=f;cases e;exact⟨s,a,l,c,t,b,k,d,m,n,g,j⟩
theorem Mem.ref{w V:E}{bs:List (Option (Nat × Dat))}(M:Mem w V bs){i B:Nat}{q:Rat}(h:bs[i]?=some (some (B,.ref q))):
 ∃a l c s b k d t,JL V B 85 (C a l c) (F s) (C b k d) (F t)/\Jr V (H #[C a l c,F s,C b k d,F t]) q/\Js V (H #[C a l c,F s]) q.num/\Js V (H #[C b k d,F t]) (q.den:Int):=by
 obtain⟨⟨cs,m,f⟩,_⟩:=M.1 i B _ h;have n:=f;obtain⟨s,a,l,c,t,b,k,d,e,g,j⟩:=f;cases e;exact⟨s,a,l,c,t,b,k,d,m,n,g,j⟩
theorem Mem.below{w V V':E}{bs:List (Option (Nat × Dat))}(M:Mem w V bs)(a:Bl V V'):Mem w V' bs:=
 ⟨λi B z h=>by
  obtain⟨⟨cs,b,c⟩,d⟩:=M.1 i B z h;exact⟨⟨cs,b.below a,c.below a⟩,d⟩,M.2.1,Bt M.2.2 a⟩
theorem Mem.drew{w V:E}{bs:List (Option (Nat × Dat))}(M:Mem w V bs):Mem w V.drew bs:=M.below ((BB _ V).drew)
theorem Mem.sub{cs:List (Option (Nat × Dat))}(M:Mem w V bs)(f:Nat->Nat)(e:∀(i j:Nat),f i=f j->i=j)(h:∀(i:Nat) x,cs[i]?=some (some x)->bs[f i]?=some (some x)):Mem w V cs:=
 ⟨λi B d a=>M.1 (f i) B d (h i _ a),λi j B d b a c=>e i j (M.2.1 (f i) (f j) B d b (h i _ a) (h j _ c)),M.2.2⟩
theorem Mem.take{w V:E}{bs:List (Option (Nat × Dat))}(M:Mem w V bs)(n:Nat):Mem w V (bs.take n):=by
 refine M.sub id (λ_ _ h=>h) λi x h=>?_;rw[Fs]at h;split at h
 . exact h
 . cases h
theorem Mem.none{w V:E}{bs:List (Option (Nat × Dat))}(M:Mem w V bs):Mem w V (bs++[Option.none]):=by
 refine M.sub id (λ_ _ h=>h) λi x h=>?_;by_cases a:i<bs.length
 . rwa[AJ a]at h
 . rw[AB Y]at h;obtain⟨k,b⟩:=ex (i-bs.length);rw[b]at h;cases k<;>simp at h
theorem Mem.fill(M:Mem w V bs)(h:bs[i]?=some Option.none)(d:Dat)(q:Has V (H cs) d):
 Mem w (V.alloc (G cs d.ty)) (bs.set i (some (V.heap.size,d))):=by
 have m:Bl V (V.alloc (G cs d.ty)):=Ba V _;have f:i<bs.length:=(Ac.1 h).1;have l:=M.below m;have n:∀(j:Nat) B d,bs[j]?=some (some (B,d))->B<V.heap.size:=λj B d h=>by
  obtain⟨⟨_,a,_⟩,_⟩:=M.1 j B d h;exact a.lt
 refine⟨λj B p e=>?_,λj k B d1 o a b=>?_,l.2.2⟩
 . by_cases c:i=j
   . subst c;rw[A6 f]at e;simp at e;obtain⟨rfl,rfl⟩:=e;exact⟨⟨cs,BE V _,q.below m⟩,M.2.2.size⟩
   . rw[AW c]at e;exact l.1 j B p e
 . by_cases c:i=j<;>by_cases g:i=k
   . omega
   . subst c;rw[A6 f]at a;rw[AW g]at b;simp at a;have:=n k B o b;omega
   . subst g;rw[A6 f]at b;rw[AW c]at a;simp at b;have:=n j B d1 a;omega
   . rw[AW c]at a;rw[AW g]at b;exact M.2.1 j k B d1 o a b
theorem Mem.push(M:Mem w V bs)(d:Dat)(a:Has V (H cs) d):Mem w (V.alloc (G cs d.ty)) (bs++[some (V.heap.size,d)]):=by
 have h:=M.none.fill (i:=bs.length) O d a;rwa[QK]at h
theorem Mem.repl(M:Mem w V bs)(h:bs[i]?=some (some (B,d)))(c:Dat)(z:Bx V' B c.ty cs)(A:Has V (H cs) c)
(o:∀k v ds,Row k V v ds->Row k V' v ds)(K:∀B' t cs,B'≠B->Bx V B' t cs->Bx V' B' t cs)(y:Bl w V')
(hp:noPoly bs=true\/∀v qs,RowK true V v qs->RowK true V' v qs)(L:c.noPoly=true\/∀v qs,RowK true V v qs->RowK true V' v qs):Mem w V' (bs.set i (some (B,c))):=by
 have n:i<bs.length:=(Ac.1 h).1;obtain⟨_,N⟩:=M.1 i B d h;refine⟨λj B' d1 a=>?_,λj k B' d1 r u x=>?_,y⟩
 . by_cases b:i=j
   . subst b;rw[A6 n]at a;simp at a;obtain⟨rfl,rfl⟩:=a;exact⟨⟨cs,z,A.keep o L⟩,N⟩
   . rw[AW b]at a;obtain⟨⟨q,g,l⟩,P⟩:=M.1 j B' d1 a;have p:B'≠B:=λe=>b (by rw[e]at a;exact M.2.1 i j B d d1 h a);exact⟨⟨q,K _ _ _ p g,l.keep o (hp.imp (λh=>QO h a) id)⟩,P⟩
 . have m:∀(j:Nat) d1,(bs.set i (some (B,c)))[j]?=some (some (B',d1))->∃f,bs[j]?=some (some (B',f)):=λj d1 a=>by
    by_cases b:i=j
    . subst b;rw[A6 n]at a;simp at a;exact⟨d,by rw[h,a.1]⟩
    . rw[AW b]at a;exact⟨d1,a⟩
   obtain⟨f,g⟩:=m j d1 u;obtain⟨s,l⟩:=m k r x;exact M.2.1 j k B' f s g l
theorem L5(h:Bx V B t cs){o:Nat}(e:cs[o]?=some x0)(n0:JA x0=true)(r:Bool)(m:t≠EH r)(x:D)(v:D)(qs:List Rat)(d:RowK r V v qs):RowK r (V.setCell ⟨B,o,Option.none⟩ x) v qs:=by
 obtain⟨a,cap,ev,j,k,l,c⟩:=d;refine⟨a,cap,ev,j,k,l,?_⟩;rcases c with c|⟨b,i,g⟩
 . exact Or.inl c
 . refine Or.inr ⟨b,i,g.keep (BD V ⟨B,o,Option.none⟩ x b ?_) λ_ _ _ d=>Row.set d (cell_of h e) n0 _⟩;rintro rfl;obtain⟨n,f,_⟩:=g;rw[show V.heap[b]?=_ from h]at f;cases f;exact m rfl
theorem QP{a:D}(q:Jn V B t x0 a){r:Bool}(b:t≠EH r)(n0:JA x0=true)(c:JA a=true)(x y:D):∀v qs,RowK r V v qs->RowK r ((V.setCell ⟨B,0,Option.none⟩ x).setCell ⟨B,1,Option.none⟩ y) v qs:=
 λv qs h=>L5 (cs:=#[x,a]) (q.set0 x) (o:=1) rfl c r b y v qs (L5 (cs:=#[x0,a]) q (o:=0) rfl n0 r b x v qs h)
theorem keep2(q:Jn V B t x y)(n0:JA x=true)(b:JA y=true)(a c:D):∀k v ds,Row k V v ds->Row k ((V.setCell ⟨B,0,Option.none⟩ a).setCell ⟨B,1,Option.none⟩ c) v ds:=
 λ_ _ _ h=>Row.set (Row.set h q.c0 n0 _) (q.set0 a).c1 b _
theorem Mem.putInt(M:Mem w V bs)(h:bs[i]?=some (some (B,.int m)))(f:Jm V (H #[x,y]) z):
 Mem w ((V.setCell ⟨B,0,Option.none⟩ x).setCell ⟨B,1,Option.none⟩ y) (bs.set i (some (B,.int z))):=by
 obtain⟨s,a,l,c,b,_⟩:=M.int h;obtain⟨_,e⟩:=M.1 i B _ h;exact M.repl h (.int z) (cs:=#[x,y]) ((b.set0 x).set1 y) f (keep2 b rfl rfl x y) (λB' t cs d g=>(g.far (p:=⟨B,0,Option.none⟩) d _).far (p:=⟨B,1,Option.none⟩) d _) ((M.2.2.setCell (p:=⟨B,0,Option.none⟩) e _).setCell (p:=⟨B,1,Option.none⟩) e _) (Or.inr (QP b DQ rfl rfl x y)) (Or.inl rfl)
theorem Mem.putBig(M:Mem w V bs)(h:bs[i]?=some (some (B,.big m)))(f:Js V (H #[x,y]) z):
 Mem w ((V.setCell ⟨B,0,Option.none⟩ x).setCell ⟨B,1,Option.none⟩ y) (bs.set i (some (B,.big z))):=by
 obtain⟨a,l,c,s,b,_⟩:=M.big h;obtain⟨_,e⟩:=M.1 i B _ h;exact M.repl h (.big z) (cs:=#[x,y]) ((b.set0 x).set1 y) f (keep2 b rfl rfl x y) (λB' t cs d g=>(g.far (p:=⟨B,0,Option.none⟩) d _).far (p:=⟨B,1,Option.none⟩) d _) ((M.2.2.setCell (p:=⟨B,0,Option.none⟩) e _).setCell (p:=⟨B,1,Option.none⟩) e _) (Or.inr (QP b DQ rfl rfl x y)) (Or.inl rfl)
theorem far4(x y z u:D):∀B' t cs,B'≠B->Bx V B' t cs->Bx (put4 V B x y z u) B' t cs:=λ_ _ _ a g=>(((g.far (p:=⟨B,0,Option.none⟩) a _).far (p:=⟨B,1,Option.none⟩) a _).far (p:=⟨B,2,Option.none⟩) a _).far (p:=⟨B,3,Option.none⟩) a _
theorem Mem.putRat(M:Mem w V bs){q0:Rat}(h:bs[i]?=some (some (B,.rat q0))){z:D}(b:Jk V (H #[x,y,z,u]) q)(d:noPoly bs=true:=by rfl):
 Mem w (put4 V B x y z u) (bs.set i (some (B,.rat q))):=by
 obtain⟨_,_,_,_,_,_,_,_,a,_⟩:=M.rat h;obtain⟨_,c⟩:=M.1 i B _ h;exact M.repl h (.rat q) (cs:=#[x,y,z,u]) (a.put x y z u) b (λ_ _ _ g=>Row.put4 g a rfl rfl rfl rfl _ _ _ _) (far4 x y z u) (Jt M.2.2 c _ _ _ _) (Or.inl d) (Or.inl rfl)
theorem Mem.zref{w V:E}{bs:List (Option (Nat × Dat))}(M:Mem w V bs){i B:Nat}(h:bs[i]?=some (some (B,.zref))):JL V B 85 (C Option.none 0 0) (F false) (C Option.none 0 0) (F false):=by
 obtain⟨⟨cs,a,b⟩,_⟩:=M.1 i B _ h;cases(show Value.agg cs=_ from b);exact a
theorem Has.set2{v:D}(h:Has V v d)(q:Jn V B t x y)(n0:JA x=true)(e:JA y=true)(a b:D)(c:d.noPoly=true:=by rfl):Has ((V.setCell ⟨B,0,Option.none⟩ a).setCell ⟨B,1,Option.none⟩ b) v d:=h.keep (keep2 q n0 e a b) (Or.inl c)
theorem Has.put4{V:E}{v:D}{d:Dat}(h:Has V v d){B:Nat}{t:TypeId}{x y z u:D}(q:JL V B t x y z u)(n0:JA x=true)(b:JA y=true)(c:JA z=true)(e:JA u=true)(i j k f:D)(a:d.noPoly=true:=by rfl):Has (Go.Proofs.YteldjhhjnchdeaaGreatDoor.put4 V B i j k f) v d:=h.keep (λ_ _ _ g=>Row.put4 g q n0 b c e _ _ _ _) (Or.inl a)
theorem Mem.ne(M:Mem w V bs)(i j:Nat){B':Nat}{a:Dat}(h:bs[i]?=some (some (B,d)))(b:bs[j]?=some (some (B',a)))(c:i≠j):B≠B':=λe=>by
 subst e;exact c (M.2.1 i j B d a h b)
theorem Mem.ge(M:Mem w V bs)(i:Nat)(h:bs[i]?=some (some (B,d))):w.heap.size<=B:=(M.1 i B d h).2
def Tup2(V:E)(t:D)(d1 a:Dat):Prop:=∃u1 u2,t=.tuple #[u1,u2,F true]/\Has V u1 d1/\Has V u2 a
theorem Tup2.below{V V':E}{t:D}{d1 a:Dat}(h:Tup2 V t d1 a)(b:Bl V V'):Tup2 V' t d1 a:=by
 obtain⟨u1,u2,e,c,d⟩:=h;exact⟨u1,u2,e,c.below b,d.below b⟩
theorem Tup2.alloc{V:E}{t:D}{d1 a:Dat}(h:Tup2 V t d1 a)(o:Obj):Tup2 (V.alloc o) t d1 a:=by
 obtain⟨u1,u2,e,b,c⟩:=h;exact⟨u1,u2,e,b.alloc o,c.alloc o⟩
theorem Tup2.set2{V:E}{v:D}{d1 a:Dat}(h:Tup2 V v d1 a){B:Nat}{t:TypeId}{x y:D}(q:Jn V B t x y)(n0:JA x=true)(d:JA y=true)(b c:D)(i:d1.noPoly=true:=by rfl)(j:a.noPoly=true:=by rfl):Tup2 ((V.setCell ⟨B,0,Option.none⟩ b).setCell ⟨B,1,Option.none⟩ c) v d1 a:=by
 obtain⟨u1,u2,e,f,g⟩:=h;exact⟨u1,u2,e,f.set2 q n0 d b c i,g.set2 q n0 d b c j⟩
theorem Mem.rats{w V:E}{bs:List (Option (Nat × Dat))}(M:Mem w V bs){i B:Nat}{qs:List Rat}(h:bs[i]?=some (some (B,.rats qs))):Dy true V B qs:=by
 obtain⟨⟨cs,b,a⟩,_⟩:=M.1 i B _ h;obtain⟨c,e,a⟩:=a;cases e;exact⟨cs,b,a⟩
theorem Mem.putRats(M:Mem w V bs)(h:bs[i]?=some (some (B,.rats qs))){j:Nat}(o:j<qs.length){z:D}(N:Jk V (H #[x,y,z,u]) q)(R:noPoly bs=true:=by rfl):
 Mem w (putAt V B (j*4) x y z u) (bs.set i (some (B,.rats (qs.set j q)))):=by
 have n:=M.rats h;obtain⟨_,p⟩:=M.1 i B _ h;obtain⟨cs,c1,c2⟩:=Dy.set (r:=true) n o N;have P:=n.putKeep o x y z u;have m:i<bs.length:=(Ac.1 h).1;refine⟨λb B' d1 a=>?_,λb k B' d1 v K L=>?_,QM M.2.2 p _ _ _ _⟩
 . by_cases c:i=b
   . subst c;rw[A6 m]at a;simp at a;obtain⟨rfl,rfl⟩:=a;exact⟨⟨cs,c1,cs,rfl,c2⟩,p⟩
   . rw[AW c]at a;obtain⟨⟨t,f,g⟩,Q⟩:=M.1 b B' d1 a;have s:B'≠B:=λe=>c (by rw[e]at a;exact M.2.1 i b B _ d1 h a);exact⟨⟨t,(Ky s x y z u).trans f,g.keep P (Or.inl (QO R a))⟩,Q⟩
 . have l:∀(b:Nat) d1,(bs.set i (some (B,.rats (qs.set j q))))[b]?=some (some (B',d1))->∃d,bs[b]?=some (some (B',d)):=λb d1 a=>by
    by_cases c:i=b
    . subst c;rw[A6 m]at a;simp at a;exact⟨_,by rw[h,a.1]⟩
    . rw[AW c]at a;exact⟨d1,a⟩
   obtain⟨d,f⟩:=l b d1 K;obtain⟨A,g⟩:=l k v L;exact M.2.1 b k B' d A f g
theorem Mem.cell{w V:E}{bs:List (Option (Nat × Dat))}(M:Mem w V bs){i B:Nat}{t:TypeId}{v:D}(h:bs[i]?=some (some (B,.cell t v))):Boxed V B t v/\JA v=true:=by
 obtain⟨⟨cs,b,a⟩,_⟩:=M.1 i B _ h;obtain⟨e,a⟩:=a;cases e;exact⟨b,a⟩
theorem Mem.poly{w V:E}{bs:List (Option (Nat × Dat))}(M:Mem w V bs){i B:Nat}{ps:List Rat}(h:bs[i]?=some (some (B,.poly ps))):∃a l c,Boxed V B 25 (C a l c)/\RowK true V (C a l c) ps:=by
 obtain⟨⟨cs,d,b⟩,_⟩:=M.1 i B _ h;obtain⟨a,l,c,e⟩:=Jg.form b;cases e;exact⟨a,l,c,d,Jg.row b⟩
theorem QQ(q:Boxed V B t x)(n0:JA x=true)(a:D):∀k v ds,Row k V v ds->Row k (V.setCell ⟨B,0,Option.none⟩ a) v ds:=
 λ_ _ _ h=>Row.set h q.cell n0 _
theorem Mem.putPoly(M:Mem w V bs){k:List Rat}(h:bs[i]?=some (some (B,.poly k))){ps:List Rat}(e:Jg V (H #[x]) ps):
 Mem w (V.setCell ⟨B,0,Option.none⟩ x) (bs.set i (some (B,.poly ps))):=by
 obtain⟨a,l,c,b,_⟩:=M.poly h;obtain⟨_,j⟩:=M.1 i B _ h;have d:∀v qs,RowK true V v qs->RowK true (V.setCell ⟨B,0,Option.none⟩ x) v qs:=L5 (cs:=#[C a l c]) b (o:=0) rfl rfl true DQ x;exact M.repl h (.poly ps) (cs:=#[x]) (b.set x) e (QQ b rfl x) (λB' t cs f g=>g.far (p:=⟨B,0,Option.none⟩) f _) (M.2.2.setCell (p:=⟨B,0,Option.none⟩) j _) (Or.inr d) (Or.inr d)
theorem Mem.adopt(M:Mem w V bs)(l:Bl V V'){g:Nat}(n:V.heap.size<=g)(m:Dy true V' g qs):Mem w V' (bs++[some (g,.rats qs)]):=by
 have e:=M.below l;have f:∀(j:Nat) B d,bs[j]?=some (some (B,d))->B<V.heap.size:=λj B d h=>by
  obtain⟨⟨_,a,_⟩,_⟩:=M.1 j B d h;exact a.lt
 have c:∀(j:Nat) x,(bs++[some (g,Dat.rats qs)])[j]?=some (some x)->bs[j]?=some (some x)\/(j=bs.length/\x=(g,.rats qs)):=λj x h=>by
  by_cases o:j<bs.length
  . rw[AJ o]at h;exact Or.inl h
  . rw[AB Y]at h;obtain⟨k,p⟩:=ex (j-bs.length);rw[p]at h;cases k with
    |zero=>simp at h;exact Or.inr ⟨Y,h.symm⟩
    |succ k=>simp at h
 refine⟨λj B d h=>?_,λj k B d1 i a b=>?_,e.2.2⟩
 . rcases c j _ h with h|⟨_,h⟩
   . exact e.1 j B d h
   . cases h;obtain⟨cs,c1,c2⟩:=m;exact⟨⟨cs,c1,cs,rfl,c2⟩,Aq M.2.2.size n⟩
 . rcases c j _ a with a|⟨q,a⟩<;>rcases c k _ b with b|⟨r,b⟩
   . exact M.2.1 j k B d1 i a b
   . cases b;have:=f j _ _ a;omega
   . cases a;have:=f k _ _ b;omega
   . omega
end M3
def EI(W:E)(b:Nat)(xs:List Nat):Prop:=∃a:List D,W.heap[b]?=some (G (cellsOf .i64 xs++a).toArray 3 (0,0))
variable{a:Act}{K:Act->E->Prop}{f:Array Oper}{Q:Exit->Act->E->Prop}{bs d xs:List Nat}{b c i k:Nat}{o:Oper}{P:Program}{W W' w:E}
theorem EI.lt(h:EI W b xs):b<W.heap.size:=by obtain⟨_,h⟩:=h;exact(Ab.1 h).1
theorem EI.cell{W:E}{b:Nat}{xs:List Nat}(h:EI W b xs){j:Nat}(a:j<xs.length):W.cell? ⟨b,j,none⟩=some (.int .i64 (xs[j]?.getD 0:Nat)):=by
 obtain⟨c,h⟩:=h;have e:(cellsOf .i64 xs++c)[j]?=some (.int .i64 (xs[j]?.getD 0:Nat)):=by
  rw[AJ (by rw[Ym];exact a)];simp[cellsOf,List.getElem?_eq_getElem a]
 simp[World.cell?,h,e]
theorem EI.frozen{W:E}{b:Nat}{xs:List Nat}(h:EI W b xs)(j:Nat):W.frozen? ⟨b,j,none⟩=false:=by obtain⟨_,h⟩:=h;simp[World.frozen?,h]
theorem EI.of_block(h:EI W b xs)(e:W'.heap[b]?=W.heap[b]?):EI W' b xs:=by obtain⟨a,h⟩:=h;exact⟨a,e.trans h⟩
theorem EI.below(h:EI W b xs)(a:Bl W W'):EI W' b xs:=h.of_block (a.block b h.lt)
theorem EI.set{W:E}{b:Nat}{xs:List Nat}(h:EI W b xs)(j v:Nat):EI (W.setCell ⟨b,j,none⟩ (.int .i64 (v:Nat))) b (xs.set j v):=by
 obtain⟨d,h⟩:=h;obtain⟨g,f⟩:=Ab.1 h;have e:∃c,(cellsOf .i64 xs++d).set j (.int .i64 (v:Nat))=cellsOf .i64 (xs.set j v)++c:=by
  rcases AO j xs.length with a|a
  . exact⟨d,by rw[FL _ _ (by rw[Ym];exact a)];simp[cellsOf,List.map_set]⟩
  . exact⟨_,by rw[Cz _ _ (by rw[Ym];exact a),CY a]⟩
 obtain⟨c,e⟩:=e;refine⟨c,?_⟩;show(W.heap.modify b _)[b]?=_;rw[Ca (by rw[CI];exact g),Cj,f,<-e];simp
theorem EI.made(h:W.heap[b]?=some (G (cellsOf .i64 xs).toArray 3 (0,0))):EI W b xs:=⟨[],by rw[Cl];exact h⟩
theorem EI.row(h:EI W b xs)(off len cap:Nat)(d:off+len<=xs.length)(f:len<=cap)(c:cap<=9223372036854775807)(g:len<=1099511627776):Row .i64 W (C (some ⟨b,off,none⟩) len cap) ((xs.drop off).take len):=by
 have e:((xs.drop off).take len).length=len:=by rw[Al,AV];omega
 refine⟨_,cap,by rw[e],Y,c,Y,Or.inr ⟨b,off,rfl,(by obtain⟨i,h⟩:=h;exact⟨_,_,h⟩),λj a=>?_⟩⟩;rw[e]at a;rw[h.cell Y,AH a,CM]
theorem ZS(n:Nat):madeCells #[.int .i64 0] n=(cellsOf .i64 (List.replicate n 0)).toArray:=by
 apply Array.ext
 . simp[madeCells,cellsOf]
 . intro i a b;simp[madeCells,cellsOf,Nat.mod_one]
theorem QR(n:Nat)(h:n<=2199023255552)(w:E):(Instr.makeSlice 81 (.int .i64 (n:Int)) (.int .i64 (n:Int))).run I w=.ok (C (some ⟨w.heap.size,0,none⟩) n n) (w.alloc (G (cellsOf .i64 (List.replicate n 0)).toArray 3)):=by
 rw[<-ZS];exact run_make_row' 81 3 (.int .i64 0) 8 Tryz.underlying81 Tryz.infoInt rfl .i64 .i64 n Y Y w
theorem OC(B:Nat):∀(D:List Nat) (j d:Nat),j<D.length->val B (D.set j d)+B^j*D[j]?.getD 0=val B D+B^j*d
 |[],_,_,h=>by cases h
 |x::D,0,d,_=>by simp[val];omega
 |x::D,j+1,d,h=>by
  have a:=OC B D j d (by simpa using h);simp only[List.set_cons_succ,val,Ae,AQ];have e:B*val B (D.set j d)+B*(B^j*D[j]?.getD 0)=B*val B D+B*(B^j*d):=by rw[<-Ax,a,Ax]
  have b:B^j*B*D[j]?.getD 0=B*(B^j*D[j]?.getD 0):=by rw[As (B^j) B,Az]
  have c:B^j*B*d=B*(B^j*d):=by rw[As (B^j) B,Az]
  omega
theorem QS(B n:Nat):val B (List.replicate n 0)=0:=by
 induction n with
 |zero=>rfl
 |succ n a=>rw[C7,val,a];simp
theorem DS.set{B:Nat}{D:List Nat}(h:DS B D)(j:Nat){d:Nat}(b:d<B):DS B (D.set j d):=λx c=>by
 rcases List.mem_or_eq_of_mem_set c with a|a
 . exact h x a
 . rw[a];exact b
def Gz(a bs:List Nat)(i:Nat)(D:List Nat):Prop:=
 D.length=a.length+bs.length+1/\DS 10000 D/\val 10000 D=val 10000 (a.take i)*val 10000 bs
def Gm(a bs:List Nat)(i k c:Nat)(D:List Nat):Prop:=
 D.length=a.length+bs.length+1/\DS 10000 D/\c<10000/\
  val 10000 D+10000^(i+k)*c=val 10000 (a.take i)*val 10000 bs+10000^i*(a[i]?.getD 0*val 10000 (bs.take k))
theorem Gz.start(a bs:List Nat):Gz a bs 0 (List.replicate (a.length+bs.length+1) 0):=
 ⟨Au,λx b=>by rw[CG b];omega,by rw[QS];simp[val]⟩
theorem Gz.inner{D:List Nat}(h:Gz d bs i D):Gm d bs i 0 0 D:=by
 obtain⟨a,b,c⟩:=h;refine⟨a,b,Y,?_⟩;rw[c];simp[val]
theorem Gm.total{D:List Nat}(h:Gm d bs i k c D)(b:bs.length<=k):val 10000 D+10000^(i+k)*c=val 10000 (d.take (i+1))*val 10000 bs:=by
 obtain⟨_,_,_,a⟩:=h;rw[a,Ad b,Jq,Ay,Az]
theorem Gm.done{D:List Nat}(h:Gm d bs i k 0 D)(a:bs.length<=k):Gz d bs (i+1) D:=by
 have:=h.total a;exact⟨h.1,h.2.1,Y⟩
theorem Gm.over{D:List Nat}(h:Gm d bs i k c D)(g:DS 10000 d)(j:DS 10000 bs)(n:i<d.length)(o:bs.length<k):c=0:=by
 have l:=h.total Y;have b:=Yh (g.take (i+1));have e:=Yh j;rw[Al,CE Y]at b;have f:val 10000 (d.take (i+1))*val 10000 bs<10000^(i+1)*10000^bs.length:=Nat.mul_lt_mul'' b e;rw[<-CH]at f;have m:10000^(i+1+bs.length)<=10000^(i+k):=Aw Y Y;rcases AY c with a|a
 . exact a
 . have:=Av (10000^(i+k)) a;omega
theorem Gm.step{D:List Nat}(h:Gm d bs i k c D)(l:DS 10000 d)(m:DS 10000 bs)(n:i+k<D.length)(c1:Nat)(b:c1=c+D[i+k]?.getD 0+d[i]?.getD 0*bs[k]?.getD 0):
 Gm d bs i (k+1) (c1/10000) (D.set (i+k) (c1%10000)):=by
 obtain⟨g,a,o,p⟩:=h;have x1:=l.getD Y i;have q:=m.getD Y k;have r:=a.getD Y (i+k);have s:d[i]?.getD 0*bs[k]?.getD 0<=9999*9999:=CC Y Y;refine⟨by rw[Cr];exact g,a.set _ (A7 _ Y),Y,?_⟩;have j:=OC 10000 D (i+k) (c1%10000) n;rw[Jq,Ax,Ax];have e:10000^(i+(k+1))*(c1/10000)+10000^(i+k)*(c1%10000)=10000^(i+k)*c1:=by
  rw[<-CO,AQ,Az,<-Ax,Cc]
 have f:10000^i*(d[i]?.getD 0*(10000^k*bs[k]?.getD 0))=10000^(i+k)*(d[i]?.getD 0*bs[k]?.getD 0):=by
  rw[CH,Az];congr 1;rw[Nat.mul_left_comm]
 rw[b,Ax,Ax]at e;rw[f];rw[b]at j ⊢;omega
theorem Gz.fin{D:List Nat}{m n:Nat}(h:Gz d bs d.length D)(c:d=Jc 10000 m)(e:bs=Jc 10000 n):Jy D=Jc 10000 (m*n):=by
 obtain⟨_,b,a⟩:=h;rw[Ad (Aa _)]at a;rw[<-J9 Y b,a,c,e,Jo Y,Jo Y]
theorem Jn.keptG{B:Nat}{t:TypeId}{x y:D}{g:Nat}(h:Jn W B t x y)(a:W.grownBy W' (some g))(b:B≠g):Jn W' B t x y:=
 (a.block B h.lt λe=>b (by cases e;rfl)).trans h
theorem ZT{x y:Nat}(a:x<10000)(b:y<10000):x*y<=99980001/\IntKind.i64.wrap ((x:Int)*(y:Int))=((x*y:Nat):Int):=by
 have h:x*y<=9999*9999:=CC Y Y;refine⟨Y,?_⟩;have e:(x:Int)*(y:Int)=((x*y:Nat):Int):=by rw[Fa]
 rw[e];generalize x*y=p at *;simp[IntKind.wrap,IntKind.signed,IntKind.bits];omega
theorem ZU(a b:Option Addr)(la lb ca cb m n:Nat)(s t:Bool)(w:E)(ra:RN w (C a la ca) m)(rb:RN w (C b lb cb) n)(bj:la<=1000000000)(bk:lb<=1000000000):
 Calls I 82 #[H #[C a la ca,F s],H #[C b lb cb,F t]] w λe P=>∃c lc cc,e=.returned (H #[C c lc cc,F ((s != t)&&decide (0<lc))])/\RN P (C c lc cc) (m*n)/\Bl w P:=by
 obtain⟨W0,z⟩:=ex (((w.alloc (G #[C a la ca,F s] 83)).alloc (G #[C b lb cb,F t] 83)).alloc (G #[C none 0 0,F false] 83));have Qk:Bl w W0:=by rw[<-z];exact Xq w _ _ _
 have b0:Jn W0 w.heap.size 83 (C a la ca) (F s):=by rw[<-z];exact((Jn.new w _ _ _).alloc _).alloc _
 have b1:Jn W0 (w.heap.size+1) 83 (C b lb cb) (F t):=by
  have h:=(Jn.new (w.alloc (G #[C a la ca,F s] 83)) 83 (C b lb cb) (F t)).alloc (G #[C none 0 0,F false] 83);rw[A1,z]at h;exact h
 have bR:Jn W0 (w.heap.size+1+1) 83 (C none 0 0) (F false):=by
  have h:=Jn.new ((w.alloc (G #[C a la ca,F s] 83)).alloc (G #[C b lb cb,F t] 83)) 83 (C none 0 0) (F false);rw[A1,A1,z]at h;exact h
 have Ql:W0.heap.size=w.heap.size+3:=by rw[<-z];simp
 obtain⟨ad,az,bm,bg,ak⟩:=Ju ra;obtain⟨ae,bc,bn,bh,am⟩:=Ju rb;have HF:=J λD (h:Gz (Jc 10000 m) (Jc 10000 n) (Jc 10000 m).length D)=>h.fin (m:=m) (n:=n) rfl rfl;have T:=Jp (B:=10000) Y m;have U:=Jp (B:=10000) Y n;have Q:=QR (la+lb+1) Y W0;rw[show((la+lb+1:Nat):Int)=(la:Int)+(lb:Int)+1 from by omega]at Q;obtain⟨l,q⟩:=ex (W0.alloc (G (cellsOf .i64 (List.replicate (la+lb+1) 0)).toArray 3));rw[q]at Q;obtain⟨g,hg⟩:∃g,g=W0.heap.size:=⟨_,rfl⟩;rw[<-hg]at Q Ql;have Qh:EI l g (List.replicate (la+lb+1) 0):=by rw[<-q,hg];exact EI.made (BE W0 _)
 have K:Bl w l:=by rw[<-q];exact Qk.alloc Qk.size _
 have q0:Jn l w.heap.size 83 (C a la ca) (F s):=by rw[<-q];exact b0.alloc _
 have q1:Jn l (w.heap.size+1) 83 (C b lb cb) (F t):=by rw[<-q];exact b1.alloc _
 have qR:Jn l (w.heap.size+1+1) 83 (C none 0 0) (F false):=by rw[<-q];exact bR.alloc _
 have k0:=b0.c0;have k1:=b1.c0;have V:=J (Gz.start (Jc 10000 m) (Jc 10000 n));generalize Jc 10000 m=S at *;generalize Jc 10000 n=N at *;obtain⟨H1,H2,R,L⟩:=EB ak am ad ae;rw[<-ad,<-ae]at V;have bf:w.heap.size+2<g:=Y
 clear Ql;clear ak am ad ae ra rb q hg b0 b1 bR;go_enter Tryz.func82,Tryz.ntmps82
 go_wp2;clear z Q k0 k1;go_loopw [6] (λiv wr=>∃(i:Nat) (D:List Nat),iv=.int .i64 i/\i<=la/\Hid (Gz S N i D)/\EI wr g D/\l.grownBy wr (some g))
  (λiv _=>la-(intOf iv).toNat)
 case atStart=>exact⟨0,_,rfl,AK _,V.o,Qh,YH _ _⟩
 case round=>
  clear V Qh;obtain⟨i,D,rfl,hi,A,j,f⟩:=hrel;have m0:=(q0.keptG f Y).c0;have m1:=(q0.keptG f Y).c1;have m2:=(q1.keptG f Y).c0;have m3:=(q1.keptG f Y).c1;by_cases an:i<la
  . have HI:=J A.o.inner;clear A;obtain⟨ab,ao,rfl,aq,ai⟩:=H1.o i an;go_wp2;go_loopw [7,8] (λcv kv wr=>∃(c k:Nat) (D:List Nat),cv=.int .i64 c/\kv=.int .i64 k/\k<=lb+1/\c<10000/\Hid (Gm S N i k c D)/\EI wr g D/\l.grownBy wr (some g))
     (λ_ kv _=>lb+2-(intOf kv).toNat)
    case atStart=>exact⟨0,0,D,rfl,rfl,Y,Y,HI,j,f⟩
    case round=>
     clear HI j f m0 m1 m2 m3;obtain⟨c,k,D,rfl,rfl,hk,hc,o,j,f⟩:=hrel;have m0:=(q0.keptG f Y).c0;have m2:=(q1.keptG f Y).c0;have X:=o.o.1;rw[<-R.o,<-L.o]at X;by_cases ay:k<lb
     . obtain⟨bb,bo,rfl,aw,aj⟩:=H2.o k ay;have bt:wr.cell? ⟨ab,ao+i,none⟩=some (.int .i64 (S[i]?.getD 0:Nat)):=(BO (w:=l) (f.block ab (by have:=K.size;omega) λe=>by cases e;omega)).trans ((K.cell (p:=⟨ab,ao+i,none⟩) aq).trans ai);have bu:wr.cell? ⟨bb,bo+k,none⟩=some (.int .i64 (N[k]?.getD 0:Nat)):=(BO (w:=l) (f.block bb (by have:=K.size;omega) λe=>by cases e;omega)).trans ((K.cell (p:=⟨bb,bo+k,none⟩) aw).trans aj);have Qm:wr.cell? ⟨g,i+k,none⟩=some (.int .i64 (D[i+k]?.getD 0:Nat)):=j.cell Y;have Qn:=j.frozen (i+k);have y1:=T.getD Y i;have y2:=U.getD Y k;have y3:=o.o.2.1.getD Y (i+k);have r:=J (o.o.step T U Y _ rfl);obtain⟨z1,z2⟩:=ZT y1 y2;generalize S[i]?.getD 0=x at *;generalize N[k]?.getD 0=y at *;generalize D[i+k]?.getD 0=d at *;generalize x*y=p at *;clear ai aj;go_upto_region 11 with fail
       go_quiet (fail)
       go_wp2;have e2:((c:Int)+(d:Int)+(p:Int))%10000=(((c+d+p)%10000:Nat):Int):=Y
       rw[e2];exact⟨⟨(c+d+p)/10000,k+1,D.set (i+k) ((c+d+p)%10000),by go_num,O,Y,r.o.2.2.1,r,EI.set (W:=wr.drewN nq) j _ _,Jh (B:=wr.drewN nq) ⟨f.os,f.tape,f.output,f.size,f.block⟩ (JD _ _ _ _)⟩,by simp[intOf];omega⟩
     . rcases AY c with ah|ah
       . subst ah;have HN:=J (o.o.done (by rw[<-L.o];omega));clear o;go_wp2;exact⟨⟨i+1,D,O,Y,HN,j,f⟩,by simp[intOf];omega⟩
       . have bi:k<=lb:=by
          rcases AO lb k with h|h
          . have:=o.o.over T U (by rw[<-R.o];exact an) (by rw[<-L.o];exact h);omega
          . exact h
         have Qm:wr.cell? ⟨g,i+k,none⟩=some (.int .i64 (D[i+k]?.getD 0:Nat)):=j.cell Y;have Qn:=j.frozen (i+k);have y3:=o.o.2.1.getD Y (i+k);have Qi:N[k]?.getD 0=0:=by rw[At (by rw[<-L.o];omega)];rfl
         have r:=J (o.o.step T U Y _ rfl);rw[Qi,Cv,Ci]at r;clear Qi;generalize D[i+k]?.getD 0=d at *;go_wp2;have e2:((c:Int)+(d:Int))%10000=(((c+d)%10000:Nat):Int):=Y
         rw[e2];exact⟨⟨(c+d)/10000,k+1,D.set (i+k) ((c+d)%10000),by go_num,O,Y,r.o.2.2.1,r,EI.set j _ _,Jh f (JD _ _ _ _)⟩,by simp[intOf];omega⟩
  . obtain rfl:i=la:=Y
    have Qg:Row .i64 wr (C (some ⟨g,0,none⟩) (i+lb+1) (i+lb+1)) D:=by
     have X:=A.o.1;rw[<-R.o,<-L.o]at X;have h1:=j.row 0 (i+lb+1) (i+lb+1) Y (Aa _) Y Y;rwa[AE,Ad Y]at h1
    have Qo:=J (HF.o D (by rw[<-R.o];exact A.o));have Qj:Bl w wr:=below_grown K f Y;have rR:=qR.keptG f Y;have p0:=q0.keptG f Y;have p1:=q1.keptG f Y;clear A HF H1 H2;go_upto_region 14 with fail
    have hq:Bl wr wr.drew:=(BB _ wr).drew;have ce:¬(w.heap.size=w.heap.size+1+1):=Y
    go_region_held3 (λP=>P.cell? ⟨w.heap.size,1,none⟩=some (F s)/\P.cell? ⟨w.heap.size+1,1,none⟩=some (F t)) (refine⟨?_,?_⟩<;>(first|(go_keep;done)|((repeat rw[JH Y]);simp[*];done)))
     (first
      |(go_at_call 116;refine(NN _ D _ (Row.below Qg hq)).mono ?_;rintro e w1 ⟨u,rfl,M,rfl⟩;rw[Qo.o]at M;obtain⟨a',c',rfl⟩:=RN.form M)
      |(go_at_call 112;refine(Ia _ _ _ _ _).mono ?_;rintro e w2 ⟨rfl,af⟩;have M:=Row.below M af;have hq:=Bt hq af;have m1:=(p0.below hq).c1;have m3:=(p1.below hq).c1;obtain⟨r0,r1⟩:=(rR.below hq).cp;obtain⟨f0,f1⟩:=(rR.below hq).fp))
    all_goals go_wp2_with fail
    obtain⟨hr,ap⟩:=YQ (C a' (Jc 10000 (m*n)).length c') (F (!(s==t)&&decide (0<(Jc 10000 (m*n)).length))) (Bt Qj hq) Y (rR.below hq) rfl rfl M;exact BA (v:=H #[C a' (Jc 10000 (m*n)).length c',F (!(s==t)&&decide (0<(Jc 10000 (m*n)).length))]) (by simp[results,Tryz.results82,go_sem,r0,r1]) rfl ⟨_,_,_,rfl,hr,ap⟩
theorem XZ(n o:D)(x y:Int)(w:E)(v:Js w n x)(z:Js w o y)(A:EU x<=1000000000)(B:EU y<=1000000000):
 Calls I 82 #[n,o] w λe j=>∃u,e=.returned u/\Js j u (x*y)/\Bl w j:=by
 obtain⟨a,la,ca,rfl,l⟩:=v;obtain⟨b,lb,cb,rfl,m⟩:=z;have K:=(Ju l).1;have L:=(Ju m).1;unfold EU at A B;refine(ZU a b la lb ca cb _ _ _ _ w l m Y Y).mono ?_;rintro e j ⟨c,i,p,rfl,k,t⟩;refine⟨_,rfl,⟨c,i,p,?_,?_⟩,t⟩
 . have hl:=(Ju k).1;have q:((decide (x<0) != decide (y<0))&&decide (0<i))=decide (x*y<0):=by
    rw[Cq];simp only[AM,BR];have r:0<i↔x.natAbs*y.natAbs≠0:=by
     rw[hl,Ar,Ne,JC Y]
    rw[r];rcases FH x 0 with d|d|d<;>rcases FH y 0 with f|f|f
    . have:=Int.mul_pos_of_neg_of_neg d f;simp[d,f];omega
    . subst f;simp
    . have:=Int.mul_neg_of_neg_of_pos d f;have g:¬y<0:=Y
      simp only[d,g,DI,DA,this,iff_true];exact⟨rfl,FP Y Y⟩
    . subst d;simp
    . subst d;simp
    . subst d;simp
    . have:=Int.mul_neg_of_pos_of_neg d f;have g:¬x<0:=Y
      simp only[f,g,DI,DA,this,iff_true];exact⟨rfl,FP Y Y⟩
    . subst f;simp
    . have:=Int.mul_pos d f;have g:¬x<0:=Y
      have s:¬y<0:=Y
      simp[g,s];omega
   rw[q]
 . rw[CX];exact k
theorem L6{n:Int}(a:-9223372036854775808<=n)(b:n<=9223372036854775807):EU n<=1000000000:=by
 have c:=JK (B:=10000) Y (n:=n.natAbs) (k:=5) Y;unfold EU;omega
theorem Yb(c:f[i]?=some o)(d:Region.wanted o (yielded f a.tmps)=true)
(h:∀b:Act->E->Prop,(∀a w,K a w->b a w)->o.wp P a w b Q):wpOp P f Q i K a w:=by
 unfold wpOp;rw[c];simp only[d,if_true];exact Or.inl (h K λ_ _ h=>h)
theorem Et{p q:Prop}(k:q)(h:Hid q->p:=by intro x;refine Yb rfl rfl λK a=>?_;go_simp;refine a _ _ ?_;(repeat apply Exists.intro);refine ⟨rfl,?_⟩;exact x.o):p:=h k
theorem Yl(b:f[i]?=some o)(c:Region.wanted o (yielded f a.tmps)=false)
(h:K (a.put o.dst undef) w):wpOp P f Q i K a w:=by
 unfold wpOp;rw[b];simp only[c];exact h

