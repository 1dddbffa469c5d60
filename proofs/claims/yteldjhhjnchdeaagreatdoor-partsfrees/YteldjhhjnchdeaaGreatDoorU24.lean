import Derived.Test.YteldjhhjnchdeaaGreatDoorU20
import Derived.Test.YteldjhhjnchdeaaGreatDoorU15
import Derived.Test.YteldjhhjnchdeaaGreatDoorU16
import Derived.Test.YteldjhhjnchdeaaGreatDoorU06
import Derived.Lib.SliceRun
import Derived.Deep.OwnRows
import Derived.Test.YteldjhhjnchdeaaGreatDoorU23
open Go.Value renaming slice->C,bool->G,agg->I
open Go renaming World->E,Value->F
open Go.Obj renaming cells->H
open Go.Proofs.Tryz renaming prog->K
set_option maxRecDepth 100000
set_option maxHeartbeats 16000000
namespace Go.Proofs.YteldjhhjnchdeaaGreatDoor
open Go.RowKit Go.Shelf
section
variable{z:Int}{v:F}{W:E}
theorem ZT(a:Option Addr)(cap:Nat)(w:E):
 Calls K 107 #[I #[G false,C a 0 cap]] w λe b=>e=.returned (.string ⟨#[48]⟩)/\Bl w b:=by
 have b0:=Jm.new w 63 (G false) (C a 0 cap);have c:=b0.c1;go_enter Tryz.func107,Tryz.ntmps107
 go_wp2;go_ret;exact⟨rfl,Ba w _⟩
theorem ZU(s:Bool)(a:Option Addr)(l cap:Nat)(T:ByteArray)(w:E)(hl:0<l)(i:T.size<=100000000000000)
(c:∀V,Bl w V->Calls K 134 #[C a l cap] V λe b=>e=.returned (.string T)/\Bl V b):
 Calls K 107 #[I #[G s,C a l cap]] w λe b=>e=.returned (.string (if s then(⟨#[45]⟩:ByteArray)++T else T))/\Bl w b:=by
 have b0:=Jm.new w 63 (G s) (C a l cap);have d:Bl w (w.alloc (H #[G s,C a l cap] 63)):=Ba w _;obtain⟨j,k⟩:=b0.cp;have f:=O c;clear c;cases s;all_goals
  go_enter Tryz.func107,Tryz.ntmps107
  go_wp2_with(go_at_call 134;refine(f.o _ d).mono ?_;rintro e m ⟨rfl,g⟩)
  go_ret;exact⟨Y,Bt d g⟩
theorem Iv(n:Nat):(Xu n).length<=20*(Jc Z n).length+1:=by
 unfold Xu;split
 . simp
 . rw[O7];have a:n<Z^(Jc Z n).length:=by
    have:=Yl (Jq Je n);rwa[Jp Je]at this
   have b:Z^(Jc Z n).length<=10^(20*(Jc Z n).length):=by
    rw[FJ];exact CS uo _
   have:=JK (B:=10) J (AB a b);omega
theorem N0(v:F)(z:Int)(w:E)(h:Jk w v z)(m:Lib.TabIs K w "internal/strconv.uint64pow10" .u64 Lib.pow10Tab):
 Calls K 107 #[v] w λe g=>e=.returned (.string ⟨(Y0 z).toArray⟩)/\Bl w g:=by
 obtain⟨a,l,cap,rfl,c⟩:=h;have hl:=c.len;by_cases d:z.natAbs=0
 . have b:z=0:=J
   subst b;have j:l=0:=by rw[hl];simp[Jz]
   subst j;exact ZT a cap w
 . have i:0<l:=by rw[hl];exact NQ.2 d
   refine(ZU _ a l cap ⟨(Xu z.natAbs).toArray⟩ w i (by
    have n:=Iv z.natAbs;have o:=(Jw c).2.2.2.1;show(Xu z.natAbs).toArray.size<=_;rw[Ao];omega) λV f=>Wy a l cap z.natAbs V (Row.below c f) d (Yv m f)).mono ?_
   rintro e g ⟨rfl,k⟩;refine⟨?_,k⟩;congr 2;unfold Y0;by_cases b:z<0
   . simp only[b,DI,if_true];exact Lb _ _
   . simp only[b,DA,if_false,Ck]
attribute [local go_sem] Oper.semAt_some
theorem Jk.form(h:Jk W v z):∃a l cap,v=I #[G (decide (z<0)),C a l cap]:=by
 obtain⟨a,l,cap,e,_⟩:=h;exact⟨a,l,cap,e⟩
theorem Jk.alloc{W:E}{v:F}{z:Int}(h:Jk W v z)(o:Obj):Jk (W.alloc o) v z:=h.below (Ba W o)
theorem Jk.box{R:Nat}{t:TypeId}{u0 u1 x0 x1:F}(h:Jk W v z)(q:Jm W R t u0 u1)(c:JB u0=true)(d:JB u1=true):Jk ((W.setCell ⟨R,0,none⟩ x0).setCell ⟨R,1,none⟩ x1) v z:=by
 obtain⟨a,l,cap,e,b⟩:=h;exact⟨a,l,cap,e,Row.set (Row.set b q.c0 c _) (u0:=u1) (q.set0 x0).c1 d _⟩
end
section
def JM(W:E)(B:Nat)(t:TypeId)(x y z u:F):Prop:=W.heap[B]?=some (H #[x,y,z,u] t (0,0))
section
variable {W W':World} {B:Nat} {t:TypeId} {x y z u:Value}
theorem JM.lt(h:JM W B t x y z u):B<W.heap.size:=(Ab.1 h).1
theorem JM.c0(h:JM W B t x y z u):W.cell? ⟨B,0,none⟩=some x:=by simp[World.cell?,show W.heap[B]?=_ from h]
theorem JM.c1(h:JM W B t x y z u):W.cell? ⟨B,1,none⟩=some y:=by simp[World.cell?,show W.heap[B]?=_ from h]
theorem JM.cp(h:JM W B t x y z u):type_of% (And.intro h.c0 h.c1):=⟨h.c0,h.c1⟩
theorem JM.c2(h:JM W B t x y z u):W.cell? ⟨B,2,none⟩=some z:=by simp[World.cell?,show W.heap[B]?=_ from h]
theorem JM.c3(h:JM W B t x y z u):W.cell? ⟨B,3,none⟩=some u:=by simp[World.cell?,show W.heap[B]?=_ from h]
theorem JM.cq(h:JM W B t x y z u):type_of% (And.intro h.c0 (And.intro h.c1 (And.intro h.c2 h.c3))):=⟨h.c0,h.c1,h.c2,h.c3⟩
theorem JM.f0(h:JM W B t x y z u):W.frozen? ⟨B,0,none⟩=false:=by simp[World.frozen?,show W.heap[B]?=_ from h]
theorem JM.f1(h:JM W B t x y z u):W.frozen? ⟨B,1,none⟩=false:=by simp[World.frozen?,show W.heap[B]?=_ from h]
theorem JM.fp(h:JM W B t x y z u):type_of% (And.intro h.f0 h.f1):=⟨h.f0,h.f1⟩
theorem JM.f2(h:JM W B t x y z u):W.frozen? ⟨B,2,none⟩=false:=by simp[World.frozen?,show W.heap[B]?=_ from h]
theorem JM.f3(h:JM W B t x y z u):W.frozen? ⟨B,3,none⟩=false:=by simp[World.frozen?,show W.heap[B]?=_ from h]
theorem JM.fq(h:JM W B t x y z u):type_of% (And.intro h.f0 (And.intro h.f1 (And.intro h.f2 h.f3))):=⟨h.f0,h.f1,h.f2,h.f3⟩
theorem JM.new(W:E)(t:TypeId)(x y z u:F):JM (W.alloc (H #[x,y,z,u] t)) W.heap.size t x y z u:=BD W _
theorem JM.below(h:JM W B t x y z u)(a:Bl W W'):JM W' B t x y z u:=(a.block B h.lt).trans h
theorem JM.alloc(h:JM W B t x y z u)(o:Obj):JM (W.alloc o) B t x y z u:=h.below (Ba W o)
theorem JM.set0(h:JM W B t x y z u)(v:F):JM (W.setCell ⟨B,0,none⟩ v) B t v y z u:=by
 obtain⟨b,a⟩:=Ab.1 h;show(W.heap.modify B _)[B]?=_;rw[A9 (by rw[CJ];exact b),Ci,a];rfl
theorem JM.set1(h:JM W B t x y z u)(v:F):JM (W.setCell ⟨B,1,none⟩ v) B t x v z u:=by
 obtain⟨b,a⟩:=Ab.1 h;show(W.heap.modify B _)[B]?=_;rw[A9 (by rw[CJ];exact b),Ci,a];rfl
theorem JM.set2(h:JM W B t x y z u)(v:F):JM (W.setCell ⟨B,2,none⟩ v) B t x y v u:=by
 obtain⟨b,a⟩:=Ab.1 h;show(W.heap.modify B _)[B]?=_;rw[A9 (by rw[CJ];exact b),Ci,a];rfl
theorem JM.set3(h:JM W B t x y z u)(v:F):JM (W.setCell ⟨B,3,none⟩ v) B t x y z v:=by
 obtain⟨b,a⟩:=Ab.1 h;show(W.heap.modify B _)[B]?=_;rw[A9 (by rw[CJ];exact b),Ci,a];rfl
theorem JM.far(h:JM W B t x y z u){p:Addr}(hp:B≠p.block)(v:F):JM (W.setCell p v) B t x y z u:=(BC W p v B hp).trans h
end
def put4(W:E)(B:Nat)(x y z u:F):E:=(((W.setCell ⟨B,0,none⟩ x).setCell ⟨B,1,none⟩ y).setCell ⟨B,2,none⟩ z).setCell ⟨B,3,none⟩ u
variable{B:Nat}{t:TypeId}{u x y z:F}{W:E}
theorem JM.put(h:JM W B t x y z u)(b c d a:F):JM (put4 W B b c d a) B t b c d a:=(((h.set0 b).set1 c).set2 d).set3 a
theorem JM.putFar{C:Nat}(h:JM W B t x y z u)(a:B≠C)(c d e b:F):JM (put4 W C c d e b) B t x y z u:=(((h.far a c).far a d).far a e).far a b
theorem Ju{n:Nat}{w:E}(h:Below n w W)(a:n<=B)(x y z u:F):Below n w (put4 W B x y z u):=(((h.setCell (p:=⟨B,0,none⟩) a _).setCell (p:=⟨B,1,none⟩) a _).setCell (p:=⟨B,2,none⟩) a _).setCell (p:=⟨B,3,none⟩) a _
theorem Row.put4{k:IntKind}{v:F}{ds:List Nat}(h:Row k W v ds)(q:JM W B t x y z u)(d:JB x=true)(e:JB y=true)(f:JB z=true)(g:JB u=true)(a b c i:F):Row k (put4 W B a b c i) v ds:=
 Row.set (Row.set (Row.set (Row.set h q.c0 d _) (q.set0 a).c1 e _) ((q.set0 a).set1 b).c2 f _) (((q.set0 a).set1 b).set2 c).c3 g _
theorem Jk.put4{W:E}{v:F}{i:Int}(h:Jk W v i){B:Nat}{t:TypeId}{x y z u:F}(q:JM W B t x y z u)(c:JB x=true)(d:JB y=true)(f:JB z=true)(g:JB u=true)(k m n j:F):Jk (put4 W B k m n j) v i:=by
 obtain⟨a,l,cap,e,b⟩:=h;exact⟨a,l,cap,e,Row.put4 b q c d f g _ _ _ _⟩
theorem Jt.put4{W:E}{v:F}{i:Int}(h:Jt W v i){B:Nat}{t:TypeId}{x y z u:F}(q:JM W B t x y z u)(c:JB x=true)(d:JB y=true)(f:JB z=true)(g:JB u=true)(k m n j:F):Jt (put4 W B k m n j) v i:=by
 obtain⟨a,l,cap,e,b⟩:=h;exact⟨a,l,cap,e,Row.put4 b q c d f g _ _ _ _⟩
def Jj(W:E)(v:F)(q:Rat):Prop:=∃s a l c t b k d,v=I #[G s,C a l c,G t,C b k d]/\Jk W (I #[G s,C a l c]) q.num/\Jk W (I #[G t,C b k d]) (Dz q)
theorem Jj.below{W W':E}{v:F}{q:Rat}(h:Jj W v q)(f:Bl W W'):Jj W' v q:=by
 obtain⟨s,a,l,c,t,b,k,d,e,g,i⟩:=h;exact⟨s,a,l,c,t,b,k,d,e,g.below f,i.below f⟩
theorem Jj.put4{W:E}{v:F}{p:Rat}(h:Jj W v p){B:Nat}{t:TypeId}{x y z u:F}(q:JM W B t x y z u)(f:JB x=true)(g:JB y=true)(i:JB z=true)(j:JB u=true)(r w A o:F):Jj (put4 W B r w A o) v p:=by
 obtain⟨s,a,l,c,t,b,k,d,e,m,n⟩:=h;exact⟨s,a,l,c,t,b,k,d,e,m.put4 q f g i j _ _ _ _,n.put4 q f g i j _ _ _ _⟩
def Js(W:E)(v:F)(q:Rat):Prop:=∃a l c s b k d t,v=I #[C a l c,G s,C b k d,G t]/\Jt W (I #[C a l c,G s]) q.num/\Jt W (I #[C b k d,G t]) (q.den:Int)
theorem Js.below{W W':E}{v:F}{q:Rat}(h:Js W v q)(f:Bl W W'):Js W' v q:=by
 obtain⟨s,a,l,c,t,b,k,d,e,g,i⟩:=h;exact⟨s,a,l,c,t,b,k,d,e,g.below f,i.below f⟩
theorem Js.put4{W:E}{v:F}{p:Rat}(h:Js W v p){B:Nat}{t:TypeId}{x y z u:F}(q:JM W B t x y z u)(f:JB x=true)(g:JB y=true)(i:JB z=true)(j:JB u=true)(r w A o:F):Js (put4 W B r w A o) v p:=by
 obtain⟨s,a,l,c,t,b,k,d,e,m,n⟩:=h;exact⟨s,a,l,c,t,b,k,d,e,m.put4 q f g i j _ _ _ _,n.put4 q f g i j _ _ _ _⟩
end
section
def KC(W:E)(v:F)(x y:Int):Prop:=∃s a l c t b k d,v=I #[G s,C a l c,G t,C b k d]/\Jk W (I #[G s,C a l c]) x/\Jk W (I #[G t,C b k d]) y
theorem Jj.pair{W:E}{v:F}{q:Rat}(h:Jj W v q):KC W v q.num (Dz q):=h
theorem KC.below{W W':E}{v:F}{x y:Int}(h:KC W v x y)(f:Bl W W'):KC W' v x y:=by
 obtain⟨s,a,l,c,t,b,k,d,e,g,i⟩:=h;exact⟨s,a,l,c,t,b,k,d,e,g.below f,i.below f⟩
structure Dat where
 ty:TypeId
 has:World->Value->Prop
 below:∀ {V V':World} {v:Value},has V v->Bl V V'->has V' v
 keep:∀ {V V':World} {v:Value},has V v->(∀k v ds,Row k V v ds->Row k V' v ds)->has V' v
def Dat.int(z:Int):Dat where
 ty:=63
 has V v:=Jk V v z
 below h hb:=Jk.below h hb
 keep h hk:=by
  obtain⟨a,l,c,e,b⟩:=h;exact⟨a,l,c,e,hk _ _ _ b⟩
def Dat.rat(q:Rat):Dat where
 ty:=65
 has V v:=Jj V v q
 below h hb:=Jj.below h hb
 keep h hk:=by
  obtain⟨s,a,l,c,t,b,k,d,e,⟨f,l1,c1,i,m⟩,⟨g,l2,c2,j,n⟩⟩:=h;exact⟨s,a,l,c,t,b,k,d,e,⟨f,l1,c1,i,hk _ _ _ m⟩,⟨g,l2,c2,j,hk _ _ _ n⟩⟩
def Dat.big(z:Int):Dat where
 ty:=83
 has V v:=Jt V v z
 below h hb:=Jt.below h hb
 keep h hk:=by
  obtain⟨a,l,c,e,b⟩:=h;exact⟨a,l,c,e,hk _ _ _ b⟩
def Dat.ref(q:Rat):Dat where
 ty:=85
 has V v:=Js V v q
 below h hb:=Js.below h hb
 keep h hk:=by
  obtain⟨s,a,l,c,t,b,k,d,e,⟨f,l1,c1,i,m⟩,⟨g,l2,c2,j,n⟩⟩:=h;exact⟨s,a,l,c,t,b,k,d,e,⟨f,l1,c1,i,hk _ _ _ m⟩,⟨g,l2,c2,j,hk _ _ _ n⟩⟩
def Dat.zref:Dat where
 ty:=85
 has _ v:=v=I #[C none 0 0,G false,C none 0 0,G false]
 below h _:=h
 keep h _:=h
def Has(V:E)(v:F)(d:Dat):Prop:=d.has V v
theorem Has.below{V V':E}{v:F}{d:Dat}(h:Has V v d)(a:Bl V V'):Has V' v d:=d.below h a
theorem Has.alloc{V:E}{v:F}{d:Dat}(h:Has V v d)(o:Obj):Has (V.alloc o) v d:=h.below (Ba V o)
theorem Has.keep{V V':E}{v:F}{d:Dat}(h:Has V v d)(a:∀k v ds,Row k V v ds->Row k V' v ds):Has V' v d:=d.keep h a
def Bx(V:E)(B:Nat)(t:TypeId)(cs:Array F):Prop:=V.heap[B]?=some (H cs t (0,0))
variable{cs:Array F}{r:Bool}{d:Dat}{A z:Int}{bs:List (Option (Nat × Dat))}{qs:List Rat}{B b i j n o:Nat}{m:Nat × Nat}{q:Rat}{t:TypeId}{u u0 v x x0 y:F}{V V' W w:E}
theorem Bx.lt(h:Bx V B t cs):B<V.heap.size:=(Ab.1 h).1
theorem Bx.below(h:Bx V B t cs)(a:Bl V V'):Bx V' B t cs:=(a.block B h.lt).trans h
theorem Bx.far(h:Bx V B t cs){p:Addr}(hp:B≠p.block)(u:F):Bx (V.setCell p u) B t cs:=(BC V p u B hp).trans h
def Mem(w V:E)(bs:List (Option (Nat × Dat))):Prop:=
 (∀(i:Nat) B d,bs[i]?=some (some (B,d))->(∃cs,Bx V B d.ty cs/\Has V (I cs) d)/\w.heap.size<=B)/\
 (∀(i j:Nat) B d a,bs[i]?=some (some (B,d))->bs[j]?=some (some (B,a))->i=j)/\Bl w V
theorem Mem.nil(w:E):Mem w w []:=⟨λi B z h=>by simp at h,λi j B z a h=>by simp at h,BB _ w⟩
theorem Mem.int{w V:E}{bs:List (Option (Nat × Dat))}(M:Mem w V bs){i B:Nat}{z:Int}(h:bs[i]?=some (some (B,.int z))):∃s a l c,Jm V B 63 (G s) (C a l c)/\Jk V (I #[G s,C a l c]) z:=by
 obtain⟨⟨cs,b,d⟩,_⟩:=M.1 i B _ h;obtain⟨a,l,c,e,f⟩:=d;cases e;exact⟨_,a,l,c,b,a,l,c,rfl,f⟩
theorem Mem.big{w V:E}{bs:List (Option (Nat × Dat))}(M:Mem w V bs){i B:Nat}{z:Int}(h:bs[i]?=some (some (B,.big z))):∃a l c s,Jm V B 83 (C a l c) (G s)/\Jt V (I #[C a l c,G s]) z:=by
 obtain⟨⟨cs,b,d⟩,_⟩:=M.1 i B _ h;obtain⟨a,l,c,e,f⟩:=d;cases e;exact⟨a,l,c,_,b,a,l,c,rfl,f⟩
theorem Mem.rat{w V:E}{bs:List (Option (Nat × Dat))}(M:Mem w V bs){i B:Nat}{q:Rat}(h:bs[i]?=some (some (B,.rat q))):
 ∃s a l c t b k d,JM V B 65 (G s) (C a l c) (G t) (C b k d)/\Jj V (I #[G s,C a l c,G t,C b k d]) q/\Jk V (I #[G s,C a l c]) q.num/\Jk V (I #[G t,C b k d]) (Dz q):=by
 obtain⟨⟨cs,m,f⟩,_⟩:=M.1 i B _ h;have n:=f;obtain⟨s,a,l,c,t,b,k,d,e,g,j⟩:=f;cases e;exact⟨s,a,l,c,t,b,k,d,m,n,g,j⟩
theorem Mem.ref{w V:E}{bs:List (Option (Nat × Dat))}(M:Mem w V bs){i B:Nat}{q:Rat}(h:bs[i]?=some (some (B,.ref q))):
 ∃a l c s b k d t,JM V B 85 (C a l c) (G s) (C b k d) (G t)/\Js V (I #[C a l c,G s,C b k d,G t]) q/\Jt V (I #[C a l c,G s]) q.num/\Jt V (I #[C b k d,G t]) (q.den:Int):=by
 obtain⟨⟨cs,m,f⟩,_⟩:=M.1 i B _ h;have n:=f;obtain⟨s,a,l,c,t,b,k,d,e,g,j⟩:=f;cases e;exact⟨s,a,l,c,t,b,k,d,m,n,g,j⟩
theorem Mem.below{w V V':E}{bs:List (Option (Nat × Dat))}(M:Mem w V bs)(a:Bl V V'):Mem w V' bs:=
 ⟨λi B z h=>by
  obtain⟨⟨cs,b,c⟩,d⟩:=M.1 i B z h;exact⟨⟨cs,b.below a,c.below a⟩,d⟩,M.2.1,Bt M.2.2 a⟩
theorem Mem.drew{w V:E}{bs:List (Option (Nat × Dat))}(M:Mem w V bs):Mem w V.drew bs:=M.below ((BB _ V).drew)
theorem Mem.sub{cs:List (Option (Nat × Dat))}(M:Mem w V bs)(f:Nat->Nat)(e:∀(i j:Nat),f i=f j->i=j)(h:∀(i:Nat) x,cs[i]?=some (some x)->bs[f i]?=some (some x)):Mem w V cs:=
 ⟨λi B d a=>M.1 (f i) B d (h i _ a),λi j B d b a c=>e i j (M.2.1 (f i) (f j) B d b (h i _ a) (h j _ c)),M.2.2⟩
theorem Mem.take{w V:E}{bs:List (Option (Nat × Dat))}(M:Mem w V bs)(n:Nat):Mem w V (bs.take n):=by
 refine M.sub id (λ_ _ h=>h) λi x h=>?_;rw[Fs]at h;split at h
 . exact h
 . cases h
theorem Mem.none{w V:E}{bs:List (Option (Nat × Dat))}(M:Mem w V bs):Mem w V (bs++[Option.none]):=by
 refine M.sub id (λ_ _ h=>h) λi x h=>?_;by_cases a:i<bs.length
 . rwa[AJ a]at h
 . rw[AC J]at h;obtain⟨k,b⟩:=ex (i-bs.length);rw[b]at h;cases k<;>simp at h
theorem Mem.fill(M:Mem w V bs)(h:bs[i]?=some Option.none)(d:Dat)(q:Has V (I cs) d):
 Mem w (V.alloc (H cs d.ty)) (bs.set i (some (V.heap.size,d))):=by
 have m:Bl V (V.alloc (H cs d.ty)):=Ba V _;have f:i<bs.length:=(Ad.1 h).1;have l:=M.below m;have n:∀(j:Nat) B d,bs[j]?=some (some (B,d))->B<V.heap.size:=λj B d h=>by
  obtain⟨⟨_,a,_⟩,_⟩:=M.1 j B d h;exact a.lt
 refine⟨λj B p e=>?_,λj k B d1 o a b=>?_,l.2.2⟩
 . by_cases c:i=j
   . subst c;rw[A6 f]at e;simp at e;obtain⟨rfl,rfl⟩:=e;exact⟨⟨cs,BD V _,q.below m⟩,M.2.2.size⟩
   . rw[AW c]at e;exact l.1 j B p e
 . by_cases c:i=j<;>by_cases g:i=k
   . omega
   . subst c;rw[A6 f]at a;rw[AW g]at b;simp at a;have:=n k B o b;omega
   . subst g;rw[A6 f]at b;rw[AW c]at a;simp at b;have:=n j B d1 a;omega
   . rw[AW c]at a;rw[AW g]at b;exact M.2.1 j k B d1 o a b
theorem QL{α:Type}(l:List α)(x y:α):(l++[x]).set l.length y=l++[y]:=by
 induction l with
 |nil=>rfl
 |cons a l b=>simp
theorem Mem.push(M:Mem w V bs)(d:Dat)(a:Has V (I cs) d):Mem w (V.alloc (H cs d.ty)) (bs++[some (V.heap.size,d)]):=by
 have h:=M.none.fill (i:=bs.length) Y d a;rwa[QL]at h
theorem Mem.repl(M:Mem w V bs)(h:bs[i]?=some (some (B,d)))(c:Dat)(z:Bx V' B c.ty cs)(A:Has V (I cs) c)
(o:∀k v ds,Row k V v ds->Row k V' v ds)(D:∀B' t cs,B'≠B->Bx V B' t cs->Bx V' B' t cs)(y:Bl w V'):Mem w V' (bs.set i (some (B,c))):=by
 have n:i<bs.length:=(Ad.1 h).1;obtain⟨_,L⟩:=M.1 i B d h;refine⟨λj B' d1 a=>?_,λj k B' d1 r u x=>?_,y⟩
 . by_cases b:i=j
   . subst b;rw[A6 n]at a;simp at a;obtain⟨rfl,rfl⟩:=a;exact⟨⟨cs,z,A.keep o⟩,L⟩
   . rw[AW b]at a;obtain⟨⟨q,g,l⟩,N⟩:=M.1 j B' d1 a;have p:B'≠B:=λe=>b (by rw[e]at a;exact M.2.1 i j B d d1 h a);exact⟨⟨q,D _ _ _ p g,l.keep o⟩,N⟩
 . have m:∀(j:Nat) d1,(bs.set i (some (B,c)))[j]?=some (some (B',d1))->∃f,bs[j]?=some (some (B',f)):=λj d1 a=>by
    by_cases b:i=j
    . subst b;rw[A6 n]at a;simp at a;exact⟨d,by rw[h,a.1]⟩
    . rw[AW b]at a;exact⟨d1,a⟩
   obtain⟨f,g⟩:=m j d1 u;obtain⟨s,l⟩:=m k r x;exact M.2.1 j k B' f s g l
theorem keep2(q:Jm V B t x y)(b:JB x=true)(c:JB y=true)(a d:F):∀k v ds,Row k V v ds->Row k ((V.setCell ⟨B,0,Option.none⟩ a).setCell ⟨B,1,Option.none⟩ d) v ds:=
 λ_ _ _ h=>Row.set (Row.set h q.c0 b _) (q.set0 a).c1 c _
theorem Mem.putInt(M:Mem w V bs)(h:bs[i]?=some (some (B,.int A)))(f:Jk V (I #[x,y]) z):
 Mem w ((V.setCell ⟨B,0,Option.none⟩ x).setCell ⟨B,1,Option.none⟩ y) (bs.set i (some (B,.int z))):=by
 obtain⟨s,a,l,c,b,_⟩:=M.int h;obtain⟨_,e⟩:=M.1 i B _ h;exact M.repl h (.int z) (cs:=#[x,y]) ((b.set0 x).set1 y) f (keep2 b rfl rfl x y) (λB' t cs d g=>(g.far (p:=⟨B,0,Option.none⟩) d _).far (p:=⟨B,1,Option.none⟩) d _) ((M.2.2.setCell (p:=⟨B,0,Option.none⟩) e _).setCell (p:=⟨B,1,Option.none⟩) e _)
theorem Mem.putBig(M:Mem w V bs)(h:bs[i]?=some (some (B,.big A)))(f:Jt V (I #[x,y]) z):
 Mem w ((V.setCell ⟨B,0,Option.none⟩ x).setCell ⟨B,1,Option.none⟩ y) (bs.set i (some (B,.big z))):=by
 obtain⟨a,l,c,s,b,_⟩:=M.big h;obtain⟨_,e⟩:=M.1 i B _ h;exact M.repl h (.big z) (cs:=#[x,y]) ((b.set0 x).set1 y) f (keep2 b rfl rfl x y) (λB' t cs d g=>(g.far (p:=⟨B,0,Option.none⟩) d _).far (p:=⟨B,1,Option.none⟩) d _) ((M.2.2.setCell (p:=⟨B,0,Option.none⟩) e _).setCell (p:=⟨B,1,Option.none⟩) e _)
theorem far4(x y z u:F):∀B' t cs,B'≠B->Bx V B' t cs->Bx (put4 V B x y z u) B' t cs:=λ_ _ _ a g=>(((g.far (p:=⟨B,0,Option.none⟩) a _).far (p:=⟨B,1,Option.none⟩) a _).far (p:=⟨B,2,Option.none⟩) a _).far (p:=⟨B,3,Option.none⟩) a _
theorem Mem.putRat(M:Mem w V bs){q0:Rat}(h:bs[i]?=some (some (B,.rat q0))){z:F}(b:Jj V (I #[x,y,z,u]) q):
 Mem w (put4 V B x y z u) (bs.set i (some (B,.rat q))):=by
 obtain⟨_,_,_,_,_,_,_,_,a,_⟩:=M.rat h;obtain⟨_,c⟩:=M.1 i B _ h;exact M.repl h (.rat q) (cs:=#[x,y,z,u]) (a.put x y z u) b (λ_ _ _ g=>Row.put4 g a rfl rfl rfl rfl _ _ _ _) (far4 x y z u) (Ju M.2.2 c _ _ _ _)
theorem Mem.zref{w V:E}{bs:List (Option (Nat × Dat))}(M:Mem w V bs){i B:Nat}(h:bs[i]?=some (some (B,.zref))):JM V B 85 (C Option.none 0 0) (G false) (C Option.none 0 0) (G false):=by
 obtain⟨⟨cs,a,b⟩,_⟩:=M.1 i B _ h;cases(show Value.agg cs=_ from b);exact a
theorem Has.set2(h:Has V v d)(q:Jm V B t x y)(c:JB x=true)(e:JB y=true)(a b:F):Has ((V.setCell ⟨B,0,Option.none⟩ a).setCell ⟨B,1,Option.none⟩ b) v d:=h.keep (keep2 q c e a b)
theorem Has.put4{V:E}{v:F}{d:Dat}(h:Has V v d){B:Nat}{t:TypeId}{x y z u:F}(q:JM V B t x y z u)(a:JB x=true)(b:JB y=true)(c:JB z=true)(e:JB u=true)(i j k f:F):Has (Go.Proofs.YteldjhhjnchdeaaGreatDoor.put4 V B i j k f) v d:=h.keep λ_ _ _ g=>Row.put4 g q a b c e _ _ _ _
theorem Jk.form2(h:Jk W v z):∃s a l c,v=I #[G s,C a l c]:=by
 obtain⟨a,l,c,e,_⟩:=h;exact⟨_,a,l,c,e⟩
theorem Jt.form2(h:Jt W v z):∃a l c s,v=I #[C a l c,G s]:=by
 obtain⟨a,l,c,e,_⟩:=h;exact⟨a,l,c,_,e⟩
theorem Jj.form(h:Jj W v q):∃s a l c t b k d,v=I #[G s,C a l c,G t,C b k d]:=by
 obtain⟨s,a,l,c,t,b,k,d,e,_⟩:=h;exact⟨s,a,l,c,t,b,k,d,e⟩
theorem Js.form(h:Js W v q):∃a l c s b k d t,v=I #[C a l c,G s,C b k d,G t]:=by
 obtain⟨s,a,l,c,t,b,k,d,e,_⟩:=h;exact⟨s,a,l,c,t,b,k,d,e⟩
theorem Mem.ne(M:Mem w V bs)(i j:Nat){B':Nat}{a:Dat}(h:bs[i]?=some (some (B,d)))(b:bs[j]?=some (some (B',a)))(c:i≠j):B≠B':=λe=>by
 subst e;exact c (M.2.1 i j B d a h b)
theorem Mem.ge(M:Mem w V bs)(i:Nat)(h:bs[i]?=some (some (B,d))):w.heap.size<=B:=(M.1 i B d h).2
theorem EJ(W:E):Jk W (I #[G false,C Option.none 0 0]) 0:=
 ⟨Option.none,0,0,Y,by unfold UN;rw[Int.natAbs_zero,Jz];exact Row.nil _ _⟩
theorem ZV(W:E):Jt W (I #[C Option.none 0 0,G false]) 0:=
 ⟨Option.none,0,0,Y,by unfold RN;rw[Int.natAbs_zero,Jz];exact Row.nil _ _⟩
theorem Ee(W:E):Jj W (I #[G false,C Option.none 0 0,G false,C Option.none 0 0]) 0:=⟨_,_,_,_,_,_,_,_,rfl,EJ W,EJ W⟩
def Tup2(V:E)(t:F)(d1 a:Dat):Prop:=∃u1 u2,t=.tuple #[u1,u2,G true]/\Has V u1 d1/\Has V u2 a
theorem Tup2.below{V V':E}{t:F}{d1 a:Dat}(h:Tup2 V t d1 a)(b:Bl V V'):Tup2 V' t d1 a:=by
 obtain⟨u1,u2,e,c,d⟩:=h;exact⟨u1,u2,e,c.below b,d.below b⟩
theorem Tup2.alloc{V:E}{t:F}{d1 a:Dat}(h:Tup2 V t d1 a)(o:Obj):Tup2 (V.alloc o) t d1 a:=by
 obtain⟨u1,u2,e,b,c⟩:=h;exact⟨u1,u2,e,b.alloc o,c.alloc o⟩
theorem Tup2.set2{V:E}{v:F}{d1 c:Dat}(h:Tup2 V v d1 c){B:Nat}{t:TypeId}{x y:F}(q:Jm V B t x y)(d:JB x=true)(f:JB y=true)(a b:F):Tup2 ((V.setCell ⟨B,0,Option.none⟩ a).setCell ⟨B,1,Option.none⟩ b) v d1 c:=by
 obtain⟨u1,u2,e,g,i⟩:=h;exact⟨u1,u2,e,g.set2 q d f a b,i.set2 q d f a b⟩
def EH(r:Bool)(W:E)(v:F)(q:Rat):Prop:=match r with|true=>Jj W v q|false=>Js W v q
def EB(r:Bool):TypeId:=match r with|true=>65|false=>85
theorem EH.below{r:Bool}{W W':E}{v:F}{q:Rat}(h:EH r W v q)(a:Bl W W'):EH r W' v q:=by
 cases r with
 |true=>exact Jj.below h a
 |false=>exact Js.below h a
theorem EH.keep{r:Bool}{W W':E}{v:F}{q:Rat}(h:EH r W v q)(a:∀k v ds,Row k W v ds->Row k W' v ds):EH r W' v q:=by
 cases r with
 |true=>exact Has.keep (d:=.rat q) h a
 |false=>exact Has.keep (d:=.ref q) h a
theorem EH.form(h:EH r W v q):∃x y z u,v=I #[x,y,z,u]/\JB x=true/\JB y=true/\JB z=true/\JB u=true:=by
 cases r with
 |true=>
  obtain⟨s,a,l,c,t,b,k,d,e,_⟩:=(show Jj W v q from h);exact⟨_,_,_,_,e,rfl,rfl,rfl,rfl⟩
 |false=>
  obtain⟨s,a,l,c,t,b,k,d,e,_⟩:=(show Js W v q from h);exact⟨_,_,_,_,e,rfl,rfl,rfl,rfl⟩
theorem EH.no{z:F}(h:EH r W (I #[x,y,z,u]) q):JB x=true/\JB y=true/\JB z=true/\JB u=true:=by
 obtain⟨g,i,j,f,e,a,b,c,d⟩:=h.form;cases e;exact⟨a,b,c,d⟩
theorem EH.one{z:F}(h:EH r W (I #[x,y,z,u]) q):∀v∈[x,y,z,u],v.oneCell'=true:=by
 cases r with
 |true=>
  obtain⟨s,a,l,c,t,b,k,d,e,_⟩:=(show Jj W _ q from h);cases e;intro v f;simp at f;rcases f with rfl|rfl|rfl|rfl<;>rfl
 |false=>
  obtain⟨s,a,l,c,t,b,k,d,e,_⟩:=(show Js W _ q from h);cases e;intro v f;simp at f;rcases f with rfl|rfl|rfl|rfl<;>rfl
def Dt(r:Bool)(W:E)(b:Nat)(qs:List Rat):Prop:=
 ∃cs:Array F,W.heap[b]?=some (H cs (EB r) (0,0))/\∀j,j<qs.length->∃x y z u,cs[j*4]?=some x/\cs[j*4+1]?=some y/\cs[j*4+2]?=some z/\cs[j*4+3]?=some u/\EH r W (I #[x,y,z,u]) (cf qs j)
theorem Dt.lt(h:Dt r W b qs):b<W.heap.size:=by obtain⟨cs,h,_⟩:=h;exact(Ab.1 h).1
theorem Dt.below{r:Bool}{W W':E}{b:Nat}{qs:List Rat}(h:Dt r W b qs)(a:Bl W W'):Dt r W' b qs:=by
 have hl:=h.lt;obtain⟨cs,g,i⟩:=h;refine⟨cs,(a.block b hl).trans g,λj l=>?_⟩;obtain⟨x,y,z,u,c,d,e,f,k⟩:=i j l;exact⟨x,y,z,u,c,d,e,f,k.below a⟩
theorem Dt.keep{r:Bool}{W W':E}{b:Nat}{qs:List Rat}(h:Dt r W b qs)(l:W'.heap[b]?=W.heap[b]?)(n:∀k v ds,Row k W v ds->Row k W' v ds):Dt r W' b qs:=by
 obtain⟨cs,f,g⟩:=h;refine⟨cs,l.trans f,λj m=>?_⟩;obtain⟨x,y,z,u,a,c,d,e,i⟩:=g j m;exact⟨x,y,z,u,a,c,d,e,i.keep n⟩
theorem Dt.take{r:Bool}{W:E}{b:Nat}{qs:List Rat}(h:Dt r W b qs)(n:Nat):Dt r W b (qs.take n):=by
 obtain⟨cs,f,g⟩:=h;refine⟨cs,f,λj k=>?_⟩;rw[Am]at k;obtain⟨x,y,z,u,a,c,d,e,i⟩:=g j J;exact⟨x,y,z,u,a,c,d,e,by rw[Mp,BG J];exact i⟩
theorem Dt.at(h:Dt r W b qs)(k:j<qs.length):
 ∃x y z u,W.cell? ⟨b,j*4,none⟩=some x/\W.cell? ⟨b,j*4+1,none⟩=some y/\W.cell? ⟨b,j*4+2,none⟩=some z/\W.cell? ⟨b,j*4+3,none⟩=some u/\EH r W (I #[x,y,z,u]) (cf qs j):=by
 obtain⟨cs,a,g⟩:=h;obtain⟨x,y,z,u,c,d,e,f,i⟩:=g j k;exact⟨x,y,z,u,by simp[World.cell?,a,c],by simp[World.cell?,a,d],by simp[World.cell?,a,e],by simp[World.cell?,a,f],i⟩
theorem Dt.frozen{r:Bool}{W:E}{b:Nat}{qs:List Rat}(h:Dt r W b qs)(o:Nat):W.frozen? ⟨b,o,none⟩=false:=by obtain⟨cs,a,_⟩:=h;simp[World.frozen?,a]
def putAt(W:E)(b o:Nat)(x y z u:F):E:=(((W.setCell ⟨b,o,none⟩ x).setCell ⟨b,o+1,none⟩ y).setCell ⟨b,o+2,none⟩ z).setCell ⟨b,o+3,none⟩ u
theorem JY(h:W.heap[b]?=some (H cs t m))(v:F):(W.setCell ⟨b,o,none⟩ v).heap[b]?=some (H (cs.setIfInBounds o v) t m):=by
 obtain⟨c,a⟩:=Ab.1 h;show(W.heap.modify b _)[b]?=_;rw[A9 (by rw[CJ];exact c),Ci,a];simp
theorem QM(h:W.heap[b]?=some (H cs t m))(x y z u:F):(putAt W b o x y z u).heap[b]?=some (H ((((cs.setIfInBounds o x).setIfInBounds (o+1) y).setIfInBounds (o+2) z).setIfInBounds (o+3) u) t m):=
 JY (JY (JY (JY h x) y) z) u
theorem Ky(a:B≠b)(x y z u:F):(putAt W b o x y z u).heap[B]?=W.heap[B]?:=
 (BC _ _ _ B a).trans ((BC _ _ _ B a).trans ((BC _ _ _ B a).trans (BC _ _ _ B a)))
theorem QN(h:Below n w W)(a:n<=b)(x y z u:F):Below n w (putAt W b o x y z u):=
 (((h.setCell (p:=⟨b,o,none⟩) a _).setCell (p:=⟨b,o+1,none⟩) a _).setCell (p:=⟨b,o+2,none⟩) a _).setCell (p:=⟨b,o+3,none⟩) a _
theorem cell_of(h:W.heap[b]?=some (H cs t m))(e:cs[o]?=some x):W.cell? ⟨b,o,none⟩=some x:=by simp[World.cell?,h,e]
theorem ZW{a c:F}(h:W.heap[b]?=some (H cs t m))(d:cs[o]?=some x0)(e:cs[o+1]?=some a)(f:cs[o+2]?=some c)(g:cs[o+3]?=some u0)
(j:JB x0=true)(l:JB a=true)(n:JB c=true)(p:JB u0=true)(x y z u:F):∀k v ds,Row k W v ds->Row k (putAt W b o x y z u) v ds:=λk v ds i=>by
 have c1:((cs.setIfInBounds o x))[o+1]?=some a:=by rw[Aj J];exact e
 have c2:(((cs.setIfInBounds o x).setIfInBounds (o+1) y))[o+2]?=some c:=by rw[Aj J,Aj J];exact f
 have c3:((((cs.setIfInBounds o x).setIfInBounds (o+1) y).setIfInBounds (o+2) z))[o+3]?=some u0:=by rw[Aj J,Aj J,Aj J];exact g
 exact Row.set (Row.set (Row.set (Row.set i (cell_of h d) j _) (cell_of (JY h x) c1) l _) (cell_of (JY (JY h x) y) c2) n _) (cell_of (JY (JY (JY h x) y) z) c3) p _
theorem Dt.putKeep(h:Dt r W b qs)(l:j<qs.length)(x y z u:F):∀k v ds,Row k W v ds->Row k (putAt W b (j*4) x y z u) v ds:=by
 obtain⟨cs,f,g⟩:=h;obtain⟨x0,q,s,u0,a,c,d,e,i⟩:=g j l;obtain⟨m,n,o,p⟩:=i.no;exact ZW f a c d e m n o p x y z u
theorem Dt.set{r:Bool}{W:E}{b:Nat}{qs:List Rat}(h:Dt r W b qs){j:Nat}(a:j<qs.length){x y z u:F}{q:Rat}(B:EH r W (I #[x,y,z,u]) q):Dt r (putAt W b (j*4) x y z u) b (qs.set j q):=by
 have f:=h.putKeep a x y z u;obtain⟨cs,w,c⟩:=h;obtain⟨x0,N,P,u0,p,s,t,v,M⟩:=c j a;refine⟨_,QM w x y z u,λi d=>?_⟩;rw[Cs]at d;have k:=(Ab.1 p).1;have m:=(Ab.1 s).1;have l:=(Ab.1 t).1;have g:=(Ab.1 v).1;by_cases e:i=j
 . subst e;refine⟨x,y,z,u,?_,?_,?_,?_,?_⟩
   . rw[Aj J,Aj J,Aj J,CK k]
   . rw[Aj J,Aj J,CK (by simpa using m)]
   . rw[Aj J,CK (by simpa using l)]
   . rw[CK (by simpa using g)]
   . rw[XG _ _ _ _ a,BG rfl];exact B.keep f
 . obtain⟨x1,D,L,u1,d0,d1,n,o,A⟩:=c i d;refine⟨x1,D,L,u1,?_,?_,?_,?_,?_⟩
   . rw[Aj J,Aj J,Aj J,Aj J];exact d0
   . rw[Aj J,Aj J,Aj J,Aj J];exact d1
   . rw[Aj J,Aj J,Aj J,Aj J];exact n
   . rw[Aj J,Aj J,Aj J,Aj J];exact o
   . rw[XG _ _ _ _ a,BE e];exact A.keep f
def RowK(r:Bool)(W:E)(v:F)(qs:List Rat):Prop:=
 ∃a cap,v=C a qs.length cap/\qs.length<=cap/\cap<=9223372036854775807/\qs.length<=1099511627776/\(qs=[]\/∃b,a=some ⟨b,0,none⟩/\Dt r W b qs)
theorem RowK.below{r:Bool}{W W':E}{v:F}{qs:List Rat}(h:RowK r W v qs)(k:Bl W W'):RowK r W' v qs:=by
 obtain⟨a,cap,e,f,g,i,c⟩:=h;refine⟨a,cap,e,f,g,i,?_⟩;rcases c with c|⟨b,d,j⟩
 . exact Or.inl c
 . exact Or.inr ⟨b,d,j.below k⟩
theorem RowK.nil(r:Bool)(W:E):RowK r W (C none 0 0) []:=⟨none,0,rfl,Aa _,J,Y,Or.inl rfl⟩
theorem Dt.row(h:Dt r W b qs){cap:Nat}(d:n<=qs.length)(c:n<=cap)(a:cap<=9223372036854775807)(hl:n<=1099511627776):RowK r W (C (some ⟨b,0,none⟩) n cap) (qs.take n):=by
 have e:(qs.take n).length=n:=by rw[Am];omega
 exact⟨_,cap,by rw[e],J,a,J,Or.inr ⟨b,rfl,h.take n⟩⟩
theorem RowK.open(h:RowK r W v qs):∃a cap,v=C a qs.length cap/\qs.length<=cap/\cap<=9223372036854775807/\qs.length<=1099511627776/\
 Hid (∀j,j<qs.length->∃b,a=some ⟨b,0,none⟩/\Dt r W b qs):=by
 obtain⟨a,cap,e,g,i,k,c⟩:=h;refine⟨a,cap,e,g,i,k,λj d=>?_⟩;rcases c with c|⟨b,f,l⟩
 . rw[c]at d;simp at d
 . exact⟨b,f,l⟩
theorem RowK.take{r:Bool}{W:E}{a:Option Addr}{l cap:Nat}{qs:List Rat}(h:RowK r W (C a l cap) qs){n:Nat}(m:n<=l):RowK r W (C a n cap) (qs.take n):=by
 obtain⟨a',i,e,j,f,k,c⟩:=h;cases e;have e:(qs.take n).length=n:=by rw[Am];omega
 refine⟨a,cap,by rw[e],J,f,J,?_⟩;rcases c with c|⟨b,d,g⟩
 . left;rw[c];simp
 . exact Or.inr ⟨b,d,g.take n⟩
def Jf(W:E)(v:F)(ps:List Rat):Prop:=∃u,v=I #[u]/\RowK true W u ps
theorem Jf.below{W W':E}{v:F}{ps:List Rat}(h:Jf W v ps)(b:Bl W W'):Jf W' v ps:=by
 obtain⟨u,e,a⟩:=h;exact⟨u,e,a.below b⟩
theorem RowK.form(h:RowK r W v qs):∃a l c,v=C a l c:=by
 obtain⟨a,cap,e,_⟩:=h;exact⟨a,_,cap,e⟩
theorem Jf.form{W:E}{v:F}{ps:List Rat}(h:Jf W v ps):∃a l c,v=I #[C a l c]:=by
 obtain⟨u,e,b⟩:=h;obtain⟨a,l,c,rfl⟩:=b.form;exact⟨a,l,c,e⟩
theorem Jf.row{a:Option Addr}{l c:Nat}{ps:List Rat}(h:Jf W (I #[C a l c]) ps):RowK true W (C a l c) ps:=by
 obtain⟨u,e,b⟩:=h;cases e;exact b
structure Sqs(qs:List Rat):Prop where
 all:∀i,Sq (cf qs i)
theorem Sqs.at(h:Sqs qs)(i:Nat):Sq (cf qs i):=h.all i
theorem Sqs.of(h:∀i,Sq (cf qs i)):Sqs qs:=⟨h⟩
def YP(r:Bool)(W:E)(cs:List F)(qs:List Rat):Prop:=
 cs.length=qs.length*4/\∀j,j<qs.length->∃x y z u,cs[j*4]?=some x/\cs[j*4+1]?=some y/\cs[j*4+2]?=some z/\cs[j*4+3]?=some u/\EH r W (I #[x,y,z,u]) (cf qs j)
theorem YP.nil(r:Bool)(W:E):YP r W [] []:=⟨rfl,λj a=>by simp at a⟩
theorem YP.below{r:Bool}{W W':E}{cs:List F}{qs:List Rat}(h:YP r W cs qs)(f:Bl W W'):YP r W' cs qs:=by
 refine⟨h.1,λj g=>?_⟩;obtain⟨x,y,z,u,a,b,c,d,e⟩:=h.2 j g;exact⟨x,y,z,u,a,b,c,d,e.below f⟩
theorem YP.keep{r:Bool}{W W':E}{cs:List F}{qs:List Rat}(h:YP r W cs qs)(g:∀k v ds,Row k W v ds->Row k W' v ds):YP r W' cs qs:=by
 refine⟨h.1,λj f=>?_⟩;obtain⟨x,y,z,u,a,b,c,d,e⟩:=h.2 j f;exact⟨x,y,z,u,a,b,c,d,e.keep g⟩
theorem YP.one{r:Bool}{W:E}{cs:List F}{qs:List Rat}(h:YP r W cs qs):∀v∈cs,v.oneCell'=true:=by
 intro v l;obtain⟨k,j,rfl⟩:=List.mem_iff_getElem.1 l;have hl:=h.1;obtain⟨x,y,z,u,d,e,f,g,i⟩:=h.2 (k/4) J;have b:=i.one;have c:cs[k]?=some cs[k]:=Ag j;have a:k=k/4*4\/k=k/4*4+1\/k=k/4*4+2\/k=k/4*4+3:=J
 rcases a with a|a|a|a
 . rw[<-a,c]at d;cases d;exact b _ Y
 . rw[<-a,c]at e;cases e;exact b _ Y
 . rw[<-a,c]at f;cases f;exact b _ Y
 . rw[<-a,c]at g;cases g;exact b _ Y
theorem YP.snoc{cs:List F}(h:YP r W cs qs){z:F}(hq:EH r W (I #[x,y,z,u]) q):YP r W (cs++[x,y,z,u]) (qs++[q]):=by
 have hl:=h.1;refine⟨by simp;omega,λj g=>?_⟩;rw[Ai,FF]at g;by_cases i:j<qs.length
 . obtain⟨l,m,n,k,b,c,d,e,f⟩:=h.2 j i;refine⟨l,m,n,k,?_,?_,?_,?_,?_⟩
   . rw[AJ J];exact b
   . rw[AJ J];exact c
   . rw[AJ J];exact d
   . rw[AJ J];exact e
   . rw[Mo,BE J];exact f
 . have a:j=qs.length:=J
   subst a;refine⟨x,y,z,u,?_,?_,?_,?_,?_⟩
   . rw[AC J,show qs.length*4-cs.length=0 from by omega];rfl
   . rw[AC J,show qs.length*4+1-cs.length=1 from by omega];rfl
   . rw[AC J,show qs.length*4+2-cs.length=2 from by omega];rfl
   . rw[AC J,show qs.length*4+3-cs.length=3 from by omega];rfl
   . rw[Mo,BG rfl];exact hq
theorem Dt.cells(h:Dt r W b qs):∃cs,YP r W cs qs/\∀j u,cs[j]?=some u->W.cell? ⟨b,j,none⟩=some u:=by
 obtain⟨a,k,d⟩:=h;have p:qs.length*4<=a.size:=by
  cases hq:qs.length with
  |zero=>omega
  |succ n=>
   obtain⟨x,y,z,u,_,_,_,c,_⟩:=d n J;have:=(Ab.1 c).1;omega
 refine⟨a.toList.take (qs.length*4),⟨by rw[Am];have o:a.toList.length=a.size:=CT;omega,λj m=>?_⟩,λj u e=>?_⟩
 . obtain⟨x,y,z,u,f,g,i,c,l⟩:=d j m;refine⟨x,y,z,u,?_,?_,?_,?_,l⟩
   . rw[AH J,Cj];exact f
   . rw[AH J,Cj];exact g
   . rw[AH J,Cj];exact i
   . rw[AH J,Cj];exact c
 . rw[Fs]at e;split at e
   . rw[Cj]at e;exact cell_of k e
   . cases e
theorem RowK.owns{base:Nat}{cs:List F}(h:W.ownsRow base (EB r) 4 v n cs)(e:YP r W cs qs)(hl:qs.length<=1099511627776):RowK r W v qs/\n=qs.length/\(v=C none 0 0\/∃g cap,v=C (some ⟨g,0,none⟩) n cap/\base<=g/\Dt r W g qs):=by
 obtain⟨w,k⟩:=h;have s:n=qs.length:=by have:=e.1;omega
 subst s;rcases k with⟨rfl,i⟩|⟨g,cap,f,rfl,m,o,hle,q,A,t⟩
 . have:qs=[]:=Aq i
   subst this;exact⟨RowK.nil r W,rfl,Or.inl rfl⟩
 . have hE:Dt r W g qs:=by
    refine⟨f,o,λj p=>?_⟩;obtain⟨x,y,z,u,a,b,c,d,l⟩:=e.2 j p;rw[<-t]at a b c d;rw[AH J,Cj]at a b c d;exact⟨x,y,z,u,a,b,c,d,l⟩
   refine⟨⟨_,cap,rfl,hle,by unfold maxLen at q;omega,hl,Or.inr ⟨g,rfl,hE⟩⟩,rfl,Or.inr ⟨g,cap,rfl,m,hE⟩⟩
attribute [local go_sem] Oper.semAt_some
theorem Jt.form(h:Jt W v z):∃a l cap,v=I #[C a l cap,G (decide (z<0))]:=by
 obtain⟨a,l,cap,e,_⟩:=h;exact⟨a,l,cap,e⟩
theorem Jt.box{R:Nat}{u1 x1:F}(h:Jt W v z)(q:Jm W R t u0 u1)(c:JB u0=true)(d:JB u1=true):Jt ((W.setCell ⟨R,0,none⟩ x0).setCell ⟨R,1,none⟩ x1) v z:=by
 obtain⟨a,l,cap,e,b⟩:=h;exact⟨a,l,cap,e,Row.set (Row.set b q.c0 c _) (u0:=u1) (q.set0 x0).c1 d _⟩
theorem ZX(M N:F)(x y:Int)(w:E)(f:Jt w M x)(g:Jt w N y)(W:EM x<=400000000000)(X:EM y<=400000000000):
 Calls K 140 #[M,N] w λe c=>∃u,e=.returned u/\Jt c u (x-y)/\Bl w c:=by
 obtain⟨a,la,ca,rfl⟩:=f.form;obtain⟨b,lb,cb,rfl⟩:=g.form;obtain⟨s,hs⟩:=ex (decide (x<0));obtain⟨t,q⟩:=ex (decide (y<0));rw[hs]at f ⊢;rw[q]at g ⊢;clear hs q;obtain⟨W0,d⟩:=ex (((w.alloc (H #[C a la ca,G s] 83)).alloc (H #[C b lb cb,G t] 83)).alloc (H #[C none 0 0,G false] 83));have i:Bl w W0:=by rw[<-d];exact Xv w _ _ _
 have b0:Jm W0 w.heap.size 83 (C a la ca) (G s):=by rw[<-d];exact((Jm.new w _ _ _).alloc _).alloc _
 have j:Jm W0 (w.heap.size+1) 83 (C b lb cb) (G t):=by
  have h:=(Jm.new (w.alloc (H #[C a la ca,G s] 83)) 83 (C b lb cb) (G t)).alloc (H #[C none 0 0,G false] 83);rw[A1,d]at h;exact h
 have k:Jm W0 (w.heap.size+1+1) 83 (C none 0 0) (G false):=by
  have h:=Jm.new ((w.alloc (H #[C a la ca,G s] 83)).alloc (H #[C b lb cb,G t] 83)) 83 (C none 0 0) (G false);rw[A1,A1,d]at h;exact h
 have P:=O λ(V:E) (h:Bl W0 V)=>PM _ y V ((g.below i).below h);have Q:=O λ(V:E) (u:F) (h:Bl W0 V) (hu:Jt V u (-y))=>NN _ u x (-y) V ((f.below i).below h) hu W (by unfold EM at *;rw[Fq];exact X);clear f g;go_enter Tryz.func140,Tryz.ntmps140
 go_wp2_with fail
 try rw[d]
 clear d;have hq:Bl W0 W0.drew:=(BB _ W0).drew;obtain⟨r,z⟩:=b0.cp;obtain⟨A,B⟩:=j.cp;have ad:¬(w.heap.size=w.heap.size+1+1):=J
 go_region_held3 (λc=>c.cell? ⟨w.heap.size,0,none⟩=some (C a la ca)/\c.cell? ⟨w.heap.size,1,none⟩=some (G s)/\c.cell? ⟨w.heap.size+1,0,none⟩=some (C b lb cb)/\c.cell? ⟨w.heap.size+1,1,none⟩=some (G t)) (refine⟨?_,?_,?_,?_⟩<;>(first|(go_keep;done)|((repeat rw[JH J]);simp[*];done)))
  (first
   |(go_at_call 110;refine(P.o _ hq).mono ?_;rintro e w1 ⟨u1,rfl,n,T⟩;obtain⟨na,nl,nc,rfl⟩:=n.form;obtain⟨s1,l⟩:=ex (decide (-y<0));rw[l]at n;rw[l];clear l;have hq:=Bt hq T;obtain⟨r,z⟩:=(b0.below hq).cp;obtain⟨A,B⟩:=(j.below hq).cp)
   |(go_at_call 81;refine(Q.o _ _ hq n).mono ?_;rintro e w2 ⟨u2,rfl,o,U⟩;obtain⟨L,sl,sc,rfl⟩:=o.form;obtain⟨D,m⟩:=ex (decide (x+-y<0));rw[m]at o;rw[m];clear m;have hq:=Bt hq U;obtain⟨r,z⟩:=(b0.below hq).cp;obtain⟨A,B⟩:=(j.below hq).cp;obtain⟨r0,r1⟩:=(k.below hq).cp;obtain⟨f0,f1⟩:=(k.below hq).fp))
 all_goals go_wp2_with fail
 have S:=Bt i hq;have R:=o.box (k.below hq) rfl rfl (x0:=C L sl sc) (x1:=G D);exact BA (v:=I #[C L sl sc,G D]) (by simp[results,Tryz.results140,go_sem,r0,r1]) rfl ⟨_,rfl,by rw[Int.sub_eq_add_neg];exact R,(S.setCell (p:=⟨_,0,none⟩) so _).setCell (p:=⟨_,1,none⟩) so _⟩
theorem QO(P Q:F)(x y:Int)(w:E)(f:Jk w P x)(X:Jk w Q y)(af:(Jc Z x.natAbs).length<1099511627776)(ah:(Jc Z y.natAbs).length<1099511627776):
 Calls K 88 #[P,Q] w λe c=>∃u,e=.returned u/\Jk c u (x-y)/\Bl w c:=by
 obtain⟨a,la,ca,rfl⟩:=f.form;obtain⟨b,lb,cb,W,g⟩:=X;cases W;obtain⟨s,hs⟩:=ex (decide (x<0));obtain⟨t,n⟩:=ex (decide (y<0));rw[hs]at f ⊢;rw[n];clear hs;obtain⟨W0,d⟩:=ex (((w.alloc (H #[G s,C a la ca] 63)).alloc (H #[G t,C b lb cb] 63)).alloc (H #[G false,C none 0 0] 63));have i:Bl w W0:=by rw[<-d];exact Xv w _ _ _
 have b0:Jm W0 w.heap.size 63 (G s) (C a la ca):=by rw[<-d];exact((Jm.new w _ _ _).alloc _).alloc _
 have j:Jm W0 (w.heap.size+1) 63 (G t) (C b lb cb):=by
  have h:=(Jm.new (w.alloc (H #[G s,C a la ca] 63)) 63 (G t) (C b lb cb)).alloc (H #[G false,C none 0 0] 63);rw[A1,d]at h;exact h
 have k:Jm W0 (w.heap.size+1+1) 63 (G false) (C none 0 0):=by
  have h:=Jm.new ((w.alloc (H #[G s,C a la ca] 63)).alloc (H #[G t,C b lb cb] 63)) 63 (G false) (C none 0 0);rw[A1,A1,d]at h;exact h
 have r:(if(!t)=true then -(y.natAbs:Int)else y.natAbs)=-y:=by
  rw[<-n];by_cases h:y<0
  . simp only[h,DI,Bool.not_true,Ck,if_false];omega
  . simp only[h,DA,Bool.not_false,if_true];omega
 have R:=O (λ(V:E) (h:Bl W0 V)=>show Calls K 119 #[G (!t),C b lb cb] V λe c=>∃u,e=.returned u/\Jk c u (-y)/\Bl V c by
  have z:=I9 (!t) (C b lb cb) y.natAbs V (UN.below (UN.below g i) h);rw[r]at z;exact z)
 have S:=O λ(V:E) (u:F) (h:Bl W0 V) (g:Jk V u (-y))=>Nl _ u x (-y) V ((f.below i).below h) g af (by rw[Fq];exact ah);clear f g r n;go_enter Tryz.func88,Tryz.ntmps88
 go_wp2_with fail
 try rw[d]
 clear d;have hq:Bl W0 W0.drew:=(BB _ W0).drew;obtain⟨A,B⟩:=b0.cp;obtain⟨D,L⟩:=j.cp;have ai:¬(w.heap.size=w.heap.size+1+1):=J
 go_region_held3 (λc=>c.cell? ⟨w.heap.size,0,none⟩=some (G s)/\c.cell? ⟨w.heap.size,1,none⟩=some (C a la ca)/\c.cell? ⟨w.heap.size+1,0,none⟩=some (G t)/\c.cell? ⟨w.heap.size+1,1,none⟩=some (C b lb cb)) (refine⟨?_,?_,?_,?_⟩<;>(first|(go_keep;done)|((repeat rw[JH J]);simp[*];done)))
  (first
   |(go_at_call 119;refine(R.o _ hq).mono ?_;rintro e w1 ⟨u1,rfl,o,ad⟩;obtain⟨na,nl,nc,rfl⟩:=o.form;obtain⟨s1,l⟩:=ex (decide (-y<0));rw[l]at o;rw[l];clear l;have hq:=Bt hq ad;obtain⟨A,B⟩:=(b0.below hq).cp;obtain⟨D,L⟩:=(j.below hq).cp)
   |(go_at_call 121;refine(S.o _ _ hq o).mono ?_;rintro e w2 ⟨u2,rfl,q,ae⟩;obtain⟨N,sl,sc,rfl⟩:=q.form;obtain⟨M,m⟩:=ex (decide (x+-y<0));rw[m]at q;rw[m];clear m;have hq:=Bt hq ae;obtain⟨A,B⟩:=(b0.below hq).cp;obtain⟨D,L⟩:=(j.below hq).cp;obtain⟨r0,r1⟩:=(k.below hq).cp;obtain⟨f0,f1⟩:=(k.below hq).fp))
 all_goals go_wp2_with fail
 have U:=Bt i hq;have T:=q.box (k.below hq) rfl rfl (x0:=G M) (x1:=C N sl sc);exact BA (v:=I #[G M,C N sl sc]) (by simp[results,Tryz.results88,go_sem,r0,r1]) rfl ⟨_,rfl,by rw[Int.sub_eq_add_neg];exact T,(U.setCell (p:=⟨_,0,none⟩) so _).setCell (p:=⟨_,1,none⟩) so _⟩
theorem ZY(a:Option Addr)(la ca:Nat)(b:Option Addr)(lb cb m n:Nat)(w:E)(t:la+lb<=1099511627776)
(i:Row .u64 w (C a la ca) (Jc Z m))(j:Row .u64 w (C b lb cb) (Jc Z n)):
 Calls K 120 #[C a la ca,C b lb cb] w λe q=>∃u,e=.returned u/\UN q u (m*n)/\Bl w q:=by
 have l:=Jx (la+lb) J w;rw[show((la+lb:Nat):Int)=(la:Int)+(lb:Int)from by omega]at l;obtain⟨c,d⟩:∃c,c=w.alloc (H (cellsOf .u64 (List.replicate (la+lb) 0)).toArray 156):=⟨_,rfl⟩;have f:Bl w c:=by rw[d];exact Ba w _
 have k:DU c w.heap.size (List.replicate (la+lb) 0):=by rw[d];exact DU.made (BD w _)
 rw[<-d]at l;have r:=O (WC w.heap.size (la+lb) (la+lb) (List.replicate (la+lb) 0) a la ca b lb cb m n c k (λx v=>by rw[CH v];unfold Z;omega) (by rw[Au];exact Aa _) (Aa _) J t (Row.below i f) (Row.below j f)
  (λp e g=>by have:=Ip i e g;omega) λp e g=>by have:=Ip j e g;omega)
 clear d k i j;go_enter Tryz.func120,Tryz.ntmps120
 go_wp2_with(go_at_call 141;refine r.o.mono ?_;rintro e A ⟨u,rfl,⟨o,s⟩,_,_⟩;obtain⟨y,z,rfl⟩:=UN.form o)
 go_ret;exact⟨_,rfl,o,below_grown f s (Aa _)⟩
theorem Xo(R S:F)(x y:Int)(w:E)(ha:Jk w R x)(hb:Jk w S y)(hl:(Jc Z x.natAbs).length+(Jc Z y.natAbs).length<=1099511627776):
 Calls K 85 #[R,S] w λe f=>∃u,e=.returned u/\Jk f u (x*y)/\Bl w f:=by
 obtain⟨a,la,ca,n,j⟩:=ha;cases n;obtain⟨b,lb,cb,n,z⟩:=hb;cases n;have X:=j.len;have Qe:=z.len;obtain⟨s,hs⟩:=ex (decide (x<0));obtain⟨t,q⟩:=ex (decide (y<0));have A:(if(!(s==t))=true then -((x.natAbs*y.natAbs:Nat):Int)else((x.natAbs*y.natAbs:Nat):Int))=x*y:=by
  rw[<-hs,<-q,<-CY];rcases FI x 0 with c|c|c<;>rcases FI y 0 with d|d|d
  . have:=Int.mul_pos_of_neg_of_neg c d;simp[c,d];omega
  . subst d;simp
  . have:=Int.mul_neg_of_neg_of_pos c d;have g:¬y<0:=J
    simp[c,g];omega
  . subst c;simp
  . subst c;simp
  . subst c;simp
  . have:=Int.mul_neg_of_pos_of_neg c d;have g:¬x<0:=J
    simp[d,g];omega
  . subst d;simp
  . have:=Int.mul_pos c d;have g:¬x<0:=J
    have h2:¬y<0:=J
    simp[g,h2];omega
 rw[hs,q];obtain⟨W0,i⟩:=ex (((w.alloc (H #[G s,C a la ca] 63)).alloc (H #[G t,C b lb cb] 63)).alloc (H #[G false,C none 0 0] 63));have k:Bl w W0:=by rw[<-i];exact Xv w _ _ _
 have b0:Jm W0 w.heap.size 63 (G s) (C a la ca):=by rw[<-i];exact((Jm.new w _ _ _).alloc _).alloc _
 have l:Jm W0 (w.heap.size+1) 63 (G t) (C b lb cb):=by
  have h:=(Jm.new (w.alloc (H #[G s,C a la ca] 63)) 63 (G t) (C b lb cb)).alloc (H #[G false,C none 0 0] 63);rw[A1,i]at h;exact h
 have m:Jm W0 (w.heap.size+1+1) 63 (G false) (C none 0 0):=by
  have h:=Jm.new ((w.alloc (H #[G s,C a la ca] 63)).alloc (H #[G t,C b lb cb] 63)) 63 (G false) (C none 0 0);rw[A1,A1,i]at h;exact h
 have U:=O λ(V:E) (h:Bl W0 V)=>ZY a la ca b lb cb _ _ V J (UN.below (UN.below j k) h) (UN.below (UN.below z k) h);have T:=O (λ(V:E) (u:F) (j:UN V u (x.natAbs*y.natAbs))=>show Calls K 119 #[G (!(s==t)),u] V λe f=>∃u,e=.returned u/\Jk f u (x*y)/\Bl V f by
  have g:=I9 (!(s==t)) u _ V j;rw[A]at g;exact g)
 clear j z A hs q X Qe hl;go_enter Tryz.func85,Tryz.ntmps85
 go_wp2_with fail
 try rw[i]
 clear i;have hq:Bl W0 W0.drew:=(BB _ W0).drew;obtain⟨D,L⟩:=b0.cp;obtain⟨M,N⟩:=l.cp;have af:¬(w.heap.size=w.heap.size+1+1):=J
 go_region_held3 (λf=>f.cell? ⟨w.heap.size,0,none⟩=some (G s)/\f.cell? ⟨w.heap.size,1,none⟩=some (C a la ca)/\f.cell? ⟨w.heap.size+1,0,none⟩=some (G t)/\f.cell? ⟨w.heap.size+1,1,none⟩=some (C b lb cb)) (refine⟨?_,?_,?_,?_⟩<;>(first|(go_keep;done)|((repeat rw[JH J]);simp[*];done)))
  (first
   |(go_at_call 120;refine(U.o _ hq).mono ?_;rintro e w1 ⟨u1,rfl,B,ad⟩;obtain⟨na,nc,rfl⟩:=UN.form B;have hq:=Bt hq ad;obtain⟨D,L⟩:=(b0.below hq).cp;obtain⟨M,N⟩:=(l.below hq).cp)
   |(go_at_call 119;refine(T.o _ _ B).mono ?_;rintro e w2 ⟨u2,rfl,r,ae⟩;obtain⟨Q,sl,sc,rfl⟩:=r.form;obtain⟨P,o⟩:=ex (decide (x*y<0));rw[o]at r;rw[o];clear o;have hq:=Bt hq ae;obtain⟨D,L⟩:=(b0.below hq).cp;obtain⟨M,N⟩:=(l.below hq).cp;obtain⟨r0,r1⟩:=(m.below hq).cp;obtain⟨f0,f1⟩:=(m.below hq).fp))
 all_goals go_wp2_with fail
 have Qf:=Bt k hq;have W:=r.box (m.below hq) rfl rfl (x0:=G P) (x1:=C Q sl sc);exact BA (v:=I #[G P,C Q sl sc]) (by simp[results,Tryz.results85,go_sem,r0,r1]) rfl ⟨_,rfl,W,(Qf.setCell (p:=⟨_,0,none⟩) so _).setCell (p:=⟨_,1,none⟩) so _⟩
end
namespace M3
structure Dat where
 ty:TypeId
 has:World->Value->Prop
 noPoly:Bool
 below:∀ {V V':World} {v:Value},has V v->Bl V V'->has V' v
 keep:∀ {V V':World} {v:Value},has V v->(∀k v ds,Row k V v ds->Row k V' v ds)->(noPoly=true\/∀v qs,RowK true V v qs->RowK true V' v qs)->has V' v
def Dat.int(z:Int):Dat where
 ty:=63
 has V v:=Jk V v z
 noPoly:=true
 below h hb:=Jk.below h hb
 keep h hk _:=by
  obtain⟨a,l,c,e,b⟩:=h;exact⟨a,l,c,e,hk _ _ _ b⟩
def Dat.rat(q:Rat):Dat where
 ty:=65
 has V v:=Jj V v q
 noPoly:=true
 below h hb:=Jj.below h hb
 keep h hk _:=by
  obtain⟨s,a,l,c,t,b,k,d,e,⟨f,l1,c1,i,m⟩,⟨g,l2,c2,j,n⟩⟩:=h;exact⟨s,a,l,c,t,b,k,d,e,⟨f,l1,c1,i,hk _ _ _ m⟩,⟨g,l2,c2,j,hk _ _ _ n⟩⟩
def Dat.big(z:Int):Dat where
 ty:=83
 has V v:=Jt V v z
 noPoly:=true
 below h hb:=Jt.below h hb
 keep h hk _:=by
  obtain⟨a,l,c,e,b⟩:=h;exact⟨a,l,c,e,hk _ _ _ b⟩
def Dat.ref(q:Rat):Dat where
 ty:=85
 has V v:=Js V v q
 noPoly:=true
 below h hb:=Js.below h hb
 keep h hk _:=by
  obtain⟨s,a,l,c,t,b,k,d,e,⟨f,l1,c1,i,m⟩,⟨g,l2,c2,j,n⟩⟩:=h;exact⟨s,a,l,c,t,b,k,d,e,⟨f,l1,c1,i,hk _ _ _ m⟩,⟨g,l2,c2,j,hk _ _ _ n⟩⟩
def Dat.zref:Dat where
 ty:=85
 has _ v:=v=I #[C none 0 0,G false,C none 0 0,G false]
 noPoly:=true
 below h _:=h
 keep h _ _:=h
def Dat.rats(qs:List Rat):Dat where
 ty:=65
 has V v:=∃cs,v=I cs/\∀j,j<qs.length->∃x y z u,cs[j*4]?=some x/\cs[j*4+1]?=some y/\cs[j*4+2]?=some z/\cs[j*4+3]?=some u/\EH true V (I #[x,y,z,u]) (cf qs j)
 noPoly:=true
 below h hb:=by
  obtain⟨cs,e,h⟩:=h;refine⟨cs,e,λj g=>?_⟩;obtain⟨x,y,z,u,a,b,c,d,f⟩:=h j g;exact⟨x,y,z,u,a,b,c,d,f.below hb⟩
 keep h hk _:=by
  obtain⟨cs,e,h⟩:=h;refine⟨cs,e,λj g=>?_⟩;obtain⟨x,y,z,u,a,b,c,d,f⟩:=h j g;exact⟨x,y,z,u,a,b,c,d,f.keep hk⟩
def Dat.poly(ps:List Rat):Dat where
 ty:=25
 has V v:=Jf V v ps
 noPoly:=false
 below h hb:=Jf.below h hb
 keep h _ hp:=by
  rcases hp with hp|hp
  . cases hp
  . obtain⟨u,e,a⟩:=h;exact⟨u,e,hp _ _ a⟩
def Dat.cell(t:TypeId)(x:F):Dat where
 ty:=t
 has _ v:=v=I #[x]/\JB x=true
 noPoly:=true
 below h _:=h
 keep h _ _:=h
def Has(V:E)(v:F)(d:Dat):Prop:=d.has V v
theorem Has.below{V V':E}{v:F}{d:Dat}(h:Has V v d)(a:Bl V V'):Has V' v d:=d.below h a
theorem Has.alloc{V:E}{v:F}{d:Dat}(h:Has V v d)(o:Obj):Has (V.alloc o) v d:=h.below (Ba V o)
theorem Has.keep{V V':E}{v:F}{d:Dat}(h:Has V v d)(a:∀k v ds,Row k V v ds->Row k V' v ds)(hp:d.noPoly=true\/∀v qs,RowK true V v qs->RowK true V' v qs):Has V' v d:=d.keep h a hp
def Bx(V:E)(B:Nat)(t:TypeId)(cs:Array F):Prop:=V.heap[B]?=some (H cs t (0,0))
variable{cs:Array F}{d:Dat}{m z:Int}{bs:List (Option (Nat × Dat))}{qs:List Rat}{B i:Nat}{q:Rat}{t:TypeId}{u x x0 y:F}{V V' w:E}
theorem Bx.lt(h:Bx V B t cs):B<V.heap.size:=(Ab.1 h).1
theorem Bx.below(h:Bx V B t cs)(a:Bl V V'):Bx V' B t cs:=(a.block B h.lt).trans h
theorem Bx.far(h:Bx V B t cs){p:Addr}(hp:B≠p.block)(u:F):Bx (V.setCell p u) B t cs:=(BC V p u B hp).trans h
def noPoly:List (Option (Nat × Dat))->Bool
 |[]=>true
 |some (_,d)::t=>d.noPoly&&noPoly t
 |Option.none::t=>noPoly t
theorem QP(h:noPoly bs=true){x:Nat × Dat}(e:bs[i]?=some (some x)):x.2.noPoly=true:=by
 induction bs generalizing i with
 |nil=>simp at e
 |cons b t a=>
  cases b with
  |none=>
   cases i with
   |zero=>simp at e
   |succ i=>exact a h (by simpa using e)
  |some y=>
   rw[noPoly,AM]at h;cases i with
   |zero=>simp at e;rw[<-e];exact h.1
   |succ i=>exact a h.2 (by simpa using e)
def Mem(w V:E)(bs:List (Option (Nat × Dat))):Prop:=
 (∀(i:Nat) B d,bs[i]?=some (some (B,d))->(∃cs,Bx V B d.ty cs/\Has V (I cs) d)/\w.heap.size<=B)/\
 (∀(i j:Nat) B d a,bs[i]?=some (some (B,d))->bs[j]?=some (some (B,a))->i=j)/\Bl w V
theorem Mem.nil(w:E):Mem w w []:=⟨λi B z h=>by simp at h,λi j B z a h=>by simp at h,BB _ w⟩
theorem Mem.int{w V:E}{bs:List (Option (Nat × Dat))}(M:Mem w V bs){i B:Nat}{z:Int}(h:bs[i]?=some (some (B,.int z))):∃s a l c,Jm V B 63 (G s) (C a l c)/\Jk V (I #[G s,C a l c]) z:=by
 obtain⟨⟨cs,b,d⟩,_⟩:=M.1 i B _ h;obtain⟨a,l,c,e,f⟩:=d;cases e;exact⟨_,a,l,c,b,a,l,c,rfl,f⟩
theorem Mem.big{w V:E}{bs:List (Option (Nat × Dat))}(M:Mem w V bs){i B:Nat}{z:Int}(h:bs[i]?=some (some (B,.big z))):∃a l c s,Jm V B 83 (C a l c) (G s)/\Jt V (I #[C a l c,G s]) z:=by
 obtain⟨⟨cs,b,d⟩,_⟩:=M.1 i B _ h;obtain⟨a,l,c,e,f⟩:=d;cases e;exact⟨a,l,c,_,b,a,l,c,rfl,f⟩
theorem Mem.rat{w V:E}{bs:List (Option (Nat × Dat))}(M:Mem w V bs){i B:Nat}{q:Rat}(h:bs[i]?=some (some (B,.rat q))):
 ∃s a l c t b k d,JM V B 65 (G s) (C a l c) (G t) (C b k d)/\Jj V (I #[G s,C a l c,G t,C b k d]) q/\Jk V (I #[G s,C a l c]) q.num/\Jk V (I #[G t,C b k d]) (Dz q):=by
 obtain⟨⟨cs,m,f⟩,_⟩:=M.1 i B _ h;have n:=f;obtain⟨s,a,l,c,t,b,k,d,e,g,j⟩:=f;cases e;exact⟨s,a,l,c,t,b,k,d,m,n,g,j⟩
theorem Mem.ref{w V:E}{bs:List (Option (Nat × Dat))}(M:Mem w V bs){i B:Nat}{q:Rat}(h:bs[i]?=some (some (B,.ref q))):
 ∃a l c s b k d t,JM V B 85 (C a l c) (G s) (C b k d) (G t)/\Js V (I #[C a l c,G s,C b k d,G t]) q/\Jt V (I #[C a l c,G s]) q.num/\Jt V (I #[C b k d,G t]) (q.den:Int):=by
 obtain⟨⟨cs,m,f⟩,_⟩:=M.1 i B _ h;have n:=f;obtain⟨s,a,l,c,t,b,k,d,e,g,j⟩:=f;cases e;exact⟨s,a,l,c,t,b,k,d,m,n,g,j⟩
theorem Mem.below{w V V':E}{bs:List (Option (Nat × Dat))}(M:Mem w V bs)(a:Bl V V'):Mem w V' bs:=
 ⟨λi B z h=>by
  obtain⟨⟨cs,b,c⟩,d⟩:=M.1 i B z h;exact⟨⟨cs,b.below a,c.below a⟩,d⟩,M.2.1,Bt M.2.2 a⟩
theorem Mem.drew{w V:E}{bs:List (Option (Nat × Dat))}(M:Mem w V bs):Mem w V.drew bs:=M.below ((BB _ V).drew)
theorem Mem.sub{cs:List (Option (Nat × Dat))}(M:Mem w V bs)(f:Nat->Nat)(e:∀(i j:Nat),f i=f j->i=j)(h:∀(i:Nat) x,cs[i]?=some (some x)->bs[f i]?=some (some x)):Mem w V cs:=
 ⟨λi B d a=>M.1 (f i) B d (h i _ a),λi j B d b a c=>e i j (M.2.1 (f i) (f j) B d b (h i _ a) (h j _ c)),M.2.2⟩
theorem Mem.take{w V:E}{bs:List (Option (Nat × Dat))}(M:Mem w V bs)(n:Nat):Mem w V (bs.take n):=by
 refine M.sub id (λ_ _ h=>h) λi x h=>?_;rw[Fs]at h;split at h
 . exact h
 . cases h
theorem Mem.none{w V:E}{bs:List (Option (Nat × Dat))}(M:Mem w V bs):Mem w V (bs++[Option.none]):=by
 refine M.sub id (λ_ _ h=>h) λi x h=>?_;by_cases a:i<bs.length
 . rwa[AJ a]at h
 . rw[AC J]at h;obtain⟨k,b⟩:=ex (i-bs.length);rw[b]at h;cases k<;>simp at h
theorem Mem.fill(M:Mem w V bs)(h:bs[i]?=some Option.none)(d:Dat)(q:Has V (I cs) d):
 Mem w (V.alloc (H cs d.ty)) (bs.set i (some (V.heap.size,d))):=by
 have m:Bl V (V.alloc (H cs d.ty)):=Ba V _;have f:i<bs.length:=(Ad.1 h).1;have l:=M.below m;have n:∀(j:Nat) B d,bs[j]?=some (some (B,d))->B<V.heap.size:=λj B d h=>by
  obtain⟨⟨_,a,_⟩,_⟩:=M.1 j B d h;exact a.lt
 refine⟨λj B p e=>?_,λj k B d1 o a b=>?_,l.2.2⟩
 . by_cases c:i=j
   . subst c;rw[A6 f]at e;simp at e;obtain⟨rfl,rfl⟩:=e;exact⟨⟨cs,BD V _,q.below m⟩,M.2.2.size⟩
   . rw[AW c]at e;exact l.1 j B p e
 . by_cases c:i=j<;>by_cases g:i=k
   . omega
   . subst c;rw[A6 f]at a;rw[AW g]at b;simp at a;have:=n k B o b;omega
   . subst g;rw[A6 f]at b;rw[AW c]at a;simp at b;have:=n j B d1 a;omega
   . rw[AW c]at a;rw[AW g]at b;exact M.2.1 j k B d1 o a b
theorem Mem.push(M:Mem w V bs)(d:Dat)(a:Has V (I cs) d):Mem w (V.alloc (H cs d.ty)) (bs++[some (V.heap.size,d)]):=by
 have h:=M.none.fill (i:=bs.length) Y d a;rwa[QL]at h
theorem Mem.repl(M:Mem w V bs)(h:bs[i]?=some (some (B,d)))(c:Dat)(z:Bx V' B c.ty cs)(A:Has V (I cs) c)
(o:∀k v ds,Row k V v ds->Row k V' v ds)(D:∀B' t cs,B'≠B->Bx V B' t cs->Bx V' B' t cs)(y:Bl w V')
(hp:noPoly bs=true\/∀v qs,RowK true V v qs->RowK true V' v qs)(L:c.noPoly=true\/∀v qs,RowK true V v qs->RowK true V' v qs):Mem w V' (bs.set i (some (B,c))):=by
 have n:i<bs.length:=(Ad.1 h).1;obtain⟨_,N⟩:=M.1 i B d h;refine⟨λj B' d1 a=>?_,λj k B' d1 r u x=>?_,y⟩
 . by_cases b:i=j
   . subst b;rw[A6 n]at a;simp at a;obtain⟨rfl,rfl⟩:=a;exact⟨⟨cs,z,A.keep o L⟩,N⟩
   . rw[AW b]at a;obtain⟨⟨q,g,l⟩,P⟩:=M.1 j B' d1 a;have p:B'≠B:=λe=>b (by rw[e]at a;exact M.2.1 i j B d d1 h a);exact⟨⟨q,D _ _ _ p g,l.keep o (hp.imp (λh=>QP h a) id)⟩,P⟩
 . have m:∀(j:Nat) d1,(bs.set i (some (B,c)))[j]?=some (some (B',d1))->∃f,bs[j]?=some (some (B',f)):=λj d1 a=>by
    by_cases b:i=j
    . subst b;rw[A6 n]at a;simp at a;exact⟨d,by rw[h,a.1]⟩
    . rw[AW b]at a;exact⟨d1,a⟩
   obtain⟨f,g⟩:=m j d1 u;obtain⟨s,l⟩:=m k r x;exact M.2.1 j k B' f s g l
theorem Lz(h:Bx V B t cs){o:Nat}(e:cs[o]?=some x0)(n:JB x0=true)(r:Bool)(m:t≠EB r)(x:F)(v:F)(qs:List Rat)(d:RowK r V v qs):RowK r (V.setCell ⟨B,o,Option.none⟩ x) v qs:=by
 obtain⟨a,cap,ev,j,k,l,c⟩:=d;refine⟨a,cap,ev,j,k,l,?_⟩;rcases c with c|⟨b,i,g⟩
 . exact Or.inl c
 . refine Or.inr ⟨b,i,g.keep (BC V ⟨B,o,Option.none⟩ x b ?_) λ_ _ _ d=>Row.set d (cell_of h e) n _⟩;rintro rfl;obtain⟨p,f,_⟩:=g;rw[show V.heap[b]?=_ from h]at f;cases f;exact m rfl
theorem QQ{a:F}(q:Jm V B t x0 a){r:Bool}(b:t≠EB r)(c:JB x0=true)(d:JB a=true)(x y:F):∀v qs,RowK r V v qs->RowK r ((V.setCell ⟨B,0,Option.none⟩ x).setCell ⟨B,1,Option.none⟩ y) v qs:=
 λv qs h=>Lz (cs:=#[x,a]) (q.set0 x) (o:=1) rfl d r b y v qs (Lz (cs:=#[x0,a]) q (o:=0) rfl c r b x v qs h)
theorem keep2(q:Jm V B t x y)(b:JB x=true)(c:JB y=true)(a d:F):∀k v ds,Row k V v ds->Row k ((V.setCell ⟨B,0,Option.none⟩ a).setCell ⟨B,1,Option.none⟩ d) v ds:=
 λ_ _ _ h=>Row.set (Row.set h q.c0 b _) (q.set0 a).c1 c _
theorem Mem.putInt(M:Mem w V bs)(h:bs[i]?=some (some (B,.int m)))(f:Jk V (I #[x,y]) z):
 Mem w ((V.setCell ⟨B,0,Option.none⟩ x).setCell ⟨B,1,Option.none⟩ y) (bs.set i (some (B,.int z))):=by
 obtain⟨s,a,l,c,b,_⟩:=M.int h;obtain⟨_,e⟩:=M.1 i B _ h;exact M.repl h (.int z) (cs:=#[x,y]) ((b.set0 x).set1 y) f (keep2 b rfl rfl x y) (λB' t cs d g=>(g.far (p:=⟨B,0,Option.none⟩) d _).far (p:=⟨B,1,Option.none⟩) d _) ((M.2.2.setCell (p:=⟨B,0,Option.none⟩) e _).setCell (p:=⟨B,1,Option.none⟩) e _) (Or.inr (QQ b DQ rfl rfl x y)) (Or.inl rfl)
theorem Mem.putBig(M:Mem w V bs)(h:bs[i]?=some (some (B,.big m)))(f:Jt V (I #[x,y]) z):
 Mem w ((V.setCell ⟨B,0,Option.none⟩ x).setCell ⟨B,1,Option.none⟩ y) (bs.set i (some (B,.big z))):=by
 obtain⟨a,l,c,s,b,_⟩:=M.big h;obtain⟨_,e⟩:=M.1 i B _ h;exact M.repl h (.big z) (cs:=#[x,y]) ((b.set0 x).set1 y) f (keep2 b rfl rfl x y) (λB' t cs d g=>(g.far (p:=⟨B,0,Option.none⟩) d _).far (p:=⟨B,1,Option.none⟩) d _) ((M.2.2.setCell (p:=⟨B,0,Option.none⟩) e _).setCell (p:=⟨B,1,Option.none⟩) e _) (Or.inr (QQ b DQ rfl rfl x y)) (Or.inl rfl)
theorem far4(x y z u:F):∀B' t cs,B'≠B->Bx V B' t cs->Bx (put4 V B x y z u) B' t cs:=λ_ _ _ a g=>(((g.far (p:=⟨B,0,Option.none⟩) a _).far (p:=⟨B,1,Option.none⟩) a _).far (p:=⟨B,2,Option.none⟩) a _).far (p:=⟨B,3,Option.none⟩) a _
theorem Mem.putRat(M:Mem w V bs){q0:Rat}(h:bs[i]?=some (some (B,.rat q0))){z:F}(b:Jj V (I #[x,y,z,u]) q)(d:noPoly bs=true:=by rfl):
 Mem w (put4 V B x y z u) (bs.set i (some (B,.rat q))):=by
 obtain⟨_,_,_,_,_,_,_,_,a,_⟩:=M.rat h;obtain⟨_,c⟩:=M.1 i B _ h;exact M.repl h (.rat q) (cs:=#[x,y,z,u]) (a.put x y z u) b (λ_ _ _ g=>Row.put4 g a rfl rfl rfl rfl _ _ _ _) (far4 x y z u) (Ju M.2.2 c _ _ _ _) (Or.inl d) (Or.inl rfl)
theorem Mem.zref{w V:E}{bs:List (Option (Nat × Dat))}(M:Mem w V bs){i B:Nat}(h:bs[i]?=some (some (B,.zref))):JM V B 85 (C Option.none 0 0) (G false) (C Option.none 0 0) (G false):=by
 obtain⟨⟨cs,a,b⟩,_⟩:=M.1 i B _ h;cases(show Value.agg cs=_ from b);exact a
theorem Has.set2{v:F}(h:Has V v d)(q:Jm V B t x y)(e:JB x=true)(f:JB y=true)(a b:F)(c:d.noPoly=true:=by rfl):Has ((V.setCell ⟨B,0,Option.none⟩ a).setCell ⟨B,1,Option.none⟩ b) v d:=h.keep (keep2 q e f a b) (Or.inl c)
theorem Has.put4{V:E}{v:F}{d:Dat}(h:Has V v d){B:Nat}{t:TypeId}{x y z u:F}(q:JM V B t x y z u)(b:JB x=true)(c:JB y=true)(e:JB z=true)(f:JB u=true)(j k l i:F)(a:d.noPoly=true:=by rfl):Has (Go.Proofs.YteldjhhjnchdeaaGreatDoor.put4 V B j k l i) v d:=h.keep (λ_ _ _ g=>Row.put4 g q b c e f _ _ _ _) (Or.inl a)
theorem Mem.ne(M:Mem w V bs)(i j:Nat){B':Nat}{a:Dat}(h:bs[i]?=some (some (B,d)))(b:bs[j]?=some (some (B',a)))(c:i≠j):B≠B':=λe=>by
 subst e;exact c (M.2.1 i j B d a h b)
theorem Mem.ge(M:Mem w V bs)(i:Nat)(h:bs[i]?=some (some (B,d))):w.heap.size<=B:=(M.1 i B d h).2
def Tup2(V:E)(t:F)(d1 a:Dat):Prop:=∃u1 u2,t=.tuple #[u1,u2,G true]/\Has V u1 d1/\Has V u2 a
theorem Tup2.below{V V':E}{t:F}{d1 a:Dat}(h:Tup2 V t d1 a)(b:Bl V V'):Tup2 V' t d1 a:=by
 obtain⟨u1,u2,e,c,d⟩:=h;exact⟨u1,u2,e,c.below b,d.below b⟩
theorem Tup2.alloc{V:E}{t:F}{d1 a:Dat}(h:Tup2 V t d1 a)(o:Obj):Tup2 (V.alloc o) t d1 a:=by
 obtain⟨u1,u2,e,b,c⟩:=h;exact⟨u1,u2,e,b.alloc o,c.alloc o⟩
theorem Tup2.set2{V:E}{v:F}{d1 a:Dat}(h:Tup2 V v d1 a){B:Nat}{t:TypeId}{x y:F}(q:Jm V B t x y)(d:JB x=true)(f:JB y=true)(b c:F)(j:d1.noPoly=true:=by rfl)(k:a.noPoly=true:=by rfl):Tup2 ((V.setCell ⟨B,0,Option.none⟩ b).setCell ⟨B,1,Option.none⟩ c) v d1 a:=by
 obtain⟨u1,u2,e,g,i⟩:=h;exact⟨u1,u2,e,g.set2 q d f b c j,i.set2 q d f b c k⟩
theorem Mem.rats{w V:E}{bs:List (Option (Nat × Dat))}(M:Mem w V bs){i B:Nat}{qs:List Rat}(h:bs[i]?=some (some (B,.rats qs))):Dt true V B qs:=by
 obtain⟨⟨cs,b,a⟩,_⟩:=M.1 i B _ h;obtain⟨c,e,a⟩:=a;cases e;exact⟨cs,b,a⟩
theorem Mem.putRats(M:Mem w V bs)(h:bs[i]?=some (some (B,.rats qs))){j:Nat}(o:j<qs.length){z:F}(N:Jj V (I #[x,y,z,u]) q)(R:noPoly bs=true:=by rfl):
 Mem w (putAt V B (j*4) x y z u) (bs.set i (some (B,.rats (qs.set j q)))):=by
 have n:=M.rats h;obtain⟨_,p⟩:=M.1 i B _ h;obtain⟨cs,c1,c2⟩:=Dt.set (r:=true) n o N;have P:=n.putKeep o x y z u;have m:i<bs.length:=(Ad.1 h).1;refine⟨λb B' d1 a=>?_,λb k B' d1 v D L=>?_,QN M.2.2 p _ _ _ _⟩
 . by_cases c:i=b
   . subst c;rw[A6 m]at a;simp at a;obtain⟨rfl,rfl⟩:=a;exact⟨⟨cs,c1,cs,rfl,c2⟩,p⟩
   . rw[AW c]at a;obtain⟨⟨t,f,g⟩,Q⟩:=M.1 b B' d1 a;have s:B'≠B:=λe=>c (by rw[e]at a;exact M.2.1 i b B _ d1 h a);exact⟨⟨t,(Ky s x y z u).trans f,g.keep P (Or.inl (QP R a))⟩,Q⟩
 . have l:∀(b:Nat) d1,(bs.set i (some (B,.rats (qs.set j q))))[b]?=some (some (B',d1))->∃d,bs[b]?=some (some (B',d)):=λb d1 a=>by
    by_cases c:i=b
    . subst c;rw[A6 m]at a;simp at a;exact⟨_,by rw[h,a.1]⟩
    . rw[AW c]at a;exact⟨d1,a⟩
   obtain⟨d,f⟩:=l b d1 D;obtain⟨A,g⟩:=l k v L;exact M.2.1 b k B' d A f g
theorem Mem.cell{w V:E}{bs:List (Option (Nat × Dat))}(M:Mem w V bs){i B:Nat}{t:TypeId}{v:F}(h:bs[i]?=some (some (B,.cell t v))):Boxed V B t v/\JB v=true:=by
 obtain⟨⟨cs,b,a⟩,_⟩:=M.1 i B _ h;obtain⟨e,a⟩:=a;cases e;exact⟨b,a⟩
theorem Mem.poly{w V:E}{bs:List (Option (Nat × Dat))}(M:Mem w V bs){i B:Nat}{ps:List Rat}(h:bs[i]?=some (some (B,.poly ps))):∃a l c,Boxed V B 25 (C a l c)/\RowK true V (C a l c) ps:=by
 obtain⟨⟨cs,d,b⟩,_⟩:=M.1 i B _ h;obtain⟨a,l,c,e⟩:=Jf.form b;cases e;exact⟨a,l,c,d,Jf.row b⟩
theorem QR(q:Boxed V B t x)(a:JB x=true)(b:F):∀k v ds,Row k V v ds->Row k (V.setCell ⟨B,0,Option.none⟩ b) v ds:=
 λ_ _ _ h=>Row.set h q.cell a _
theorem Mem.putPoly(M:Mem w V bs){k:List Rat}(h:bs[i]?=some (some (B,.poly k))){ps:List Rat}(e:Jf V (I #[x]) ps):
 Mem w (V.setCell ⟨B,0,Option.none⟩ x) (bs.set i (some (B,.poly ps))):=by
 obtain⟨a,l,c,b,_⟩:=M.poly h;obtain⟨_,j⟩:=M.1 i B _ h;have d:∀v qs,RowK true V v qs->RowK true (V.setCell ⟨B,0,Option.none⟩ x) v qs:=Lz (cs:=#[C a l c]) b (o:=0) rfl rfl true DQ x;exact M.repl h (.poly ps) (cs:=#[x]) (b.set x) e (QR b rfl x) (λB' t cs f g=>g.far (p:=⟨B,0,Option.none⟩) f _) (M.2.2.setCell (p:=⟨B,0,Option.none⟩) j _) (Or.inr d) (Or.inr d)
theorem Mem.adopt(M:Mem w V bs)(l:Bl V V'){g:Nat}(n:V.heap.size<=g)(m:Dt true V' g qs):Mem w V' (bs++[some (g,.rats qs)]):=by
 have e:=M.below l;have f:∀(j:Nat) B d,bs[j]?=some (some (B,d))->B<V.heap.size:=λj B d h=>by
  obtain⟨⟨_,a,_⟩,_⟩:=M.1 j B d h;exact a.lt
 have c:∀(j:Nat) x,(bs++[some (g,Dat.rats qs)])[j]?=some (some x)->bs[j]?=some (some x)\/(j=bs.length/\x=(g,.rats qs)):=λj x h=>by
  by_cases o:j<bs.length
  . rw[AJ o]at h;exact Or.inl h
  . rw[AC J]at h;obtain⟨k,p⟩:=ex (j-bs.length);rw[p]at h;cases k with
    |zero=>simp at h;exact Or.inr ⟨J,h.symm⟩
    |succ k=>simp at h
 refine⟨λj B d h=>?_,λj k B d1 i a b=>?_,e.2.2⟩
 . rcases c j _ h with h|⟨_,h⟩
   . exact e.1 j B d h
   . cases h;obtain⟨cs,c1,c2⟩:=m;exact⟨⟨cs,c1,cs,rfl,c2⟩,Ar M.2.2.size n⟩
 . rcases c j _ a with a|⟨q,a⟩<;>rcases c k _ b with b|⟨r,b⟩
   . exact M.2.1 j k B d1 i a b
   . cases b;have:=f j _ _ a;omega
   . cases a;have:=f k _ _ b;omega
   . omega
end M3
def EC(W:E)(b:Nat)(xs:List Nat):Prop:=∃a:List F,W.heap[b]?=some (H (cellsOf .i64 xs++a).toArray 3 (0,0))
variable{a:Act}{f:Array Oper}{Q:Exit->Act->E->Prop}{D bs d xs:List Nat}{b c i k:Nat}{o:Oper}{P:Program}{W W' w:E}
theorem EC.lt(h:EC W b xs):b<W.heap.size:=by obtain⟨_,h⟩:=h;exact(Ab.1 h).1
theorem EC.cell{W:E}{b:Nat}{xs:List Nat}(h:EC W b xs){j:Nat}(a:j<xs.length):W.cell? ⟨b,j,none⟩=some (.int .i64 (xs[j]?.getD 0:Nat)):=by
 obtain⟨c,h⟩:=h;have e:(cellsOf .i64 xs++c)[j]?=some (.int .i64 (xs[j]?.getD 0:Nat)):=by
  rw[AJ (by rw[Yq];exact a)];simp[cellsOf,List.getElem?_eq_getElem a]
 simp[World.cell?,h,e]
theorem EC.frozen{W:E}{b:Nat}{xs:List Nat}(h:EC W b xs)(j:Nat):W.frozen? ⟨b,j,none⟩=false:=by obtain⟨_,h⟩:=h;simp[World.frozen?,h]
theorem EC.of_block(h:EC W b xs)(e:W'.heap[b]?=W.heap[b]?):EC W' b xs:=by obtain⟨a,h⟩:=h;exact⟨a,e.trans h⟩
theorem EC.below(h:EC W b xs)(a:Bl W W'):EC W' b xs:=h.of_block (a.block b h.lt)
theorem EC.set{W:E}{b:Nat}{xs:List Nat}(h:EC W b xs)(j v:Nat):EC (W.setCell ⟨b,j,none⟩ (.int .i64 (v:Nat))) b (xs.set j v):=by
 obtain⟨d,h⟩:=h;obtain⟨g,f⟩:=Ab.1 h;have e:∃c,(cellsOf .i64 xs++d).set j (.int .i64 (v:Nat))=cellsOf .i64 (xs.set j v)++c:=by
  rcases AO j xs.length with a|a
  . exact⟨d,by rw[FM _ _ (by rw[Yq];exact a)];simp[cellsOf,List.map_set]⟩
  . exact⟨_,by rw[Cz _ _ (by rw[Yq];exact a),CZ a]⟩
 obtain⟨c,e⟩:=e;refine⟨c,?_⟩;show(W.heap.modify b _)[b]?=_;rw[A9 (by rw[CJ];exact g),Ci,f,<-e];simp
theorem EC.made(h:W.heap[b]?=some (H (cellsOf .i64 xs).toArray 3 (0,0))):EC W b xs:=⟨[],by rw[Cl];exact h⟩
theorem EC.row(h:EC W b xs)(off len cap:Nat)(d:off+len<=xs.length)(f:len<=cap)(c:cap<=9223372036854775807)(g:len<=1099511627776):Row .i64 W (C (some ⟨b,off,none⟩) len cap) ((xs.drop off).take len):=by
 have e:((xs.drop off).take len).length=len:=by rw[Am,AV];omega
 refine⟨_,cap,by rw[e],J,c,J,Or.inr ⟨b,off,rfl,(by obtain⟨i,h⟩:=h;exact⟨_,_,h⟩),λj a=>?_⟩⟩;rw[e]at a;rw[h.cell J,AH a,CM]
theorem ZZ(n:Nat):madeCells #[.int .i64 0] n=(cellsOf .i64 (List.replicate n 0)).toArray:=by
 apply Array.ext
 . simp[madeCells,cellsOf]
 . intro i a b;simp[madeCells,cellsOf,Nat.mod_one]
theorem QS(n:Nat)(h:n<=2199023255552)(w:E):(Instr.makeSlice 81 (.int .i64 (n:Int)) (.int .i64 (n:Int))).run K w=.ok (C (some ⟨w.heap.size,0,none⟩) n n) (w.alloc (H (cellsOf .i64 (List.replicate n 0)).toArray 3)):=by
 rw[<-ZZ];exact run_make_row' 81 3 (.int .i64 0) 8 Tryz.underlying81 Tryz.infoInt rfl .i64 .i64 n J J w
theorem N1(B:Nat):∀(D:List Nat) (j d:Nat),j<D.length->val B (D.set j d)+B^j*D[j]?.getD 0=val B D+B^j*d
 |[],_,_,h=>by cases h
 |x::D,0,d,_=>by simp[val];omega
 |x::D,j+1,d,h=>by
  have a:=N1 B D j d (by simpa using h);simp only[List.set_cons_succ,val,Ae,AQ];have e:B*val B (D.set j d)+B*(B^j*D[j]?.getD 0)=B*val B D+B*(B^j*d):=by rw[<-Ax,a,Ax]
  have b:B^j*B*D[j]?.getD 0=B*(B^j*D[j]?.getD 0):=by rw[As (B^j) B,Az]
  have c:B^j*B*d=B*(B^j*d):=by rw[As (B^j) B,Az]
  omega
theorem QT(B n:Nat):val B (List.replicate n 0)=0:=by
 induction n with
 |zero=>rfl
 |succ n a=>rw[C8,val,a];simp
theorem DS.set{B:Nat}{D:List Nat}(h:DS B D)(j:Nat){d:Nat}(b:d<B):DS B (D.set j d):=λx c=>by
 rcases List.mem_or_eq_of_mem_set c with a|a
 . exact h x a
 . rw[a];exact b
def Hc(a bs:List Nat)(i:Nat)(D:List Nat):Prop:=
 D.length=a.length+bs.length+1/\DS 10000 D/\val 10000 D=val 10000 (a.take i)*val 10000 bs
def Gp(a bs:List Nat)(i k c:Nat)(D:List Nat):Prop:=
 D.length=a.length+bs.length+1/\DS 10000 D/\c<10000/\
  val 10000 D+10000^(i+k)*c=val 10000 (a.take i)*val 10000 bs+10000^i*(a[i]?.getD 0*val 10000 (bs.take k))
theorem Hc.start(a bs:List Nat):Hc a bs 0 (List.replicate (a.length+bs.length+1) 0):=
 ⟨Au,λx b=>by rw[CH b];omega,by rw[QT];simp[val]⟩
theorem Hc.inner(h:Hc d bs i D):Gp d bs i 0 0 D:=by
 obtain⟨a,b,c⟩:=h;refine⟨a,b,J,?_⟩;rw[c];simp[val]
theorem Gp.total(h:Gp d bs i k c D)(b:bs.length<=k):val 10000 D+10000^(i+k)*c=val 10000 (d.take (i+1))*val 10000 bs:=by
 obtain⟨_,_,_,a⟩:=h;rw[a,Ac b,Jr,Ay,Az]
theorem Gp.done(h:Gp d bs i k 0 D)(a:bs.length<=k):Hc d bs (i+1) D:=by
 have:=h.total a;exact⟨h.1,h.2.1,J⟩
theorem Gp.over(h:Gp d bs i k c D)(g:DS 10000 d)(j:DS 10000 bs)(n:i<d.length)(o:bs.length<k):c=0:=by
 have l:=h.total J;have b:=Yl (g.take (i+1));have e:=Yl j;rw[Am,CF J]at b;have f:val 10000 (d.take (i+1))*val 10000 bs<10000^(i+1)*10000^bs.length:=Nat.mul_lt_mul'' b e;rw[<-CI]at f;have m:10000^(i+1+bs.length)<=10000^(i+k):=Aw J J;rcases AY c with a|a
 . exact a
 . have:=Av (10000^(i+k)) a;omega
theorem Gp.step(h:Gp d bs i k c D)(l:DS 10000 d)(m:DS 10000 bs)(n:i+k<D.length)(c1:Nat)(b:c1=c+D[i+k]?.getD 0+d[i]?.getD 0*bs[k]?.getD 0):
 Gp d bs i (k+1) (c1/10000) (D.set (i+k) (c1%10000)):=by
 obtain⟨g,a,o,p⟩:=h;have x1:=l.getD J i;have q:=m.getD J k;have r:=a.getD J (i+k);have s:d[i]?.getD 0*bs[k]?.getD 0<=9999*9999:=CC J J;refine⟨by rw[Cs];exact g,a.set _ (A7 _ J),J,?_⟩;have j:=N1 10000 D (i+k) (c1%10000) n;rw[Jr,Ax,Ax];have e:10000^(i+(k+1))*(c1/10000)+10000^(i+k)*(c1%10000)=10000^(i+k)*c1:=by
  rw[<-CO,AQ,Az,<-Ax,Cb]
 have f:10000^i*(d[i]?.getD 0*(10000^k*bs[k]?.getD 0))=10000^(i+k)*(d[i]?.getD 0*bs[k]?.getD 0):=by
  rw[CI,Az];congr 1;rw[Nat.mul_left_comm]
 rw[b,Ax,Ax]at e;rw[f];rw[b]at j ⊢;omega
theorem Hc.fin{m n:Nat}(h:Hc d bs d.length D)(c:d=Jc 10000 m)(e:bs=Jc 10000 n):Jy D=Jc 10000 (m*n):=by
 obtain⟨_,b,a⟩:=h;rw[Ac (Aa _)]at a;rw[<-J9 J b,a,c,e,Jp J,Jp J]
theorem Jm.keptG{B:Nat}{t:TypeId}{x y:F}{g:Nat}(h:Jm W B t x y)(a:W.grownBy W' (some g))(b:B≠g):Jm W' B t x y:=
 (a.block B h.lt λe=>b (by cases e;rfl)).trans h
theorem Zd{x y:Nat}(a:x<10000)(b:y<10000):x*y<=99980001/\IntKind.i64.wrap ((x:Int)*(y:Int))=((x*y:Nat):Int):=by
 have h:x*y<=9999*9999:=CC J J;refine⟨J,?_⟩;have e:(x:Int)*(y:Int)=((x*y:Nat):Int):=by rw[Fb]
 rw[e];generalize x*y=p at *;simp[IntKind.wrap,IntKind.signed,IntKind.bits];omega
theorem Ze(a b:Option Addr)(la lb ca cb m n:Nat)(s t:Bool)(w:E)(ra:RN w (C a la ca) m)(rb:RN w (C b lb cb) n)(bj:la<=400000000000)(bk:lb<=400000000000):
 Calls K 82 #[I #[C a la ca,G s],I #[C b lb cb,G t]] w λe Q=>∃c lc cc,e=.returned (I #[C c lc cc,G ((s != t)&&decide (0<lc))])/\RN Q (C c lc cc) (m*n)/\Bl w Q:=by
 obtain⟨W0,z⟩:=ex (((w.alloc (H #[C a la ca,G s] 83)).alloc (H #[C b lb cb,G t] 83)).alloc (H #[C none 0 0,G false] 83));have Qk:Bl w W0:=by rw[<-z];exact Xv w _ _ _
 have b0:Jm W0 w.heap.size 83 (C a la ca) (G s):=by rw[<-z];exact((Jm.new w _ _ _).alloc _).alloc _
 have b1:Jm W0 (w.heap.size+1) 83 (C b lb cb) (G t):=by
  have h:=(Jm.new (w.alloc (H #[C a la ca,G s] 83)) 83 (C b lb cb) (G t)).alloc (H #[C none 0 0,G false] 83);rw[A1,z]at h;exact h
 have bR:Jm W0 (w.heap.size+1+1) 83 (C none 0 0) (G false):=by
  have h:=Jm.new ((w.alloc (H #[C a la ca,G s] 83)).alloc (H #[C b lb cb,G t] 83)) 83 (C none 0 0) (G false);rw[A1,A1,z]at h;exact h
 have Ql:W0.heap.size=w.heap.size+3:=by rw[<-z];simp
 obtain⟨ad,az,bm,bg,ak⟩:=Jw ra;obtain⟨ae,bc,bn,bh,am⟩:=Jw rb;have HF:=O λD (h:Hc (Jc 10000 m) (Jc 10000 n) (Jc 10000 m).length D)=>h.fin (m:=m) (n:=n) rfl rfl;have U:=Jq (B:=10000) J m;have V:=Jq (B:=10000) J n;have R:=QS (la+lb+1) J W0;rw[show((la+lb+1:Nat):Int)=(la:Int)+(lb:Int)+1 from by omega]at R;obtain⟨l,q⟩:=ex (W0.alloc (H (cellsOf .i64 (List.replicate (la+lb+1) 0)).toArray 3));rw[q]at R;obtain⟨g,hg⟩:∃g,g=W0.heap.size:=⟨_,rfl⟩;rw[<-hg]at R Ql;have Qh:EC l g (List.replicate (la+lb+1) 0):=by rw[<-q,hg];exact EC.made (BD W0 _)
 have L:Bl w l:=by rw[<-q];exact Qk.alloc Qk.size _
 have q0:Jm l w.heap.size 83 (C a la ca) (G s):=by rw[<-q];exact b0.alloc _
 have q1:Jm l (w.heap.size+1) 83 (C b lb cb) (G t):=by rw[<-q];exact b1.alloc _
 have qR:Jm l (w.heap.size+1+1) 83 (C none 0 0) (G false):=by rw[<-q];exact bR.alloc _
 have k0:=b0.c0;have k1:=b1.c0;have X:=O (Hc.start (Jc 10000 m) (Jc 10000 n));generalize Jc 10000 m=T at *;generalize Jc 10000 n=P at *;obtain⟨H1,H2,S,M⟩:=D0 ak am ad ae;rw[<-ad,<-ae]at X;have bf:w.heap.size+2<g:=J
 clear Ql;clear ak am ad ae ra rb q hg b0 b1 bR;go_enter Tryz.func82,Tryz.ntmps82
 go_wp2;clear z R k0 k1;go_loopw [6] (λiv wr=>∃(i:Nat) (D:List Nat),iv=.int .i64 i/\i<=la/\Hid (Hc T P i D)/\EC wr g D/\l.grownBy wr (some g))
  (λiv _=>la-(intOf iv).toNat)
 case atStart=>exact⟨0,_,rfl,AK _,X.o,Qh,YM _ _⟩
 case round=>
  clear X Qh;obtain⟨i,D,rfl,hi,A,j,f⟩:=hrel;have m0:=(q0.keptG f J).c0;have m1:=(q0.keptG f J).c1;have m2:=(q1.keptG f J).c0;have m3:=(q1.keptG f J).c1;by_cases an:i<la
  . have HI:=O A.o.inner;clear A;obtain⟨ab,ao,rfl,aq,ai⟩:=H1.o i an;go_wp2;go_loopw [7,8] (λcv kv wr=>∃(c k:Nat) (D:List Nat),cv=.int .i64 c/\kv=.int .i64 k/\k<=lb+1/\c<10000/\Hid (Gp T P i k c D)/\EC wr g D/\l.grownBy wr (some g))
     (λ_ kv _=>lb+2-(intOf kv).toNat)
    case atStart=>exact⟨0,0,D,rfl,rfl,J,J,HI,j,f⟩
    case round=>
     clear HI j f m0 m1 m2 m3;obtain⟨c,k,D,rfl,rfl,hk,hc,o,j,f⟩:=hrel;have m0:=(q0.keptG f J).c0;have m2:=(q1.keptG f J).c0;have Qf:=o.o.1;rw[<-S.o,<-M.o]at Qf;by_cases ay:k<lb
     . obtain⟨bb,bo,rfl,aw,aj⟩:=H2.o k ay;have bt:wr.cell? ⟨ab,ao+i,none⟩=some (.int .i64 (T[i]?.getD 0:Nat)):=(BO (w:=l) (f.block ab (by have:=L.size;omega) λe=>by cases e;omega)).trans ((L.cell (p:=⟨ab,ao+i,none⟩) aq).trans ai);have bu:wr.cell? ⟨bb,bo+k,none⟩=some (.int .i64 (P[k]?.getD 0:Nat)):=(BO (w:=l) (f.block bb (by have:=L.size;omega) λe=>by cases e;omega)).trans ((L.cell (p:=⟨bb,bo+k,none⟩) aw).trans aj);have Qm:wr.cell? ⟨g,i+k,none⟩=some (.int .i64 (D[i+k]?.getD 0:Nat)):=j.cell J;have Qn:=j.frozen (i+k);have y1:=U.getD J i;have y2:=V.getD J k;have y3:=o.o.2.1.getD J (i+k);have r:=O (o.o.step U V J _ rfl);obtain⟨z1,z2⟩:=Zd y1 y2;generalize T[i]?.getD 0=x at *;generalize P[k]?.getD 0=y at *;generalize D[i+k]?.getD 0=d at *;generalize x*y=p at *;clear ai aj;go_upto_region 11 with fail
       go_quiet (fail)
       go_wp2;have e2:((c:Int)+(d:Int)+(p:Int))%10000=(((c+d+p)%10000:Nat):Int):=J
       rw[e2];exact⟨⟨(c+d+p)/10000,k+1,D.set (i+k) ((c+d+p)%10000),by go_num,Y,J,r.o.2.2.1,r,EC.set (W:=wr.drewN nq) j _ _,Ji (B:=wr.drewN nq) ⟨f.os,f.tape,f.output,f.size,f.block⟩ (JE _ _ _ _)⟩,by simp[intOf];omega⟩
     . rcases AY c with ah|ah
       . subst ah;have HN:=O (o.o.done (by rw[<-M.o];omega));clear o;go_wp2;exact⟨⟨i+1,D,Y,J,HN,j,f⟩,by simp[intOf];omega⟩
       . have bi:k<=lb:=by
          rcases AO lb k with h|h
          . have:=o.o.over U V (by rw[<-S.o];exact an) (by rw[<-M.o];exact h);omega
          . exact h
         have Qm:wr.cell? ⟨g,i+k,none⟩=some (.int .i64 (D[i+k]?.getD 0:Nat)):=j.cell J;have Qn:=j.frozen (i+k);have y3:=o.o.2.1.getD J (i+k);have Qi:P[k]?.getD 0=0:=by rw[At (by rw[<-M.o];omega)];rfl
         have r:=O (o.o.step U V J _ rfl);rw[Qi,Cv,Ch]at r;clear Qi;generalize D[i+k]?.getD 0=d at *;go_wp2;have e2:((c:Int)+(d:Int))%10000=(((c+d)%10000:Nat):Int):=J
         rw[e2];exact⟨⟨(c+d)/10000,k+1,D.set (i+k) ((c+d)%10000),by go_num,Y,J,r.o.2.2.1,r,EC.set j _ _,Ji f (JE _ _ _ _)⟩,by simp[intOf];omega⟩
  . obtain rfl:i=la:=J
    have Qg:Row .i64 wr (C (some ⟨g,0,none⟩) (i+lb+1) (i+lb+1)) D:=by
     have Qf:=A.o.1;rw[<-S.o,<-M.o]at Qf;have h1:=j.row 0 (i+lb+1) (i+lb+1) J (Aa _) J J;rwa[AE,Ac J]at h1
    have Qo:=O (HF.o D (by rw[<-S.o];exact A.o));have Qj:Bl w wr:=below_grown L f J;have rR:=qR.keptG f J;have p0:=q0.keptG f J;have p1:=q1.keptG f J;clear A HF H1 H2;go_upto_region 14 with fail
    have hq:Bl wr wr.drew:=(BB _ wr).drew;have ce:¬(w.heap.size=w.heap.size+1+1):=J
    go_region_held3 (λQ=>Q.cell? ⟨w.heap.size,1,none⟩=some (G s)/\Q.cell? ⟨w.heap.size+1,1,none⟩=some (G t)) (refine⟨?_,?_⟩<;>(first|(go_keep;done)|((repeat rw[JH J]);simp[*];done)))
     (first
      |(go_at_call 116;refine(NL _ D _ (Row.below Qg hq)).mono ?_;rintro e w1 ⟨u,rfl,N,rfl⟩;rw[Qo.o]at N;obtain⟨a',c',rfl⟩:=RN.form N)
      |(go_at_call 112;refine(Ih _ _ _ _ _).mono ?_;rintro e w2 ⟨rfl,af⟩;have N:=Row.below N af;have hq:=Bt hq af;have m1:=(p0.below hq).c1;have m3:=(p1.below hq).c1;obtain⟨r0,r1⟩:=(rR.below hq).cp;obtain⟨f0,f1⟩:=(rR.below hq).fp))
    all_goals go_wp2_with fail
    obtain⟨hr,ap⟩:=YT (C a' (Jc 10000 (m*n)).length c') (G (!(s==t)&&decide (0<(Jc 10000 (m*n)).length))) (Bt Qj hq) J (rR.below hq) rfl rfl N;exact BA (v:=I #[C a' (Jc 10000 (m*n)).length c',G (!(s==t)&&decide (0<(Jc 10000 (m*n)).length))]) (by simp[results,Tryz.results82,go_sem,r0,r1]) rfl ⟨_,_,_,rfl,hr,ap⟩
theorem X7(n o:F)(x y:Int)(w:E)(v:Jt w n x)(z:Jt w o y)(A:EM x<=400000000000)(B:EM y<=400000000000):
 Calls K 82 #[n,o] w λe j=>∃u,e=.returned u/\Jt j u (x*y)/\Bl w j:=by
 obtain⟨a,la,ca,rfl,l⟩:=v;obtain⟨b,lb,cb,rfl,m⟩:=z;have D:=(Jw l).1;have L:=(Jw m).1;unfold EM at A B;refine(Ze a b la lb ca cb _ _ _ _ w l m J J).mono ?_;rintro e j ⟨c,i,p,rfl,k,t⟩;refine⟨_,rfl,⟨c,i,p,?_,?_⟩,t⟩
 . have hl:=(Jw k).1;have q:((decide (x<0) != decide (y<0))&&decide (0<i))=decide (x*y<0):=by
    rw[Cr];simp only[AM,BR];have r:0<i↔x.natAbs*y.natAbs≠0:=by
     rw[hl,Al,Ne,JD J]
    rw[r];rcases FI x 0 with d|d|d<;>rcases FI y 0 with f|f|f
    . have:=Int.mul_pos_of_neg_of_neg d f;simp[d,f];omega
    . subst f;simp
    . have:=Int.mul_neg_of_neg_of_pos d f;have g:¬y<0:=J
      simp only[d,g,DI,DA,this,iff_true];exact⟨rfl,FQ J J⟩
    . subst d;simp
    . subst d;simp
    . subst d;simp
    . have:=Int.mul_neg_of_pos_of_neg d f;have g:¬x<0:=J
      simp only[f,g,DI,DA,this,iff_true];exact⟨rfl,FQ J J⟩
    . subst f;simp
    . have:=Int.mul_pos d f;have g:¬x<0:=J
      have s:¬y<0:=J
      simp[g,s];omega
   rw[q]
 . rw[CY];exact k
theorem L0{n:Int}(a:-9223372036854775808<=n)(b:n<=9223372036854775807):EM n<=400000000000:=by
 have c:=JK (B:=10000) J (n:=n.natAbs) (k:=5) J;unfold EM;omega
theorem Ya{K:Act->E->Prop}(c:f[i]?=some o)(d:Region.wanted o (yielded f a.tmps)=true)
(h:∀b:Act->E->Prop,(∀a w,K a w->b a w)->o.wp P a w b Q):wpOp P f Q i K a w:=by
 unfold wpOp;rw[c];simp only[d,if_true];exact Or.inl (h K λ_ _ h=>h)
theorem El{p q:Prop}(k:q)(h:Hid q->p:=by intro x;refine Ya rfl rfl λK a=>?_;go_simp;refine a _ _ ?_;(repeat apply Exists.intro);refine ⟨rfl,?_⟩;exact x.o):p:=h k
theorem Yo{K:Act->E->Prop}(b:f[i]?=some o)(c:Region.wanted o (yielded f a.tmps)=false)
(h:K (a.put o.dst undef) w):wpOp P f Q i K a w:=by
 unfold wpOp;rw[b];simp only[c];exact h

