import Derived.Test.YteldjhhjnchdeaaGreatDoorW20
import Derived.Test.YteldjhhjnchdeaaGreatDoorW15
import Derived.Test.YteldjhhjnchdeaaGreatDoorW16
import Derived.Test.YteldjhhjnchdeaaGreatDoorW06
import Derived.Lib.SliceRun
import Derived.Deep.OwnRows
import Derived.Test.YteldjhhjnchdeaaGreatDoorW23
open Go renaming World->D,Value->E
open Go.Value renaming slice->C,bool->F,agg->H
open Go.Obj renaming cells->G
set_option maxRecDepth 100000
set_option maxHeartbeats 16000000
namespace Go.Proofs.YteldjhhjnchdeaaGreatDoor
open Go.RowKit Go.Shelf
section
variable{z:Int}{v:E}{W:D}
theorem VE(a:Option Addr)(cap:Nat)(w:D):
 Calls Tryz.prog 107 #[H #[F false,C a 0 cap]] w λe b=>e=.returned (.string ⟨#[48]⟩)/\Bl w b:=by
 have b0:=Jq.new w 63 (F false) (C a 0 cap);have c:=b0.c1;go_enter Tryz.func107,Tryz.ntmps107
 go_wp2;go_ret;exact⟨rfl,Ba w _⟩
theorem VF(s:Bool)(a:Option Addr)(l cap:Nat)(T:ByteArray)(w:D)(hl:0<l)(i:T.size<=100000000000000)
(c:∀V,Bl w V->Calls Tryz.prog 134 #[C a l cap] V λe b=>e=.returned (.string T)/\Bl V b):
 Calls Tryz.prog 107 #[H #[F s,C a l cap]] w λe b=>e=.returned (.string (if s then(⟨#[45]⟩:ByteArray)++T else T))/\Bl w b:=by
 have b0:=Jq.new w 63 (F s) (C a l cap);have d:Bl w (w.alloc (G #[F s,C a l cap] 63)):=Ba w _;obtain⟨j,k⟩:=b0.cp;have f:=Z c;clear c;cases s;all_goals
  go_enter Tryz.func107,Tryz.ntmps107
  go_wp2_with(go_at_call 134;refine(f.o _ d).mono ?_;rintro e m ⟨rfl,g⟩)
  go_ret;exact⟨O,Bt d g⟩
theorem Iw(n:Nat):(X0 n).length<=20*(Jg J n).length+1:=by
 unfold X0;split
 . simp
 . rw[Nt];have a:n<J^(Jg J n).length:=by
    have:=Yv (Ju Jf n);rwa[Js Jf]at this
   have b:J^(Jg J n).length<=10^(20*(Jg J n).length):=by
    rw[FK];exact CN uo _
   have:=JX (B:=10) Y (AC a b);omega
theorem MX(v:E)(z:Int)(w:D)(h:Jk w v z)(m:Lib.TabIs Tryz.prog w "internal/strconv.uint64pow10" .u64 Lib.pow10Tab):
 Calls Tryz.prog 107 #[v] w λe g=>e=.returned (.string ⟨(X8 z).toArray⟩)/\Bl w g:=by
 obtain⟨a,l,cap,rfl,c⟩:=h;have hl:=c.len;by_cases d:z.natAbs=0
 . have b:z=0:=Y
   subst b;have j:l=0:=by rw[hl];simp[JF]
   subst j;exact VE a cap w
 . have i:0<l:=by rw[hl];exact Lw.2 d
   refine(VF _ a l cap ⟨(X0 z.natAbs).toArray⟩ w i (by
    have n:=Iw z.natAbs;have o:=(JA c).2.2.2.1;show(X0 z.natAbs).toArray.size<=_;rw[Ar];omega) λV f=>UQ a l cap z.natAbs V (Row.below c f) d (JT m f)).mono ?_
   rintro e g ⟨rfl,k⟩;refine⟨?_,k⟩;congr 2;unfold X8;by_cases b:z<0
   . simp only[b,DJ,if_true];exact SY _ _
   . simp only[b,DG,if_false,Cm]
attribute [local go_sem] Oper.semAt_some
theorem Jk.form(h:Jk W v z):∃a l cap,v=H #[F (decide (z<0)),C a l cap]:=by
 obtain⟨a,l,cap,e,_⟩:=h;exact⟨a,l,cap,e⟩
theorem Jk.alloc{W:D}{v:E}{z:Int}(h:Jk W v z)(o:Obj):Jk (W.alloc o) v z:=h.below (Ba W o)
theorem Jk.box{R:Nat}{t:TypeId}{u0 u1 x0 x1:E}(h:Jk W v z)(q:Jq W R t u0 u1)(c:JG u0=true)(d:JG u1=true):Jk ((W.setCell ⟨R,0,none⟩ x0).setCell ⟨R,1,none⟩ x1) v z:=by
 obtain⟨a,l,cap,e,b⟩:=h;exact⟨a,l,cap,e,Row.set (Row.set b q.c0 c _) (u0:=u1) (q.set0 x0).c1 d _⟩
end
section
def JN(W:D)(B:Nat)(t:TypeId)(x y z u:E):Prop:=W.heap[B]?=some (G #[x,y,z,u] t (0,0))
section
variable {W W':World} {B:Nat} {t:TypeId} {x y z u:Value}
theorem JN.lt(h:JN W B t x y z u):B<W.heap.size:=(Ae.1 h).1
theorem JN.c0(h:JN W B t x y z u):W.cell? ⟨B,0,none⟩=some x:=by simp[World.cell?,show W.heap[B]?=_ from h]
theorem JN.c1(h:JN W B t x y z u):W.cell? ⟨B,1,none⟩=some y:=by simp[World.cell?,show W.heap[B]?=_ from h]
theorem JN.cp(h:JN W B t x y z u):type_of% (And.intro h.c0 h.c1):=⟨h.c0,h.c1⟩
theorem JN.c2(h:JN W B t x y z u):W.cell? ⟨B,2,none⟩=some z:=by simp[World.cell?,show W.heap[B]?=_ from h]
theorem JN.c3(h:JN W B t x y z u):W.cell? ⟨B,3,none⟩=some u:=by simp[World.cell?,show W.heap[B]?=_ from h]
theorem JN.cq(h:JN W B t x y z u):type_of% (And.intro h.c0 (And.intro h.c1 (And.intro h.c2 h.c3))):=⟨h.c0,h.c1,h.c2,h.c3⟩
theorem JN.f0(h:JN W B t x y z u):W.frozen? ⟨B,0,none⟩=false:=by simp[World.frozen?,show W.heap[B]?=_ from h]
theorem JN.f1(h:JN W B t x y z u):W.frozen? ⟨B,1,none⟩=false:=by simp[World.frozen?,show W.heap[B]?=_ from h]
theorem JN.fp(h:JN W B t x y z u):type_of% (And.intro h.f0 h.f1):=⟨h.f0,h.f1⟩
theorem JN.f2(h:JN W B t x y z u):W.frozen? ⟨B,2,none⟩=false:=by simp[World.frozen?,show W.heap[B]?=_ from h]
theorem JN.f3(h:JN W B t x y z u):W.frozen? ⟨B,3,none⟩=false:=by simp[World.frozen?,show W.heap[B]?=_ from h]
theorem JN.fq(h:JN W B t x y z u):type_of% (And.intro h.f0 (And.intro h.f1 (And.intro h.f2 h.f3))):=⟨h.f0,h.f1,h.f2,h.f3⟩
theorem JN.new(W:D)(t:TypeId)(x y z u:E):JN (W.alloc (G #[x,y,z,u] t)) W.heap.size t x y z u:=BD W _
theorem JN.below(h:JN W B t x y z u)(a:Bl W W'):JN W' B t x y z u:=(a.block B h.lt).trans h
theorem JN.alloc(h:JN W B t x y z u)(o:Obj):JN (W.alloc o) B t x y z u:=h.below (Ba W o)
theorem JN.set0(h:JN W B t x y z u)(v:E):JN (W.setCell ⟨B,0,none⟩ v) B t v y z u:=by
 obtain⟨b,a⟩:=Ae.1 h;show(W.heap.modify B _)[B]?=_;rw[Ce (by rw[CR];exact b),Cj,a];rfl
theorem JN.set1(h:JN W B t x y z u)(v:E):JN (W.setCell ⟨B,1,none⟩ v) B t x v z u:=by
 obtain⟨b,a⟩:=Ae.1 h;show(W.heap.modify B _)[B]?=_;rw[Ce (by rw[CR];exact b),Cj,a];rfl
theorem JN.set2(h:JN W B t x y z u)(v:E):JN (W.setCell ⟨B,2,none⟩ v) B t x y v u:=by
 obtain⟨b,a⟩:=Ae.1 h;show(W.heap.modify B _)[B]?=_;rw[Ce (by rw[CR];exact b),Cj,a];rfl
theorem JN.set3(h:JN W B t x y z u)(v:E):JN (W.setCell ⟨B,3,none⟩ v) B t x y z v:=by
 obtain⟨b,a⟩:=Ae.1 h;show(W.heap.modify B _)[B]?=_;rw[Ce (by rw[CR];exact b),Cj,a];rfl
theorem JN.far(h:JN W B t x y z u){p:Addr}(hp:B≠p.block)(v:E):JN (W.setCell p v) B t x y z u:=(BC W p v B hp).trans h
end
def put4(W:D)(B:Nat)(x y z u:E):D:=(((W.setCell ⟨B,0,none⟩ x).setCell ⟨B,1,none⟩ y).setCell ⟨B,2,none⟩ z).setCell ⟨B,3,none⟩ u
variable{B:Nat}{t:TypeId}{u x y z:E}{W:D}
theorem JN.put(h:JN W B t x y z u)(b c d a:E):JN (put4 W B b c d a) B t b c d a:=(((h.set0 b).set1 c).set2 d).set3 a
theorem JN.putFar{C:Nat}(h:JN W B t x y z u)(a:B≠C)(c d e b:E):JN (put4 W C c d e b) B t x y z u:=(((h.far a c).far a d).far a e).far a b
theorem JC{n:Nat}{w:D}(h:Below n w W)(a:n<=B)(x y z u:E):Below n w (put4 W B x y z u):=(((h.setCell (p:=⟨B,0,none⟩) a _).setCell (p:=⟨B,1,none⟩) a _).setCell (p:=⟨B,2,none⟩) a _).setCell (p:=⟨B,3,none⟩) a _
theorem Row.put4{k:IntKind}{v:E}{ds:List Nat}(h:Row k W v ds)(q:JN W B t x y z u)(d:JG x=true)(e:JG y=true)(f:JG z=true)(g:JG u=true)(a b c i:E):Row k (put4 W B a b c i) v ds:=
 Row.set (Row.set (Row.set (Row.set h q.c0 d _) (q.set0 a).c1 e _) ((q.set0 a).set1 b).c2 f _) (((q.set0 a).set1 b).set2 c).c3 g _
theorem Jk.put4{W:D}{v:E}{i:Int}(h:Jk W v i){B:Nat}{t:TypeId}{x y z u:E}(q:JN W B t x y z u)(c:JG x=true)(d:JG y=true)(f:JG z=true)(g:JG u=true)(k m n j:E):Jk (put4 W B k m n j) v i:=by
 obtain⟨a,l,cap,e,b⟩:=h;exact⟨a,l,cap,e,Row.put4 b q c d f g _ _ _ _⟩
def Jj(W:D)(v:E)(q:Rat):Prop:=∃s a l c t b k d,v=H #[F s,C a l c,F t,C b k d]/\Jk W (H #[F s,C a l c]) q.num/\Jk W (H #[F t,C b k d]) (Dp q)
theorem Jj.below{W W':D}{v:E}{q:Rat}(h:Jj W v q)(f:Bl W W'):Jj W' v q:=by
 obtain⟨s,a,l,c,t,b,k,d,e,g,i⟩:=h;exact⟨s,a,l,c,t,b,k,d,e,g.below f,i.below f⟩
theorem Jj.put4{W:D}{v:E}{p:Rat}(h:Jj W v p){B:Nat}{t:TypeId}{x y z u:E}(q:JN W B t x y z u)(f:JG x=true)(g:JG y=true)(i:JG z=true)(j:JG u=true)(r w A o:E):Jj (put4 W B r w A o) v p:=by
 obtain⟨s,a,l,c,t,b,k,d,e,m,n⟩:=h;exact⟨s,a,l,c,t,b,k,d,e,m.put4 q f g i j _ _ _ _,n.put4 q f g i j _ _ _ _⟩
def F3(W:D)(v:E)(q:Rat):Prop:=∃a l c s b k d t,v=H #[C a l c,F s,C b k d,F t]/\Im W (H #[C a l c,F s]) q.num/\Im W (H #[C b k d,F t]) (q.den:Int)
theorem F3.below{W W':D}{v:E}{q:Rat}(h:F3 W v q)(f:Bl W W'):F3 W' v q:=by
 obtain⟨s,a,l,c,t,b,k,d,e,g,i⟩:=h;exact⟨s,a,l,c,t,b,k,d,e,g.below f,i.below f⟩
end
section
def ID(W:D)(v:E)(x y:Int):Prop:=∃s a l c t b k d,v=H #[F s,C a l c,F t,C b k d]/\Jk W (H #[F s,C a l c]) x/\Jk W (H #[F t,C b k d]) y
theorem Jj.pair{W:D}{v:E}{q:Rat}(h:Jj W v q):ID W v q.num (Dp q):=h
theorem ID.below{W W':D}{v:E}{x y:Int}(h:ID W v x y)(f:Bl W W'):ID W' v x y:=by
 obtain⟨s,a,l,c,t,b,k,d,e,g,i⟩:=h;exact⟨s,a,l,c,t,b,k,d,e,g.below f,i.below f⟩
structure Dat where
 ty:TypeId
 has:World->Value->Prop
 below:∀ {V V':World} {v:Value},has V v->Bl V V'->has V' v
 keep:∀ {V V':World} {v:Value},has V v->(∀k v ds,Row k V v ds->Row k V' v ds)->has V' v
def Dat.int(z:Int):Dat where
 ty:=63
 has V v:=Jk V v z
 below h hb:=Jk.below h hb
 keep h hk:=by
  obtain⟨a,l,c,e,b⟩:=h;exact⟨a,l,c,e,hk _ _ _ b⟩
def Dat.rat(q:Rat):Dat where
 ty:=65
 has V v:=Jj V v q
 below h hb:=Jj.below h hb
 keep h hk:=by
  obtain⟨s,a,l,c,t,b,k,d,e,⟨f,l1,c1,i,m⟩,⟨g,l2,c2,j,n⟩⟩:=h;exact⟨s,a,l,c,t,b,k,d,e,⟨f,l1,c1,i,hk _ _ _ m⟩,⟨g,l2,c2,j,hk _ _ _ n⟩⟩
def Dat.ref(q:Rat):Dat where
 ty:=85
 has V v:=F3 V v q
 below h hb:=F3.below h hb
 keep h hk:=by
  obtain⟨s,a,l,c,t,b,k,d,e,⟨f,l1,c1,i,m⟩,⟨g,l2,c2,j,n⟩⟩:=h;exact⟨s,a,l,c,t,b,k,d,e,⟨f,l1,c1,i,hk _ _ _ m⟩,⟨g,l2,c2,j,hk _ _ _ n⟩⟩
def Has(V:D)(v:E)(d:Dat):Prop:=d.has V v
theorem Has.below{V V':D}{v:E}{d:Dat}(h:Has V v d)(a:Bl V V'):Has V' v d:=d.below h a
theorem Has.alloc{V:D}{v:E}{d:Dat}(h:Has V v d)(o:Obj):Has (V.alloc o) v d:=h.below (Ba V o)
theorem Has.keep{V V':D}{v:E}{d:Dat}(h:Has V v d)(a:∀k v ds,Row k V v ds->Row k V' v ds):Has V' v d:=d.keep h a
def Bx(V:D)(B:Nat)(t:TypeId)(cs:Array E):Prop:=V.heap[B]?=some (G cs t (0,0))
variable{cs:Array E}{r:Bool}{d:Dat}{bs:List (Option (Nat × Dat))}{qs:List Rat}{B b i j n o:Nat}{m:Nat × Nat}{q:Rat}{t:TypeId}{u v x y z:E}{V V' W w:D}
theorem Bx.lt(h:Bx V B t cs):B<V.heap.size:=(Ae.1 h).1
theorem Bx.below(h:Bx V B t cs)(a:Bl V V'):Bx V' B t cs:=(a.block B h.lt).trans h
theorem Bx.far(h:Bx V B t cs){p:Addr}(hp:B≠p.block)(u:E):Bx (V.setCell p u) B t cs:=(BC V p u B hp).trans h
def Mem(w V:D)(bs:List (Option (Nat × Dat))):Prop:=
 (∀(i:Nat) B d,bs[i]?=some (some (B,d))->(∃cs,Bx V B d.ty cs/\Has V (H cs) d)/\w.heap.size<=B)/\
 (∀(i j:Nat) B d a,bs[i]?=some (some (B,d))->bs[j]?=some (some (B,a))->i=j)/\Bl w V
theorem Mem.nil(w:D):Mem w w []:=⟨λi B z h=>by simp at h,λi j B z a h=>by simp at h,BE _ w⟩
theorem Mem.int{w V:D}{bs:List (Option (Nat × Dat))}(M:Mem w V bs){i B:Nat}{z:Int}(h:bs[i]?=some (some (B,.int z))):∃s a l c,Jq V B 63 (F s) (C a l c)/\Jk V (H #[F s,C a l c]) z:=by
 obtain⟨⟨cs,b,d⟩,_⟩:=M.1 i B _ h;obtain⟨a,l,c,e,f⟩:=d;cases e;exact⟨_,a,l,c,b,a,l,c,rfl,f⟩
theorem Mem.rat{w V:D}{bs:List (Option (Nat × Dat))}(M:Mem w V bs){i B:Nat}{q:Rat}(h:bs[i]?=some (some (B,.rat q))):
 ∃s a l c t b k d,JN V B 65 (F s) (C a l c) (F t) (C b k d)/\Jj V (H #[F s,C a l c,F t,C b k d]) q/\Jk V (H #[F s,C a l c]) q.num/\Jk V (H #[F t,C b k d]) (Dp q):=by
 obtain⟨⟨cs,m,f⟩,_⟩:=M.1 i B _ h;have n:=f;obtain⟨s,a,l,c,t,b,k,d,e,g,j⟩:=f;cases e;exact⟨s,a,l,c,t,b,k,d,m,n,g,j⟩
theorem Mem.below{w V V':D}{bs:List (Option (Nat × Dat))}(M:Mem w V bs)(a:Bl V V'):Mem w V' bs:=
 ⟨λi B z h=>by
  obtain⟨⟨cs,b,c⟩,d⟩:=M.1 i B z h;exact⟨⟨cs,b.below a,c.below a⟩,d⟩,M.2.1,Bt M.2.2 a⟩
theorem Mem.drew{w V:D}{bs:List (Option (Nat × Dat))}(M:Mem w V bs):Mem w V.drew bs:=M.below ((BE _ V).drew)
theorem Mem.sub{cs:List (Option (Nat × Dat))}(M:Mem w V bs)(f:Nat->Nat)(e:∀(i j:Nat),f i=f j->i=j)(h:∀(i:Nat) x,cs[i]?=some (some x)->bs[f i]?=some (some x)):Mem w V cs:=
 ⟨λi B d a=>M.1 (f i) B d (h i _ a),λi j B d b a c=>e i j (M.2.1 (f i) (f j) B d b (h i _ a) (h j _ c)),M.2.2⟩
theorem Mem.take{w V:D}{bs:List (Option (Nat × Dat))}(M:Mem w V bs)(n:Nat):Mem w V (bs.take n):=by
 refine M.sub id (λ_ _ h=>h) λi x h=>?_;rw[Fu]at h;split at h
 . exact h
 . cases h
theorem Mem.none{w V:D}{bs:List (Option (Nat × Dat))}(M:Mem w V bs):Mem w V (bs++[Option.none]):=by
 refine M.sub id (λ_ _ h=>h) λi x h=>?_;by_cases a:i<bs.length
 . rwa[A5 a]at h
 . rw[AW Y]at h;obtain⟨k,b⟩:=ex (i-bs.length);rw[b]at h;cases k<;>simp at h
theorem Mem.fill(M:Mem w V bs)(h:bs[i]?=some Option.none)(d:Dat)(q:Has V (H cs) d):
 Mem w (V.alloc (G cs d.ty)) (bs.set i (some (V.heap.size,d))):=by
 have m:Bl V (V.alloc (G cs d.ty)):=Ba V _;have f:i<bs.length:=(Af.1 h).1;have l:=M.below m;have n:∀(j:Nat) B d,bs[j]?=some (some (B,d))->B<V.heap.size:=λj B d h=>by
  obtain⟨⟨_,a,_⟩,_⟩:=M.1 j B d h;exact a.lt
 refine⟨λj B p e=>?_,λj k B d1 o a b=>?_,l.2.2⟩
 . by_cases c:i=j
   . subst c;rw[A3 f]at e;simp at e;obtain⟨rfl,rfl⟩:=e;exact⟨⟨cs,BD V _,q.below m⟩,M.2.2.size⟩
   . rw[AU c]at e;exact l.1 j B p e
 . by_cases c:i=j<;>by_cases g:i=k
   . omega
   . subst c;rw[A3 f]at a;rw[AU g]at b;simp at a;have:=n k B o b;omega
   . subst g;rw[A3 f]at b;rw[AU c]at a;simp at b;have:=n j B d1 a;omega
   . rw[AU c]at a;rw[AU g]at b;exact M.2.1 j k B d1 o a b
theorem PA{α:Type}(l:List α)(x y:α):(l++[x]).set l.length y=l++[y]:=by
 induction l with
 |nil=>rfl
 |cons a l b=>simp
theorem Mem.push(M:Mem w V bs)(d:Dat)(a:Has V (H cs) d):Mem w (V.alloc (G cs d.ty)) (bs++[some (V.heap.size,d)]):=by
 have h:=M.none.fill (i:=bs.length) O d a;rwa[PA]at h
theorem Mem.repl(M:Mem w V bs)(h:bs[i]?=some (some (B,d)))(c:Dat)(z:Bx V' B c.ty cs)(A:Has V (H cs) c)
(o:∀k v ds,Row k V v ds->Row k V' v ds)(I:∀B' t cs,B'≠B->Bx V B' t cs->Bx V' B' t cs)(y:Bl w V'):Mem w V' (bs.set i (some (B,c))):=by
 have n:i<bs.length:=(Af.1 h).1;obtain⟨_,K⟩:=M.1 i B d h;refine⟨λj B' d1 a=>?_,λj k B' d1 r u x=>?_,y⟩
 . by_cases b:i=j
   . subst b;rw[A3 n]at a;simp at a;obtain⟨rfl,rfl⟩:=a;exact⟨⟨cs,z,A.keep o⟩,K⟩
   . rw[AU b]at a;obtain⟨⟨q,g,l⟩,L⟩:=M.1 j B' d1 a;have p:B'≠B:=λe=>b (by rw[e]at a;exact M.2.1 i j B d d1 h a);exact⟨⟨q,I _ _ _ p g,l.keep o⟩,L⟩
 . have m:∀(j:Nat) d1,(bs.set i (some (B,c)))[j]?=some (some (B',d1))->∃f,bs[j]?=some (some (B',f)):=λj d1 a=>by
    by_cases b:i=j
    . subst b;rw[A3 n]at a;simp at a;exact⟨d,by rw[h,a.1]⟩
    . rw[AU b]at a;exact⟨d1,a⟩
   obtain⟨f,g⟩:=m j d1 u;obtain⟨s,l⟩:=m k r x;exact M.2.1 j k B' f s g l
theorem keep2(q:Jq V B t x y)(b:JG x=true)(c:JG y=true)(a d:E):∀k v ds,Row k V v ds->Row k ((V.setCell ⟨B,0,Option.none⟩ a).setCell ⟨B,1,Option.none⟩ d) v ds:=
 λ_ _ _ h=>Row.set (Row.set h q.c0 b _) (q.set0 a).c1 c _
theorem Mem.putInt(M:Mem w V bs){j:Int}(h:bs[i]?=some (some (B,.int j))){z:Int}(f:Jk V (H #[x,y]) z):
 Mem w ((V.setCell ⟨B,0,Option.none⟩ x).setCell ⟨B,1,Option.none⟩ y) (bs.set i (some (B,.int z))):=by
 obtain⟨s,a,l,c,b,_⟩:=M.int h;obtain⟨_,e⟩:=M.1 i B _ h;exact M.repl h (.int z) (cs:=#[x,y]) ((b.set0 x).set1 y) f (keep2 b rfl rfl x y) (λB' t cs d g=>(g.far (p:=⟨B,0,Option.none⟩) d _).far (p:=⟨B,1,Option.none⟩) d _) ((M.2.2.setCell (p:=⟨B,0,Option.none⟩) e _).setCell (p:=⟨B,1,Option.none⟩) e _)
theorem far4(x y z u:E):∀B' t cs,B'≠B->Bx V B' t cs->Bx (put4 V B x y z u) B' t cs:=λ_ _ _ a g=>(((g.far (p:=⟨B,0,Option.none⟩) a _).far (p:=⟨B,1,Option.none⟩) a _).far (p:=⟨B,2,Option.none⟩) a _).far (p:=⟨B,3,Option.none⟩) a _
theorem Mem.putRat(M:Mem w V bs){q0:Rat}(h:bs[i]?=some (some (B,.rat q0)))(b:Jj V (H #[x,y,z,u]) q):
 Mem w (put4 V B x y z u) (bs.set i (some (B,.rat q))):=by
 obtain⟨_,_,_,_,_,_,_,_,a,_⟩:=M.rat h;obtain⟨_,c⟩:=M.1 i B _ h;exact M.repl h (.rat q) (cs:=#[x,y,z,u]) (a.put x y z u) b (λ_ _ _ g=>Row.put4 g a rfl rfl rfl rfl _ _ _ _) (far4 x y z u) (JC M.2.2 c _ _ _ _)
theorem Has.set2(h:Has V v d)(q:Jq V B t x y)(c:JG x=true)(e:JG y=true)(a b:E):Has ((V.setCell ⟨B,0,Option.none⟩ a).setCell ⟨B,1,Option.none⟩ b) v d:=h.keep (keep2 q c e a b)
theorem Has.put4{V:D}{v:E}{d:Dat}(h:Has V v d){B:Nat}{t:TypeId}{x y z u:E}(q:JN V B t x y z u)(a:JG x=true)(b:JG y=true)(c:JG z=true)(e:JG u=true)(i j k f:E):Has (Go.Proofs.YteldjhhjnchdeaaGreatDoor.put4 V B i j k f) v d:=h.keep λ_ _ _ g=>Row.put4 g q a b c e _ _ _ _
theorem Jk.form2{z:Int}(h:Jk W v z):∃s a l c,v=H #[F s,C a l c]:=by
 obtain⟨a,l,c,e,_⟩:=h;exact⟨_,a,l,c,e⟩
theorem Jj.form(h:Jj W v q):∃s a l c t b k d,v=H #[F s,C a l c,F t,C b k d]:=by
 obtain⟨s,a,l,c,t,b,k,d,e,_⟩:=h;exact⟨s,a,l,c,t,b,k,d,e⟩
theorem Mem.ne(M:Mem w V bs)(i j:Nat){B':Nat}{a:Dat}(h:bs[i]?=some (some (B,d)))(b:bs[j]?=some (some (B',a)))(c:i≠j):B≠B':=λe=>by
 subst e;exact c (M.2.1 i j B d a h b)
theorem Mem.ge(M:Mem w V bs)(i:Nat)(h:bs[i]?=some (some (B,d))):w.heap.size<=B:=(M.1 i B d h).2
theorem XI(W:D):Jk W (H #[F false,C Option.none 0 0]) 0:=
 ⟨Option.none,0,0,O,by unfold UN;rw[Int.natAbs_zero,JF];exact Row.nil _ _⟩
theorem EH(W:D):Jj W (H #[F false,C Option.none 0 0,F false,C Option.none 0 0]) 0:=⟨_,_,_,_,_,_,_,_,rfl,XI W,XI W⟩
def Tup2(V:D)(t:E)(d1 a:Dat):Prop:=∃u1 u2,t=.tuple #[u1,u2,F true]/\Has V u1 d1/\Has V u2 a
theorem Tup2.below{V V':D}{t:E}{d1 a:Dat}(h:Tup2 V t d1 a)(b:Bl V V'):Tup2 V' t d1 a:=by
 obtain⟨u1,u2,e,c,d⟩:=h;exact⟨u1,u2,e,c.below b,d.below b⟩
theorem Tup2.alloc{V:D}{t:E}{d1 a:Dat}(h:Tup2 V t d1 a)(o:Obj):Tup2 (V.alloc o) t d1 a:=by
 obtain⟨u1,u2,e,b,c⟩:=h;exact⟨u1,u2,e,b.alloc o,c.alloc o⟩
theorem Tup2.set2{V:D}{v:E}{d1 c:Dat}(h:Tup2 V v d1 c){B:Nat}{t:TypeId}{x y:E}(q:Jq V B t x y)(d:JG x=true)(f:JG y=true)(a b:E):Tup2 ((V.setCell ⟨B,0,Option.none⟩ a).setCell ⟨B,1,Option.none⟩ b) v d1 c:=by
 obtain⟨u1,u2,e,g,i⟩:=h;exact⟨u1,u2,e,g.set2 q d f a b,i.set2 q d f a b⟩
def ED(r:Bool)(W:D)(v:E)(q:Rat):Prop:=match r with|true=>Jj W v q|false=>F3 W v q
def Ix(r:Bool):TypeId:=match r with|true=>65|false=>85
theorem ED.below{r:Bool}{W W':D}{v:E}{q:Rat}(h:ED r W v q)(a:Bl W W'):ED r W' v q:=by
 cases r with
 |true=>exact Jj.below h a
 |false=>exact F3.below h a
theorem ED.keep{r:Bool}{W W':D}{v:E}{q:Rat}(h:ED r W v q)(a:∀k v ds,Row k W v ds->Row k W' v ds):ED r W' v q:=by
 cases r with
 |true=>exact Has.keep (d:=.rat q) h a
 |false=>exact Has.keep (d:=.ref q) h a
theorem ED.form(h:ED r W v q):∃x y z u,v=H #[x,y,z,u]/\JG x=true/\JG y=true/\JG z=true/\JG u=true:=by
 cases r with
 |true=>
  obtain⟨s,a,l,c,t,b,k,d,e,_⟩:=(show Jj W v q from h);exact⟨_,_,_,_,e,rfl,rfl,rfl,rfl⟩
 |false=>
  obtain⟨s,a,l,c,t,b,k,d,e,_⟩:=(show F3 W v q from h);exact⟨_,_,_,_,e,rfl,rfl,rfl,rfl⟩
theorem ED.no(h:ED r W (H #[x,y,z,u]) q):JG x=true/\JG y=true/\JG z=true/\JG u=true:=by
 obtain⟨g,i,j,f,e,a,b,c,d⟩:=h.form;cases e;exact⟨a,b,c,d⟩
theorem ED.one(h:ED r W (H #[x,y,z,u]) q):∀v∈[x,y,z,u],v.oneCell'=true:=by
 cases r with
 |true=>
  obtain⟨s,a,l,c,t,b,k,d,e,_⟩:=(show Jj W _ q from h);cases e;intro v f;simp at f;rcases f with rfl|rfl|rfl|rfl<;>rfl
 |false=>
  obtain⟨s,a,l,c,t,b,k,d,e,_⟩:=(show F3 W _ q from h);cases e;intro v f;simp at f;rcases f with rfl|rfl|rfl|rfl<;>rfl
def Dn(r:Bool)(W:D)(b:Nat)(qs:List Rat):Prop:=
 ∃cs:Array E,W.heap[b]?=some (G cs (Ix r) (0,0))/\∀j,j<qs.length->∃x y z u,cs[j*4]?=some x/\cs[j*4+1]?=some y/\cs[j*4+2]?=some z/\cs[j*4+3]?=some u/\ED r W (H #[x,y,z,u]) (cf qs j)
theorem Dn.lt(h:Dn r W b qs):b<W.heap.size:=by obtain⟨cs,h,_⟩:=h;exact(Ae.1 h).1
theorem Dn.below{r:Bool}{W W':D}{b:Nat}{qs:List Rat}(h:Dn r W b qs)(a:Bl W W'):Dn r W' b qs:=by
 have hl:=h.lt;obtain⟨cs,g,i⟩:=h;refine⟨cs,(a.block b hl).trans g,λj l=>?_⟩;obtain⟨x,y,z,u,c,d,e,f,k⟩:=i j l;exact⟨x,y,z,u,c,d,e,f,k.below a⟩
theorem Dn.keep{r:Bool}{W W':D}{b:Nat}{qs:List Rat}(h:Dn r W b qs)(l:W'.heap[b]?=W.heap[b]?)(n:∀k v ds,Row k W v ds->Row k W' v ds):Dn r W' b qs:=by
 obtain⟨cs,f,g⟩:=h;refine⟨cs,l.trans f,λj m=>?_⟩;obtain⟨x,y,z,u,a,c,d,e,i⟩:=g j m;exact⟨x,y,z,u,a,c,d,e,i.keep n⟩
theorem Dn.take{r:Bool}{W:D}{b:Nat}{qs:List Rat}(h:Dn r W b qs)(n:Nat):Dn r W b (qs.take n):=by
 obtain⟨cs,f,g⟩:=h;refine⟨cs,f,λj k=>?_⟩;rw[Ap]at k;obtain⟨x,y,z,u,a,c,d,e,i⟩:=g j Y;exact⟨x,y,z,u,a,c,d,e,by rw[LR,BJ Y];exact i⟩
theorem Dn.at(h:Dn r W b qs)(k:j<qs.length):
 ∃x y z u,W.cell? ⟨b,j*4,none⟩=some x/\W.cell? ⟨b,j*4+1,none⟩=some y/\W.cell? ⟨b,j*4+2,none⟩=some z/\W.cell? ⟨b,j*4+3,none⟩=some u/\ED r W (H #[x,y,z,u]) (cf qs j):=by
 obtain⟨cs,a,g⟩:=h;obtain⟨x,y,z,u,c,d,e,f,i⟩:=g j k;exact⟨x,y,z,u,by simp[World.cell?,a,c],by simp[World.cell?,a,d],by simp[World.cell?,a,e],by simp[World.cell?,a,f],i⟩
theorem Dn.frozen{r:Bool}{W:D}{b:Nat}{qs:List Rat}(h:Dn r W b qs)(o:Nat):W.frozen? ⟨b,o,none⟩=false:=by obtain⟨cs,a,_⟩:=h;simp[World.frozen?,a]
def putAt(W:D)(b o:Nat)(x y z u:E):D:=(((W.setCell ⟨b,o,none⟩ x).setCell ⟨b,o+1,none⟩ y).setCell ⟨b,o+2,none⟩ z).setCell ⟨b,o+3,none⟩ u
theorem J7(h:W.heap[b]?=some (G cs t m))(v:E):(W.setCell ⟨b,o,none⟩ v).heap[b]?=some (G (cs.setIfInBounds o v) t m):=by
 obtain⟨c,a⟩:=Ae.1 h;show(W.heap.modify b _)[b]?=_;rw[Ce (by rw[CR];exact c),Cj,a];simp
theorem PB(h:W.heap[b]?=some (G cs t m))(x y z u:E):(putAt W b o x y z u).heap[b]?=some (G ((((cs.setIfInBounds o x).setIfInBounds (o+1) y).setIfInBounds (o+2) z).setIfInBounds (o+3) u) t m):=
 J7 (J7 (J7 (J7 h x) y) z) u
theorem Iy(a:B≠b)(x y z u:E):(putAt W b o x y z u).heap[B]?=W.heap[B]?:=
 (BC _ _ _ B a).trans ((BC _ _ _ B a).trans ((BC _ _ _ B a).trans (BC _ _ _ B a)))
theorem PC(h:Below n w W)(a:n<=b)(x y z u:E):Below n w (putAt W b o x y z u):=
 (((h.setCell (p:=⟨b,o,none⟩) a _).setCell (p:=⟨b,o+1,none⟩) a _).setCell (p:=⟨b,o+2,none⟩) a _).setCell (p:=⟨b,o+3,none⟩) a _
theorem cell_of(h:W.heap[b]?=some (G cs t m))(e:cs[o]?=some x):W.cell? ⟨b,o,none⟩=some x:=by simp[World.cell?,h,e]
theorem VG{x0 a c u0:E}(h:W.heap[b]?=some (G cs t m))(d:cs[o]?=some x0)(e:cs[o+1]?=some a)(f:cs[o+2]?=some c)(g:cs[o+3]?=some u0)
(j:JG x0=true)(l:JG a=true)(n:JG c=true)(p:JG u0=true)(x y z u:E):∀k v ds,Row k W v ds->Row k (putAt W b o x y z u) v ds:=λk v ds i=>by
 have c1:((cs.setIfInBounds o x))[o+1]?=some a:=by rw[Ak Y];exact e
 have c2:(((cs.setIfInBounds o x).setIfInBounds (o+1) y))[o+2]?=some c:=by rw[Ak Y,Ak Y];exact f
 have c3:((((cs.setIfInBounds o x).setIfInBounds (o+1) y).setIfInBounds (o+2) z))[o+3]?=some u0:=by rw[Ak Y,Ak Y,Ak Y];exact g
 exact Row.set (Row.set (Row.set (Row.set i (cell_of h d) j _) (cell_of (J7 h x) c1) l _) (cell_of (J7 (J7 h x) y) c2) n _) (cell_of (J7 (J7 (J7 h x) y) z) c3) p _
theorem Dn.putKeep(h:Dn r W b qs)(l:j<qs.length)(x y z u:E):∀k v ds,Row k W v ds->Row k (putAt W b (j*4) x y z u) v ds:=by
 obtain⟨cs,f,g⟩:=h;obtain⟨x0,q,s,u0,a,c,d,e,i⟩:=g j l;obtain⟨m,n,o,p⟩:=i.no;exact VG f a c d e m n o p x y z u
theorem Dn.set{r:Bool}{W:D}{b:Nat}{qs:List Rat}(h:Dn r W b qs){j:Nat}(a:j<qs.length){x y z u:E}{q:Rat}(B:ED r W (H #[x,y,z,u]) q):Dn r (putAt W b (j*4) x y z u) b (qs.set j q):=by
 have f:=h.putKeep a x y z u;obtain⟨cs,w,c⟩:=h;obtain⟨x0,M,N,u0,p,s,t,v,L⟩:=c j a;refine⟨_,PB w x y z u,λi d=>?_⟩;rw[CA]at d;have k:=(Ae.1 p).1;have m:=(Ae.1 s).1;have l:=(Ae.1 t).1;have g:=(Ae.1 v).1;by_cases e:i=j
 . subst e;refine⟨x,y,z,u,?_,?_,?_,?_,?_⟩
   . rw[Ak Y,Ak Y,Ak Y,CE k]
   . rw[Ak Y,Ak Y,CE (by simpa using m)]
   . rw[Ak Y,CE (by simpa using l)]
   . rw[CE (by simpa using g)]
   . rw[XC _ _ _ _ a,BJ rfl];exact B.keep f
 . obtain⟨x1,I,K,u1,d0,d1,n,o,A⟩:=c i d;refine⟨x1,I,K,u1,?_,?_,?_,?_,?_⟩
   . rw[Ak Y,Ak Y,Ak Y,Ak Y];exact d0
   . rw[Ak Y,Ak Y,Ak Y,Ak Y];exact d1
   . rw[Ak Y,Ak Y,Ak Y,Ak Y];exact n
   . rw[Ak Y,Ak Y,Ak Y,Ak Y];exact o
   . rw[XC _ _ _ _ a,BH e];exact A.keep f
def RowK(r:Bool)(W:D)(v:E)(qs:List Rat):Prop:=
 ∃a cap,v=C a qs.length cap/\qs.length<=cap/\cap<=9223372036854775807/\qs.length<=1099511627776/\(qs=[]\/∃b,a=some ⟨b,0,none⟩/\Dn r W b qs)
theorem RowK.below{r:Bool}{W W':D}{v:E}{qs:List Rat}(h:RowK r W v qs)(k:Bl W W'):RowK r W' v qs:=by
 obtain⟨a,cap,e,f,g,i,c⟩:=h;refine⟨a,cap,e,f,g,i,?_⟩;rcases c with c|⟨b,d,j⟩
 . exact Or.inl c
 . exact Or.inr ⟨b,d,j.below k⟩
theorem RowK.nil(r:Bool)(W:D):RowK r W (C none 0 0) []:=⟨none,0,rfl,Aa _,Y,O,Or.inl rfl⟩
theorem Dn.row(h:Dn r W b qs){cap:Nat}(d:n<=qs.length)(c:n<=cap)(a:cap<=9223372036854775807)(hl:n<=1099511627776):RowK r W (C (some ⟨b,0,none⟩) n cap) (qs.take n):=by
 have e:(qs.take n).length=n:=by rw[Ap];omega
 exact⟨_,cap,by rw[e],Y,a,Y,Or.inr ⟨b,rfl,h.take n⟩⟩
theorem RowK.open(h:RowK r W v qs):∃a cap,v=C a qs.length cap/\qs.length<=cap/\cap<=9223372036854775807/\qs.length<=1099511627776/\
 Hid (∀j,j<qs.length->∃b,a=some ⟨b,0,none⟩/\Dn r W b qs):=by
 obtain⟨a,cap,e,g,i,k,c⟩:=h;refine⟨a,cap,e,g,i,k,λj d=>?_⟩;rcases c with c|⟨b,f,l⟩
 . rw[c]at d;simp at d
 . exact⟨b,f,l⟩
theorem RowK.take{r:Bool}{W:D}{a:Option Addr}{l cap:Nat}{qs:List Rat}(h:RowK r W (C a l cap) qs){n:Nat}(m:n<=l):RowK r W (C a n cap) (qs.take n):=by
 obtain⟨a',i,e,j,f,k,c⟩:=h;cases e;have e:(qs.take n).length=n:=by rw[Ap];omega
 refine⟨a,cap,by rw[e],Y,f,Y,?_⟩;rcases c with c|⟨b,d,g⟩
 . left;rw[c];simp
 . exact Or.inr ⟨b,d,g.take n⟩
def Jc(W:D)(v:E)(ps:List Rat):Prop:=∃u,v=H #[u]/\RowK true W u ps
theorem Jc.below{W W':D}{v:E}{ps:List Rat}(h:Jc W v ps)(b:Bl W W'):Jc W' v ps:=by
 obtain⟨u,e,a⟩:=h;exact⟨u,e,a.below b⟩
theorem RowK.form(h:RowK r W v qs):∃a l c,v=C a l c:=by
 obtain⟨a,cap,e,_⟩:=h;exact⟨a,_,cap,e⟩
theorem Jc.form{W:D}{v:E}{ps:List Rat}(h:Jc W v ps):∃a l c,v=H #[C a l c]:=by
 obtain⟨u,e,b⟩:=h;obtain⟨a,l,c,rfl⟩:=b.form;exact⟨a,l,c,e⟩
theorem Jc.row{a:Option Addr}{l c:Nat}{ps:List Rat}(h:Jc W (H #[C a l c]) ps):RowK true W (C a l c) ps:=by
 obtain⟨u,e,b⟩:=h;cases e;exact b
structure Sqs(qs:List Rat):Prop where
 all:∀i,Sq (cf qs i)
theorem Sqs.at(h:Sqs qs)(i:Nat):Sq (cf qs i):=h.all i
theorem Sqs.of(h:∀i,Sq (cf qs i)):Sqs qs:=⟨h⟩
def XK(r:Bool)(W:D)(cs:List E)(qs:List Rat):Prop:=
 cs.length=qs.length*4/\∀j,j<qs.length->∃x y z u,cs[j*4]?=some x/\cs[j*4+1]?=some y/\cs[j*4+2]?=some z/\cs[j*4+3]?=some u/\ED r W (H #[x,y,z,u]) (cf qs j)
theorem XK.nil(r:Bool)(W:D):XK r W [] []:=⟨rfl,λj a=>by simp at a⟩
theorem XK.below{r:Bool}{W W':D}{cs:List E}{qs:List Rat}(h:XK r W cs qs)(f:Bl W W'):XK r W' cs qs:=by
 refine⟨h.1,λj g=>?_⟩;obtain⟨x,y,z,u,a,b,c,d,e⟩:=h.2 j g;exact⟨x,y,z,u,a,b,c,d,e.below f⟩
theorem XK.one{r:Bool}{W:D}{cs:List E}{qs:List Rat}(h:XK r W cs qs):∀v∈cs,v.oneCell'=true:=by
 intro v l;obtain⟨k,j,rfl⟩:=List.mem_iff_getElem.1 l;have hl:=h.1;obtain⟨x,y,z,u,d,e,f,g,i⟩:=h.2 (k/4) Y;have b:=i.one;have c:cs[k]?=some cs[k]:=An j;have a:k=k/4*4\/k=k/4*4+1\/k=k/4*4+2\/k=k/4*4+3:=Y
 rcases a with a|a|a|a
 . rw[<-a,c]at d;cases d;exact b _ O
 . rw[<-a,c]at e;cases e;exact b _ O
 . rw[<-a,c]at f;cases f;exact b _ O
 . rw[<-a,c]at g;cases g;exact b _ O
theorem Dn.cells(h:Dn r W b qs):∃cs,XK r W cs qs/\∀j u,cs[j]?=some u->W.cell? ⟨b,j,none⟩=some u:=by
 obtain⟨a,k,d⟩:=h;have p:qs.length*4<=a.size:=by
  cases hq:qs.length with
  |zero=>omega
  |succ n=>
   obtain⟨x,y,z,u,_,_,_,c,_⟩:=d n Y;have:=(Ae.1 c).1;omega
 refine⟨a.toList.take (qs.length*4),⟨by rw[Ap];have o:a.toList.length=a.size:=Array.length_toList;omega,λj m=>?_⟩,λj u e=>?_⟩
 . obtain⟨x,y,z,u,f,g,i,c,l⟩:=d j m;refine⟨x,y,z,u,?_,?_,?_,?_,l⟩
   . rw[AX Y,Cu];exact f
   . rw[AX Y,Cu];exact g
   . rw[AX Y,Cu];exact i
   . rw[AX Y,Cu];exact c
 . rw[Fu]at e;split at e
   . rw[Cu]at e;exact cell_of k e
   . cases e
theorem RowK.owns{base:Nat}{cs:List E}(h:W.ownsRow base (Ix r) 4 v n cs)(e:XK r W cs qs)(hl:qs.length<=1099511627776):RowK r W v qs/\n=qs.length/\(v=C none 0 0\/∃g cap,v=C (some ⟨g,0,none⟩) n cap/\base<=g/\Dn r W g qs):=by
 obtain⟨w,k⟩:=h;have s:n=qs.length:=by have:=e.1;omega
 subst s;rcases k with⟨rfl,i⟩|⟨g,cap,f,rfl,m,o,hle,q,A,t⟩
 . have:qs=[]:=Az i
   subst this;exact⟨RowK.nil r W,rfl,Or.inl rfl⟩
 . have hE:Dn r W g qs:=by
    refine⟨f,o,λj p=>?_⟩;obtain⟨x,y,z,u,a,b,c,d,l⟩:=e.2 j p;rw[<-t]at a b c d;rw[AX Y,Cu]at a b c d;exact⟨x,y,z,u,a,b,c,d,l⟩
   refine⟨⟨_,cap,rfl,hle,by unfold maxLen at q;omega,hl,Or.inr ⟨g,rfl,hE⟩⟩,rfl,Or.inr ⟨g,cap,rfl,m,hE⟩⟩
attribute [local go_sem] Oper.semAt_some
theorem PD(N P:E)(x y:Int)(w:D)(f:Jk w N x)(W:Jk w P y)(ae:(Jg J x.natAbs).length<1099511627776)(af:(Jg J y.natAbs).length<1099511627776):
 Calls Tryz.prog 88 #[N,P] w λe c=>∃u,e=.returned u/\Jk c u (x-y)/\Bl w c:=by
 obtain⟨a,la,ca,rfl⟩:=f.form;obtain⟨b,lb,cb,U,g⟩:=W;cases U;obtain⟨s,hs⟩:=ex (decide (x<0));obtain⟨t,n⟩:=ex (decide (y<0));rw[hs]at f ⊢;rw[n];clear hs;obtain⟨W0,d⟩:=ex (((w.alloc (G #[F s,C a la ca] 63)).alloc (G #[F t,C b lb cb] 63)).alloc (G #[F false,C none 0 0] 63));have i:Bl w W0:=by rw[<-d];exact Hb w _ _ _
 have b0:Jq W0 w.heap.size 63 (F s) (C a la ca):=by rw[<-d];exact((Jq.new w _ _ _).alloc _).alloc _
 have j:Jq W0 (w.heap.size+1) 63 (F t) (C b lb cb):=by
  have h:=(Jq.new (w.alloc (G #[F s,C a la ca] 63)) 63 (F t) (C b lb cb)).alloc (G #[F false,C none 0 0] 63);rw[BA,d]at h;exact h
 have k:Jq W0 (w.heap.size+1+1) 63 (F false) (C none 0 0):=by
  have h:=Jq.new ((w.alloc (G #[F s,C a la ca] 63)).alloc (G #[F t,C b lb cb] 63)) 63 (F false) (C none 0 0);rw[BA,BA,d]at h;exact h
 have r:(if(!t)=true then -(y.natAbs:Int)else y.natAbs)=-y:=by
  rw[<-n];by_cases h:y<0
  . simp only[h,DJ,Bool.not_true,Cm,if_false];omega
  . simp only[h,DG,Bool.not_false,if_true];omega
 have Q:=Z (λ(V:D) (h:Bl W0 V)=>show Calls Tryz.prog 119 #[F (!t),C b lb cb] V λe c=>∃u,e=.returned u/\Jk c u (-y)/\Bl V c by
  have z:=H7 (!t) (C b lb cb) y.natAbs V (UN.below (UN.below g i) h);rw[r]at z;exact z)
 have R:=Z λ(V:D) (u:E) (h:Bl W0 V) (g:Jk V u (-y))=>MH _ u x (-y) V ((f.below i).below h) g ae (by rw[FN];exact af);clear f g r n;go_enter Tryz.func88,Tryz.ntmps88
 go_wp2_with fail
 try rw[d]
 clear d;have hq:Bl W0 W0.drew:=(BE _ W0).drew;obtain⟨A,B⟩:=b0.cp;obtain⟨I,K⟩:=j.cp;have ah:¬(w.heap.size=w.heap.size+1+1):=Y
 go_region_held3 (λc=>c.cell? ⟨w.heap.size,0,none⟩=some (F s)/\c.cell? ⟨w.heap.size,1,none⟩=some (C a la ca)/\c.cell? ⟨w.heap.size+1,0,none⟩=some (F t)/\c.cell? ⟨w.heap.size+1,1,none⟩=some (C b lb cb)) (refine⟨?_,?_,?_,?_⟩<;>(first|(go_keep;done)|((repeat rw[JW Y]);simp[*];done)))
  (first
   |(go_at_call 119;refine(Q.o _ hq).mono ?_;rintro e w1 ⟨u1,rfl,o,X⟩;obtain⟨na,nl,nc,rfl⟩:=o.form;obtain⟨s1,l⟩:=ex (decide (-y<0));rw[l]at o;rw[l];clear l;have hq:=Bt hq X;obtain⟨A,B⟩:=(b0.below hq).cp;obtain⟨I,K⟩:=(j.below hq).cp)
   |(go_at_call 121;refine(R.o _ _ hq o).mono ?_;rintro e w2 ⟨u2,rfl,q,ad⟩;obtain⟨M,sl,sc,rfl⟩:=q.form;obtain⟨L,m⟩:=ex (decide (x+-y<0));rw[m]at q;rw[m];clear m;have hq:=Bt hq ad;obtain⟨A,B⟩:=(b0.below hq).cp;obtain⟨I,K⟩:=(j.below hq).cp;obtain⟨r0,r1⟩:=(k.below hq).cp;obtain⟨f0,f1⟩:=(k.below hq).fp))
 all_goals go_wp2_with fail
 have T:=Bt i hq;have S:=q.box (k.below hq) rfl rfl (x0:=F L) (x1:=C M sl sc);exact BB (v:=H #[F L,C M sl sc]) (by simp[results,Tryz.results88,go_sem,r0,r1]) rfl ⟨_,rfl,by rw[Int.sub_eq_add_neg];exact S,(T.setCell (p:=⟨_,0,none⟩) so _).setCell (p:=⟨_,1,none⟩) so _⟩
theorem VH(a:Option Addr)(la ca:Nat)(b:Option Addr)(lb cb m n:Nat)(w:D)(t:la+lb<=1099511627776)
(i:Row .u64 w (C a la ca) (Jg J m))(j:Row .u64 w (C b lb cb) (Jg J n)):
 Calls Tryz.prog 120 #[C a la ca,C b lb cb] w λe q=>∃u,e=.returned u/\UN q u (m*n)/\Bl w q:=by
 have l:=IA (la+lb) Y w;rw[show((la+lb:Nat):Int)=(la:Int)+(lb:Int)from by omega]at l;obtain⟨c,d⟩:∃c,c=w.alloc (G (cellsOf .u64 (List.replicate (la+lb) 0)).toArray 156):=⟨_,rfl⟩;have f:Bl w c:=by rw[d];exact Ba w _
 have k:DO c w.heap.size (List.replicate (la+lb) 0):=by rw[d];exact DO.made (BD w _)
 rw[<-d]at l;have r:=Z (To w.heap.size (la+lb) (la+lb) (List.replicate (la+lb) 0) a la ca b lb cb m n c k (λx v=>by rw[C3 v];unfold J;omega) (by rw[Au];exact Aa _) (Aa _) Y t (Row.below i f) (Row.below j f)
  (λp e g=>by have:=Hh i e g;omega) λp e g=>by have:=Hh j e g;omega)
 clear d k i j;go_enter Tryz.func120,Tryz.ntmps120
 go_wp2_with(go_at_call 141;refine r.o.mono ?_;rintro e A ⟨u,rfl,⟨o,s⟩,_,_⟩;obtain⟨y,z,rfl⟩:=UN.form o)
 go_ret;exact⟨_,rfl,o,below_grown f s (Aa _)⟩
theorem Y1(Q R:E)(x y:Int)(w:D)(ha:Jk w Q x)(hb:Jk w R y)(hl:(Jg J x.natAbs).length+(Jg J y.natAbs).length<=1099511627776):
 Calls Tryz.prog 85 #[Q,R] w λe f=>∃u,e=.returned u/\Jk f u (x*y)/\Bl w f:=by
 obtain⟨a,la,ca,n,j⟩:=ha;cases n;obtain⟨b,lb,cb,n,z⟩:=hb;cases n;have W:=j.len;have X:=z.len;obtain⟨s,hs⟩:=ex (decide (x<0));obtain⟨t,q⟩:=ex (decide (y<0));have A:(if(!(s==t))=true then -((x.natAbs*y.natAbs:Nat):Int)else((x.natAbs*y.natAbs:Nat):Int))=x*y:=by
  rw[<-hs,<-q,<-Cr];rcases Int.lt_trichotomy x 0 with c|c|c<;>rcases Int.lt_trichotomy y 0 with d|d|d
  . have:=Int.mul_pos_of_neg_of_neg c d;simp[c,d];omega
  . subst d;simp
  . have:=Int.mul_neg_of_neg_of_pos c d;have g:¬y<0:=Y
    simp[c,g];omega
  . subst c;simp
  . subst c;simp
  . subst c;simp
  . have:=Int.mul_neg_of_pos_of_neg c d;have g:¬x<0:=Y
    simp[d,g];omega
  . subst d;simp
  . have:=Int.mul_pos c d;have g:¬x<0:=Y
    have h2:¬y<0:=Y
    simp[g,h2];omega
 rw[hs,q];obtain⟨W0,i⟩:=ex (((w.alloc (G #[F s,C a la ca] 63)).alloc (G #[F t,C b lb cb] 63)).alloc (G #[F false,C none 0 0] 63));have k:Bl w W0:=by rw[<-i];exact Hb w _ _ _
 have b0:Jq W0 w.heap.size 63 (F s) (C a la ca):=by rw[<-i];exact((Jq.new w _ _ _).alloc _).alloc _
 have l:Jq W0 (w.heap.size+1) 63 (F t) (C b lb cb):=by
  have h:=(Jq.new (w.alloc (G #[F s,C a la ca] 63)) 63 (F t) (C b lb cb)).alloc (G #[F false,C none 0 0] 63);rw[BA,i]at h;exact h
 have m:Jq W0 (w.heap.size+1+1) 63 (F false) (C none 0 0):=by
  have h:=Jq.new ((w.alloc (G #[F s,C a la ca] 63)).alloc (G #[F t,C b lb cb] 63)) 63 (F false) (C none 0 0);rw[BA,BA,i]at h;exact h
 have T:=Z λ(V:D) (h:Bl W0 V)=>VH a la ca b lb cb _ _ V Y (UN.below (UN.below j k) h) (UN.below (UN.below z k) h);have S:=Z (λ(V:D) (u:E) (j:UN V u (x.natAbs*y.natAbs))=>show Calls Tryz.prog 119 #[F (!(s==t)),u] V λe f=>∃u,e=.returned u/\Jk f u (x*y)/\Bl V f by
  have g:=H7 (!(s==t)) u _ V j;rw[A]at g;exact g)
 clear j z A hs q W X hl;go_enter Tryz.func85,Tryz.ntmps85
 go_wp2_with fail
 try rw[i]
 clear i;have hq:Bl W0 W0.drew:=(BE _ W0).drew;obtain⟨I,K⟩:=b0.cp;obtain⟨L,M⟩:=l.cp;have af:¬(w.heap.size=w.heap.size+1+1):=Y
 go_region_held3 (λf=>f.cell? ⟨w.heap.size,0,none⟩=some (F s)/\f.cell? ⟨w.heap.size,1,none⟩=some (C a la ca)/\f.cell? ⟨w.heap.size+1,0,none⟩=some (F t)/\f.cell? ⟨w.heap.size+1,1,none⟩=some (C b lb cb)) (refine⟨?_,?_,?_,?_⟩<;>(first|(go_keep;done)|((repeat rw[JW Y]);simp[*];done)))
  (first
   |(go_at_call 120;refine(T.o _ hq).mono ?_;rintro e w1 ⟨u1,rfl,B,ad⟩;obtain⟨na,nc,rfl⟩:=UN.form B;have hq:=Bt hq ad;obtain⟨I,K⟩:=(b0.below hq).cp;obtain⟨L,M⟩:=(l.below hq).cp)
   |(go_at_call 119;refine(S.o _ _ B).mono ?_;rintro e w2 ⟨u2,rfl,r,ae⟩;obtain⟨P,sl,sc,rfl⟩:=r.form;obtain⟨N,o⟩:=ex (decide (x*y<0));rw[o]at r;rw[o];clear o;have hq:=Bt hq ae;obtain⟨I,K⟩:=(b0.below hq).cp;obtain⟨L,M⟩:=(l.below hq).cp;obtain⟨r0,r1⟩:=(m.below hq).cp;obtain⟨f0,f1⟩:=(m.below hq).fp))
 all_goals go_wp2_with fail
 have Qf:=Bt k hq;have U:=r.box (m.below hq) rfl rfl (x0:=F N) (x1:=C P sl sc);exact BB (v:=H #[F N,C P sl sc]) (by simp[results,Tryz.results85,go_sem,r0,r1]) rfl ⟨_,rfl,U,(Qf.setCell (p:=⟨_,0,none⟩) so _).setCell (p:=⟨_,1,none⟩) so _⟩
end
namespace M3
structure Dat where
 ty:TypeId
 has:World->Value->Prop
 noPoly:Bool
 below:∀ {V V':World} {v:Value},has V v->Bl V V'->has V' v
 keep:∀ {V V':World} {v:Value},has V v->(∀k v ds,Row k V v ds->Row k V' v ds)->(noPoly=true\/∀v qs,RowK true V v qs->RowK true V' v qs)->has V' v
def Dat.int(z:Int):Dat where
 ty:=63
 has V v:=Jk V v z
 noPoly:=true
 below h hb:=Jk.below h hb
 keep h hk _:=by
  obtain⟨a,l,c,e,b⟩:=h;exact⟨a,l,c,e,hk _ _ _ b⟩
def Dat.rat(q:Rat):Dat where
 ty:=65
 has V v:=Jj V v q
 noPoly:=true
 below h hb:=Jj.below h hb
 keep h hk _:=by
  obtain⟨s,a,l,c,t,b,k,d,e,⟨f,l1,c1,i,m⟩,⟨g,l2,c2,j,n⟩⟩:=h;exact⟨s,a,l,c,t,b,k,d,e,⟨f,l1,c1,i,hk _ _ _ m⟩,⟨g,l2,c2,j,hk _ _ _ n⟩⟩
def Dat.ref(q:Rat):Dat where
 ty:=85
 has V v:=F3 V v q
 noPoly:=true
 below h hb:=F3.below h hb
 keep h hk _:=by
  obtain⟨s,a,l,c,t,b,k,d,e,⟨f,l1,c1,i,m⟩,⟨g,l2,c2,j,n⟩⟩:=h;exact⟨s,a,l,c,t,b,k,d,e,⟨f,l1,c1,i,hk _ _ _ m⟩,⟨g,l2,c2,j,hk _ _ _ n⟩⟩
def Dat.rats(qs:List Rat):Dat where
 ty:=65
 has V v:=∃cs,v=H cs/\∀j,j<qs.length->∃x y z u,cs[j*4]?=some x/\cs[j*4+1]?=some y/\cs[j*4+2]?=some z/\cs[j*4+3]?=some u/\ED true V (H #[x,y,z,u]) (cf qs j)
 noPoly:=true
 below h hb:=by
  obtain⟨cs,e,h⟩:=h;refine⟨cs,e,λj g=>?_⟩;obtain⟨x,y,z,u,a,b,c,d,f⟩:=h j g;exact⟨x,y,z,u,a,b,c,d,f.below hb⟩
 keep h hk _:=by
  obtain⟨cs,e,h⟩:=h;refine⟨cs,e,λj g=>?_⟩;obtain⟨x,y,z,u,a,b,c,d,f⟩:=h j g;exact⟨x,y,z,u,a,b,c,d,f.keep hk⟩
def Dat.poly(ps:List Rat):Dat where
 ty:=25
 has V v:=Jc V v ps
 noPoly:=false
 below h hb:=Jc.below h hb
 keep h _ hp:=by
  rcases hp with hp|hp
  . cases hp
  . obtain⟨u,e,a⟩:=h;exact⟨u,e,hp _ _ a⟩
def Dat.cell(t:TypeId)(x:E):Dat where
 ty:=t
 has _ v:=v=H #[x]/\JG x=true
 noPoly:=true
 below h _:=h
 keep h _ _:=h
def Has(V:D)(v:E)(d:Dat):Prop:=d.has V v
theorem Has.below{V V':D}{v:E}{d:Dat}(h:Has V v d)(a:Bl V V'):Has V' v d:=d.below h a
theorem Has.alloc{V:D}{v:E}{d:Dat}(h:Has V v d)(o:Obj):Has (V.alloc o) v d:=h.below (Ba V o)
theorem Has.keep{V V':D}{v:E}{d:Dat}(h:Has V v d)(a:∀k v ds,Row k V v ds->Row k V' v ds)(hp:d.noPoly=true\/∀v qs,RowK true V v qs->RowK true V' v qs):Has V' v d:=d.keep h a hp
def Bx(V:D)(B:Nat)(t:TypeId)(cs:Array E):Prop:=V.heap[B]?=some (G cs t (0,0))
variable{cs:Array E}{d:Dat}{bs:List (Option (Nat × Dat))}{qs:List Rat}{B i:Nat}{q:Rat}{t:TypeId}{u x x0 y z:E}{V V' w:D}
theorem Bx.lt(h:Bx V B t cs):B<V.heap.size:=(Ae.1 h).1
theorem Bx.below(h:Bx V B t cs)(a:Bl V V'):Bx V' B t cs:=(a.block B h.lt).trans h
theorem Bx.far(h:Bx V B t cs){p:Addr}(hp:B≠p.block)(u:E):Bx (V.setCell p u) B t cs:=(BC V p u B hp).trans h
def noPoly:List (Option (Nat × Dat))->Bool
 |[]=>true
 |some (_,d)::t=>d.noPoly&&noPoly t
 |Option.none::t=>noPoly t
theorem PE(h:noPoly bs=true){x:Nat × Dat}(e:bs[i]?=some (some x)):x.2.noPoly=true:=by
 induction bs generalizing i with
 |nil=>simp at e
 |cons b t a=>
  cases b with
  |none=>
   cases i with
   |zero=>simp at e
   |succ i=>exact a h (by simpa using e)
  |some y=>
   rw[noPoly,Co]at h;cases i with
   |zero=>simp at e;rw[<-e];exact h.1
   |succ i=>exact a h.2 (by simpa using e)
def Mem(w V:D)(bs:List (Option (Nat × Dat))):Prop:=
 (∀(i:Nat) B d,bs[i]?=some (some (B,d))->(∃cs,Bx V B d.ty cs/\Has V (H cs) d)/\w.heap.size<=B)/\
 (∀(i j:Nat) B d a,bs[i]?=some (some (B,d))->bs[j]?=some (some (B,a))->i=j)/\Bl w V
theorem Mem.nil(w:D):Mem w w []:=⟨λi B z h=>by simp at h,λi j B z a h=>by simp at h,BE _ w⟩
theorem Mem.int{w V:D}{bs:List (Option (Nat × Dat))}(M:Mem w V bs){i B:Nat}{z:Int}(h:bs[i]?=some (some (B,.int z))):∃s a l c,Jq V B 63 (F s) (C a l c)/\Jk V (H #[F s,C a l c]) z:=by
 obtain⟨⟨cs,b,d⟩,_⟩:=M.1 i B _ h;obtain⟨a,l,c,e,f⟩:=d;cases e;exact⟨_,a,l,c,b,a,l,c,rfl,f⟩
theorem Mem.rat{w V:D}{bs:List (Option (Nat × Dat))}(M:Mem w V bs){i B:Nat}{q:Rat}(h:bs[i]?=some (some (B,.rat q))):
 ∃s a l c t b k d,JN V B 65 (F s) (C a l c) (F t) (C b k d)/\Jj V (H #[F s,C a l c,F t,C b k d]) q/\Jk V (H #[F s,C a l c]) q.num/\Jk V (H #[F t,C b k d]) (Dp q):=by
 obtain⟨⟨cs,m,f⟩,_⟩:=M.1 i B _ h;have n:=f;obtain⟨s,a,l,c,t,b,k,d,e,g,j⟩:=f;cases e;exact⟨s,a,l,c,t,b,k,d,m,n,g,j⟩
theorem Mem.below{w V V':D}{bs:List (Option (Nat × Dat))}(M:Mem w V bs)(a:Bl V V'):Mem w V' bs:=
 ⟨λi B z h=>by
  obtain⟨⟨cs,b,c⟩,d⟩:=M.1 i B z h;exact⟨⟨cs,b.below a,c.below a⟩,d⟩,M.2.1,Bt M.2.2 a⟩
theorem Mem.drew{w V:D}{bs:List (Option (Nat × Dat))}(M:Mem w V bs):Mem w V.drew bs:=M.below ((BE _ V).drew)
theorem Mem.sub{cs:List (Option (Nat × Dat))}(M:Mem w V bs)(f:Nat->Nat)(e:∀(i j:Nat),f i=f j->i=j)(h:∀(i:Nat) x,cs[i]?=some (some x)->bs[f i]?=some (some x)):Mem w V cs:=
 ⟨λi B d a=>M.1 (f i) B d (h i _ a),λi j B d b a c=>e i j (M.2.1 (f i) (f j) B d b (h i _ a) (h j _ c)),M.2.2⟩
theorem Mem.take{w V:D}{bs:List (Option (Nat × Dat))}(M:Mem w V bs)(n:Nat):Mem w V (bs.take n):=by
 refine M.sub id (λ_ _ h=>h) λi x h=>?_;rw[Fu]at h;split at h
 . exact h
 . cases h
theorem Mem.none{w V:D}{bs:List (Option (Nat × Dat))}(M:Mem w V bs):Mem w V (bs++[Option.none]):=by
 refine M.sub id (λ_ _ h=>h) λi x h=>?_;by_cases a:i<bs.length
 . rwa[A5 a]at h
 . rw[AW Y]at h;obtain⟨k,b⟩:=ex (i-bs.length);rw[b]at h;cases k<;>simp at h
theorem Mem.fill(M:Mem w V bs)(h:bs[i]?=some Option.none)(d:Dat)(q:Has V (H cs) d):
 Mem w (V.alloc (G cs d.ty)) (bs.set i (some (V.heap.size,d))):=by
 have m:Bl V (V.alloc (G cs d.ty)):=Ba V _;have f:i<bs.length:=(Af.1 h).1;have l:=M.below m;have n:∀(j:Nat) B d,bs[j]?=some (some (B,d))->B<V.heap.size:=λj B d h=>by
  obtain⟨⟨_,a,_⟩,_⟩:=M.1 j B d h;exact a.lt
 refine⟨λj B p e=>?_,λj k B d1 o a b=>?_,l.2.2⟩
 . by_cases c:i=j
   . subst c;rw[A3 f]at e;simp at e;obtain⟨rfl,rfl⟩:=e;exact⟨⟨cs,BD V _,q.below m⟩,M.2.2.size⟩
   . rw[AU c]at e;exact l.1 j B p e
 . by_cases c:i=j<;>by_cases g:i=k
   . omega
   . subst c;rw[A3 f]at a;rw[AU g]at b;simp at a;have:=n k B o b;omega
   . subst g;rw[A3 f]at b;rw[AU c]at a;simp at b;have:=n j B d1 a;omega
   . rw[AU c]at a;rw[AU g]at b;exact M.2.1 j k B d1 o a b
theorem Mem.push(M:Mem w V bs)(d:Dat)(a:Has V (H cs) d):Mem w (V.alloc (G cs d.ty)) (bs++[some (V.heap.size,d)]):=by
 have h:=M.none.fill (i:=bs.length) O d a;rwa[PA]at h
theorem Mem.repl(M:Mem w V bs)(h:bs[i]?=some (some (B,d)))(c:Dat)(z:Bx V' B c.ty cs)(A:Has V (H cs) c)
(o:∀k v ds,Row k V v ds->Row k V' v ds)(I:∀B' t cs,B'≠B->Bx V B' t cs->Bx V' B' t cs)(y:Bl w V')
(hp:noPoly bs=true\/∀v qs,RowK true V v qs->RowK true V' v qs)(K:c.noPoly=true\/∀v qs,RowK true V v qs->RowK true V' v qs):Mem w V' (bs.set i (some (B,c))):=by
 have n:i<bs.length:=(Af.1 h).1;obtain⟨_,L⟩:=M.1 i B d h;refine⟨λj B' d1 a=>?_,λj k B' d1 r u x=>?_,y⟩
 . by_cases b:i=j
   . subst b;rw[A3 n]at a;simp at a;obtain⟨rfl,rfl⟩:=a;exact⟨⟨cs,z,A.keep o K⟩,L⟩
   . rw[AU b]at a;obtain⟨⟨q,g,l⟩,N⟩:=M.1 j B' d1 a;have p:B'≠B:=λe=>b (by rw[e]at a;exact M.2.1 i j B d d1 h a);exact⟨⟨q,I _ _ _ p g,l.keep o (hp.imp (λh=>PE h a) id)⟩,N⟩
 . have m:∀(j:Nat) d1,(bs.set i (some (B,c)))[j]?=some (some (B',d1))->∃f,bs[j]?=some (some (B',f)):=λj d1 a=>by
    by_cases b:i=j
    . subst b;rw[A3 n]at a;simp at a;exact⟨d,by rw[h,a.1]⟩
    . rw[AU b]at a;exact⟨d1,a⟩
   obtain⟨f,g⟩:=m j d1 u;obtain⟨s,l⟩:=m k r x;exact M.2.1 j k B' f s g l
theorem Kk(h:Bx V B t cs){o:Nat}(e:cs[o]?=some x0)(n:JG x0=true)(r:Bool)(m:t≠Ix r)(x:E)(v:E)(qs:List Rat)(d:RowK r V v qs):RowK r (V.setCell ⟨B,o,Option.none⟩ x) v qs:=by
 obtain⟨a,cap,ev,j,k,l,c⟩:=d;refine⟨a,cap,ev,j,k,l,?_⟩;rcases c with c|⟨b,i,g⟩
 . exact Or.inl c
 . refine Or.inr ⟨b,i,g.keep (BC V ⟨B,o,Option.none⟩ x b ?_) λ_ _ _ d=>Row.set d (cell_of h e) n _⟩;rintro rfl;obtain⟨p,f,_⟩:=g;rw[show V.heap[b]?=_ from h]at f;cases f;exact m rfl
theorem VI{a:E}(q:Jq V B t x0 a){r:Bool}(b:t≠Ix r)(c:JG x0=true)(d:JG a=true)(x y:E):∀v qs,RowK r V v qs->RowK r ((V.setCell ⟨B,0,Option.none⟩ x).setCell ⟨B,1,Option.none⟩ y) v qs:=
 λv qs h=>Kk (cs:=#[x,a]) (q.set0 x) (o:=1) rfl d r b y v qs (Kk (cs:=#[x0,a]) q (o:=0) rfl c r b x v qs h)
theorem keep2(q:Jq V B t x y)(b:JG x=true)(c:JG y=true)(a d:E):∀k v ds,Row k V v ds->Row k ((V.setCell ⟨B,0,Option.none⟩ a).setCell ⟨B,1,Option.none⟩ d) v ds:=
 λ_ _ _ h=>Row.set (Row.set h q.c0 b _) (q.set0 a).c1 c _
theorem Mem.putInt(M:Mem w V bs){j:Int}(h:bs[i]?=some (some (B,.int j))){z:Int}(f:Jk V (H #[x,y]) z):
 Mem w ((V.setCell ⟨B,0,Option.none⟩ x).setCell ⟨B,1,Option.none⟩ y) (bs.set i (some (B,.int z))):=by
 obtain⟨s,a,l,c,b,_⟩:=M.int h;obtain⟨_,e⟩:=M.1 i B _ h;exact M.repl h (.int z) (cs:=#[x,y]) ((b.set0 x).set1 y) f (keep2 b rfl rfl x y) (λB' t cs d g=>(g.far (p:=⟨B,0,Option.none⟩) d _).far (p:=⟨B,1,Option.none⟩) d _) ((M.2.2.setCell (p:=⟨B,0,Option.none⟩) e _).setCell (p:=⟨B,1,Option.none⟩) e _) (Or.inr (VI b DL rfl rfl x y)) (Or.inl rfl)
theorem far4(x y z u:E):∀B' t cs,B'≠B->Bx V B' t cs->Bx (put4 V B x y z u) B' t cs:=λ_ _ _ a g=>(((g.far (p:=⟨B,0,Option.none⟩) a _).far (p:=⟨B,1,Option.none⟩) a _).far (p:=⟨B,2,Option.none⟩) a _).far (p:=⟨B,3,Option.none⟩) a _
theorem Mem.putRat(M:Mem w V bs){q0:Rat}(h:bs[i]?=some (some (B,.rat q0)))(b:Jj V (H #[x,y,z,u]) q)(d:noPoly bs=true:=by rfl):
 Mem w (put4 V B x y z u) (bs.set i (some (B,.rat q))):=by
 obtain⟨_,_,_,_,_,_,_,_,a,_⟩:=M.rat h;obtain⟨_,c⟩:=M.1 i B _ h;exact M.repl h (.rat q) (cs:=#[x,y,z,u]) (a.put x y z u) b (λ_ _ _ g=>Row.put4 g a rfl rfl rfl rfl _ _ _ _) (far4 x y z u) (JC M.2.2 c _ _ _ _) (Or.inl d) (Or.inl rfl)
theorem Has.set2{v:E}(h:Has V v d)(q:Jq V B t x y)(e:JG x=true)(f:JG y=true)(a b:E)(c:d.noPoly=true:=by rfl):Has ((V.setCell ⟨B,0,Option.none⟩ a).setCell ⟨B,1,Option.none⟩ b) v d:=h.keep (keep2 q e f a b) (Or.inl c)
theorem Has.put4{V:D}{v:E}{d:Dat}(h:Has V v d){B:Nat}{t:TypeId}{x y z u:E}(q:JN V B t x y z u)(b:JG x=true)(c:JG y=true)(e:JG z=true)(f:JG u=true)(j k l i:E)(a:d.noPoly=true:=by rfl):Has (Go.Proofs.YteldjhhjnchdeaaGreatDoor.put4 V B j k l i) v d:=h.keep (λ_ _ _ g=>Row.put4 g q b c e f _ _ _ _) (Or.inl a)
theorem Mem.ne(M:Mem w V bs)(i j:Nat){B':Nat}{a:Dat}(h:bs[i]?=some (some (B,d)))(b:bs[j]?=some (some (B',a)))(c:i≠j):B≠B':=λe=>by
 subst e;exact c (M.2.1 i j B d a h b)
theorem Mem.ge(M:Mem w V bs)(i:Nat)(h:bs[i]?=some (some (B,d))):w.heap.size<=B:=(M.1 i B d h).2
def Tup2(V:D)(t:E)(d1 a:Dat):Prop:=∃u1 u2,t=.tuple #[u1,u2,F true]/\Has V u1 d1/\Has V u2 a
theorem Tup2.below{V V':D}{t:E}{d1 a:Dat}(h:Tup2 V t d1 a)(b:Bl V V'):Tup2 V' t d1 a:=by
 obtain⟨u1,u2,e,c,d⟩:=h;exact⟨u1,u2,e,c.below b,d.below b⟩
theorem Tup2.alloc{V:D}{t:E}{d1 a:Dat}(h:Tup2 V t d1 a)(o:Obj):Tup2 (V.alloc o) t d1 a:=by
 obtain⟨u1,u2,e,b,c⟩:=h;exact⟨u1,u2,e,b.alloc o,c.alloc o⟩
theorem Tup2.set2{V:D}{v:E}{d1 a:Dat}(h:Tup2 V v d1 a){B:Nat}{t:TypeId}{x y:E}(q:Jq V B t x y)(d:JG x=true)(f:JG y=true)(b c:E)(j:d1.noPoly=true:=by rfl)(k:a.noPoly=true:=by rfl):Tup2 ((V.setCell ⟨B,0,Option.none⟩ b).setCell ⟨B,1,Option.none⟩ c) v d1 a:=by
 obtain⟨u1,u2,e,g,i⟩:=h;exact⟨u1,u2,e,g.set2 q d f b c j,i.set2 q d f b c k⟩
theorem Mem.rats{w V:D}{bs:List (Option (Nat × Dat))}(M:Mem w V bs){i B:Nat}{qs:List Rat}(h:bs[i]?=some (some (B,.rats qs))):Dn true V B qs:=by
 obtain⟨⟨cs,b,a⟩,_⟩:=M.1 i B _ h;obtain⟨c,e,a⟩:=a;cases e;exact⟨cs,b,a⟩
theorem Mem.putRats(M:Mem w V bs)(h:bs[i]?=some (some (B,.rats qs))){j:Nat}(o:j<qs.length)(L:Jj V (H #[x,y,z,u]) q)(Q:noPoly bs=true:=by rfl):
 Mem w (putAt V B (j*4) x y z u) (bs.set i (some (B,.rats (qs.set j q)))):=by
 have n:=M.rats h;obtain⟨_,p⟩:=M.1 i B _ h;obtain⟨cs,c1,c2⟩:=Dn.set (r:=true) n o L;have N:=n.putKeep o x y z u;have m:i<bs.length:=(Af.1 h).1;refine⟨λb B' d1 a=>?_,λb k B' d1 v I K=>?_,PC M.2.2 p _ _ _ _⟩
 . by_cases c:i=b
   . subst c;rw[A3 m]at a;simp at a;obtain⟨rfl,rfl⟩:=a;exact⟨⟨cs,c1,cs,rfl,c2⟩,p⟩
   . rw[AU c]at a;obtain⟨⟨t,f,g⟩,P⟩:=M.1 b B' d1 a;have s:B'≠B:=λe=>c (by rw[e]at a;exact M.2.1 i b B _ d1 h a);exact⟨⟨t,(Iy s x y z u).trans f,g.keep N (Or.inl (PE Q a))⟩,P⟩
 . have l:∀(b:Nat) d1,(bs.set i (some (B,.rats (qs.set j q))))[b]?=some (some (B',d1))->∃d,bs[b]?=some (some (B',d)):=λb d1 a=>by
    by_cases c:i=b
    . subst c;rw[A3 m]at a;simp at a;exact⟨_,by rw[h,a.1]⟩
    . rw[AU c]at a;exact⟨d1,a⟩
   obtain⟨d,f⟩:=l b d1 I;obtain⟨A,g⟩:=l k v K;exact M.2.1 b k B' d A f g
theorem Mem.cell{w V:D}{bs:List (Option (Nat × Dat))}(M:Mem w V bs){i B:Nat}{t:TypeId}{v:E}(h:bs[i]?=some (some (B,.cell t v))):Boxed V B t v/\JG v=true:=by
 obtain⟨⟨cs,b,a⟩,_⟩:=M.1 i B _ h;obtain⟨e,a⟩:=a;cases e;exact⟨b,a⟩
theorem Mem.poly{w V:D}{bs:List (Option (Nat × Dat))}(M:Mem w V bs){i B:Nat}{ps:List Rat}(h:bs[i]?=some (some (B,.poly ps))):∃a l c,Boxed V B 25 (C a l c)/\RowK true V (C a l c) ps:=by
 obtain⟨⟨cs,d,b⟩,_⟩:=M.1 i B _ h;obtain⟨a,l,c,e⟩:=Jc.form b;cases e;exact⟨a,l,c,d,Jc.row b⟩
theorem PF(q:Boxed V B t x)(a:JG x=true)(b:E):∀k v ds,Row k V v ds->Row k (V.setCell ⟨B,0,Option.none⟩ b) v ds:=
 λ_ _ _ h=>Row.set h q.cell a _
theorem Mem.putPoly(M:Mem w V bs){k:List Rat}(h:bs[i]?=some (some (B,.poly k))){ps:List Rat}(e:Jc V (H #[x]) ps):
 Mem w (V.setCell ⟨B,0,Option.none⟩ x) (bs.set i (some (B,.poly ps))):=by
 obtain⟨a,l,c,b,_⟩:=M.poly h;obtain⟨_,j⟩:=M.1 i B _ h;have d:∀v qs,RowK true V v qs->RowK true (V.setCell ⟨B,0,Option.none⟩ x) v qs:=Kk (cs:=#[C a l c]) b (o:=0) rfl rfl true DL x;exact M.repl h (.poly ps) (cs:=#[x]) (b.set x) e (PF b rfl x) (λB' t cs f g=>g.far (p:=⟨B,0,Option.none⟩) f _) (M.2.2.setCell (p:=⟨B,0,Option.none⟩) j _) (Or.inr d) (Or.inr d)
theorem Mem.adopt(M:Mem w V bs)(l:Bl V V'){g:Nat}(n:V.heap.size<=g)(m:Dn true V' g qs):Mem w V' (bs++[some (g,.rats qs)]):=by
 have e:=M.below l;have f:∀(j:Nat) B d,bs[j]?=some (some (B,d))->B<V.heap.size:=λj B d h=>by
  obtain⟨⟨_,a,_⟩,_⟩:=M.1 j B d h;exact a.lt
 have c:∀(j:Nat) x,(bs++[some (g,Dat.rats qs)])[j]?=some (some x)->bs[j]?=some (some x)\/(j=bs.length/\x=(g,.rats qs)):=λj x h=>by
  by_cases o:j<bs.length
  . rw[A5 o]at h;exact Or.inl h
  . rw[AW Y]at h;obtain⟨k,p⟩:=ex (j-bs.length);rw[p]at h;cases k with
    |zero=>simp at h;exact Or.inr ⟨Y,h.symm⟩
    |succ k=>simp at h
 refine⟨λj B d h=>?_,λj k B d1 i a b=>?_,e.2.2⟩
 . rcases c j _ h with h|⟨_,h⟩
   . exact e.1 j B d h
   . cases h;obtain⟨cs,c1,c2⟩:=m;exact⟨⟨cs,c1,cs,rfl,c2⟩,Aw M.2.2.size n⟩
 . rcases c j _ a with a|⟨q,a⟩<;>rcases c k _ b with b|⟨r,b⟩
   . exact M.2.1 j k B d1 i a b
   . cases b;have:=f j _ _ a;omega
   . cases a;have:=f k _ _ b;omega
   . omega
end M3
def PG(W:D)(b:Nat)(xs:List Nat):Prop:=∃a:List E,W.heap[b]?=some (G (cellsOf .i64 xs++a).toArray 3 (0,0))
variable{a:Act}{K:Act->D->Prop}{c:Array Oper}{Q:Exit->Act->D->Prop}{i:Nat}{o:Oper}{P:Program}{w:D}
theorem PG.lt{W:D}{b:Nat}{xs:List Nat}(h:PG W b xs):b<W.heap.size:=by obtain⟨_,h⟩:=h;exact(Ae.1 h).1
theorem J0(d:c[i]?=some o)(e:Region.wanted o (yielded c a.tmps)=true)
(h:∀b:Act->D->Prop,(∀a w,K a w->b a w)->o.wp P a w b Q):wpOp P c Q i K a w:=by
 unfold wpOp;rw[d];simp only[e,if_true];exact Or.inl (h K λ_ _ h=>h)
theorem EN{p q:Prop}(k:q)(h:Hid q->p:=by intro x;refine J0 rfl rfl λK a=>?_;go_simp;refine a _ _ ?_;(repeat apply Exists.intro);refine ⟨rfl,?_⟩;exact x.o):p:=h k
theorem Yf(b:c[i]?=some o)(d:Region.wanted o (yielded c a.tmps)=false)
(h:K (a.put o.dst undef) w):wpOp P c Q i K a w:=by
 unfold wpOp;rw[b];simp only[d];exact h

