import Derived.Test.YteldjhhjnchdeaaGreatDoorT03
import Derived.Deep.RegionHeld3
open Go.Value renaming slice->C,bool->E
open Go.Obj renaming cells->D
open Go renaming World->F,Value->G
open Go.Proofs.Tryz renaming prog->H
open Go.RowKit renaming Below->I
set_option maxRecDepth 100000
set_option maxHeartbeats 16000000
namespace Go.Proofs.YteldjhhjnchdeaaGreatDoor
open Go.RowKit Go.Shelf
theorem BK:type_of% @decide_eq_true:=@decide_eq_true
def Jn(W:F)(B:Nat)(t:TypeId)(x y:G):Prop:=W.heap[B]?=some (D #[x,y] t (0,0))
variable{k:IntKind}{f:List Nat}{B N c n:Nat}{t:TypeId}{v x y:G}{W W' i w:F}
theorem Jn.lt(h:Jn W B t x y):B<W.heap.size:=(Ab.1 h).1
theorem Jn.c0(h:Jn W B t x y):W.cell? ⟨B,0,none⟩=some x:=by simp[World.cell?,show W.heap[B]?=_ from h]
theorem Jn.c1(h:Jn W B t x y):W.cell? ⟨B,1,none⟩=some y:=by simp[World.cell?,show W.heap[B]?=_ from h]
theorem Jn.cp(h:Jn W B t x y):type_of% (And.intro h.c0 h.c1):=⟨h.c0,h.c1⟩
theorem Jn.f0(h:Jn W B t x y):W.frozen? ⟨B,0,none⟩=false:=by simp[World.frozen?,show W.heap[B]?=_ from h]
theorem Jn.f1(h:Jn W B t x y):W.frozen? ⟨B,1,none⟩=false:=by simp[World.frozen?,show W.heap[B]?=_ from h]
theorem Jn.fp(h:Jn W B t x y):type_of% (And.intro h.f0 h.f1):=⟨h.f0,h.f1⟩
theorem Jn.new(W:F)(t:TypeId)(x y:G):Jn (W.alloc (D #[x,y] t)) W.heap.size t x y:=BE W _
theorem Jn.below(h:Jn W B t x y)(a:I W.heap.size W W'):Jn W' B t x y:=(a.block B h.lt).trans h
theorem Jn.alloc{W:F}{B:Nat}{t:TypeId}{x y:G}(h:Jn W B t x y)(o:Obj):Jn (W.alloc o) B t x y:=h.below ((BB _ W).alloc (Aa _) o)
theorem Jn.drew{W:F}{B:Nat}{t:TypeId}{x y:G}(h:Jn W B t x y):Jn W.drew B t x y:=h
theorem Jn.set0(h:Jn W B t x y)(u:G):Jn (W.setCell ⟨B,0,none⟩ u) B t u y:=by
 obtain⟨b,a⟩:=Ab.1 h;show(W.heap.modify B _)[B]?=_;rw[Ca (by rw[CI];exact b),Cj,a];rfl
theorem Jn.set1(h:Jn W B t x y)(u:G):Jn (W.setCell ⟨B,1,none⟩ u) B t x u:=by
 obtain⟨b,a⟩:=Ab.1 h;show(W.heap.modify B _)[B]?=_;rw[Ca (by rw[CI];exact b),Cj,a];rfl
theorem Jn.far(h:Jn W B t x y){p:Addr}(hp:B≠p.block)(u:G):Jn (W.setCell p u) B t x y:=(BD W p u B hp).trans h
theorem Below.then{w W a:F}(h:I w.heap.size w W)(k:I W.heap.size W a):I w.heap.size w a:=h.trans (k.mono h.size)
theorem Bt:type_of% @Below.then:=@Below.then
theorem JH{b o a c:Nat}{u:G}(h:b≠a):(w.setCell ⟨a,c,none⟩ u).cell? ⟨b,o,none⟩=w.cell? ⟨b,o,none⟩:=
 World.cell?_of_block (w:=w) (BD w ⟨a,c,none⟩ u b h)
def Jz:G->Bool|.int _ _=>false|_=>true
theorem Row.set{k:IntKind}{W:F}{v:G}{ds:List Nat}(h:Row k W v ds){p:Addr}{u0:G}(hp:W.cell? p=some u0)(r:Jz u0=true)(u:G):Row k (W.setCell p u) v ds:=by
 obtain⟨a,cap,e,f,q,l,d⟩:=h;refine⟨a,cap,e,f,q,l,?_⟩;rcases d with d|⟨b,off,s,i,o⟩
 . exact Or.inl d
 . refine Or.inr ⟨b,off,s,i.set p u,λj g=>?_⟩;have c:=o j g;have n:p≠⟨b,off+j,none⟩:=by
    intro m;rw[<-m,hp]at c;cases c;simp[Jz]at r
   exact(World.cell?_setCell_other (h:=n) ..).trans c
theorem YO{R:Nat}{u0 u1:G}(x0 x1:G){ds:List Nat}(c:I w.heap.size w i)(a:w.heap.size<=R)(q:Jn i R t u0 u1)(n0:Jz u0=true)(b:Jz u1=true)(d:Row k i v ds):
 Row k ((i.setCell ⟨R,0,none⟩ x0).setCell ⟨R,1,none⟩ x1) v ds/\I w.heap.size w ((i.setCell ⟨R,0,none⟩ x0).setCell ⟨R,1,none⟩ x1):=
 ⟨Row.set (Row.set d q.c0 n0 _) (u0:=u1) (q.set0 x0).c1 b _,(c.setCell a _).setCell a _⟩
theorem RN.below{W W':F}{v:G}{n:Nat}(h:RN W v n)(a:I W.heap.size W W'):RN W' v n:=Row.below h a
theorem RN.form(h:RN W v n):∃a cap,v=C a (Jc 10000 n).length cap:=by
 obtain⟨a,cap,e,_⟩:=h;exact⟨a,cap,e⟩
theorem PN(a b:G)(m n:Nat)(w:F)(c:RN w a m)(f:RN w b n):
 Calls H 114 #[a,b] w λe d=>e=.returned (.int .i64 (Y9 m n))/\I w.heap.size w d:=by
 have h:=NQ 10000 om a b _ _ w c f (Jp om m) (Jp om n) (Yk om m) (Yk om n);rw[Jo om,Jo om]at h;exact h
theorem Xn(w:F)(b c a:Obj):I w.heap.size w (((w.alloc b).alloc c).alloc a):=
 (((BB _ w).alloc (Aa _) _).alloc DQ _).alloc si _
theorem PO{m:Nat}(h:n<=m):0<=Y9 m n:=by
 rcases AO n m with g|g
 . rw[IY g];omega
 . have:m=n:=om
   rw[this,NA];omega
theorem UH(a b:Option Addr)(la lb ca cb m n:Nat)(s:Bool)(w:F)(z:RN w (C a la ca) m)(K:RN w (C b lb cb) n)(t:(Jc 10000 m).length<=1000000000)(J:(Jc 10000 n).length<=1000000000):
 Calls H 81 #[.agg #[C a la ca,E s],.agg #[C b lb cb,E s]] w λe i=>∃c o p,e=.returned (.agg #[C c o p,E (s&&decide (0<o))])/\RN i (C c o p) (m+n)/\I w.heap.size w i:=by
 have L:¬(w.heap.size=w.heap.size+1+1):=om
 go_enter Tryz.func81,Tryz.ntmps81
 go_wp2_with fail
 have f:=Xn w (D #[C a la ca,E s] 83) (D #[C b lb cb,E s] 83) (D #[C none 0 0,E false] 83);have b0:=((Jn.new w 83 (C a la ca) (E s)).alloc (D #[C b lb cb,E s] 83)).alloc (D #[C none 0 0,E false] 83);have g:=(Jn.new (w.alloc (D #[C a la ca,E s] 83)) 83 (C b lb cb) (E s)).alloc (D #[C none 0 0,E false] 83);have d:=Jn.new ((w.alloc (D #[C a la ca,E s] 83)).alloc (D #[C b lb cb,E s] 83)) 83 (C none 0 0) (E false);simp only[A1]at g d;go_region_held3 (λi=>i.cell? ⟨w.heap.size,0,none⟩=some (C a la ca)/\i.cell? ⟨w.heap.size+1,0,none⟩=some (C b lb cb)/\i.cell? ⟨w.heap.size,1,none⟩=some (E s)) (refine⟨?_,?_,?_⟩<;>(first|(go_keep;done)|((repeat rw[JH om]);simp[*];done)))
  (first
   |(go_at_call 113;refine(UC _ _ m n _ ?_ ?_ t J).mono ?_;exact z.below f.drew;exact K.below f.drew;rintro e N ⟨u,rfl,l,k⟩;obtain⟨a',c',rfl⟩:=l.form;have b0:=b0.drew.below k;have g:=g.drew.below k;have d:=d.drew.below k;have f:=Below.then f.drew k;have x:=b0.c0;have r:=b0.c1;have q:=g.c0)
   |(go_at_call 112;refine(Ia _ _ _ _ _).mono ?_;rintro e M ⟨rfl,j⟩;have l:=Row.below l j;have b0:=b0.below j;have g:=g.below j;have d:=d.below j;have f:=Below.then f j;have x:=b0.c0;have r:=b0.c1;have q:=g.c0;have r0:=d.c0;have y:=d.c1;have f0:=d.f0;have f1:=d.f1))
 all_goals go_wp2_with fail
 obtain⟨B,A⟩:=YO (C a' (Jc 10000 (m+n)).length c') (E (s&&decide (0<(Jc 10000 (m+n)).length))) f om d rfl rfl l;exact BA (v:=.agg #[C a' (Jc 10000 (m+n)).length c',E (s&&decide (0<(Jc 10000 (m+n)).length))]) (by simp[results,Tryz.results81,go_sem,r0,y]) rfl ⟨_,_,_,rfl,B,A⟩
theorem UI(a b:Option Addr)(la lb ca cb m n:Nat)(s:Bool)(w:F)(z:RN w (C a la ca) m)(A:RN w (C b lb cb) n)(B:(Jc 10000 m).length<=1000000000)(q:n<=m):
 Calls H 81 #[.agg #[C a la ca,E s],.agg #[C b lb cb,E (!s)]] w λe i=>∃c p y,e=.returned (.agg #[C c p y,E (s&&decide (0<p))])/\RN i (C c p y) (m-n)/\I w.heap.size w i:=by
 have N:¬(w.heap.size=w.heap.size+1+1):=om
 have hs:(s == !s)=false:=by cases s<;>rfl
 have O:=PO q;have M:Hid (n<=m):=q;clear q;have f:=Xn w (D #[C a la ca,E s] 83) (D #[C b lb cb,E (!s)] 83) (D #[C none 0 0,E false] 83);have b0:=((Jn.new w 83 (C a la ca) (E s)).alloc (D #[C b lb cb,E (!s)] 83)).alloc (D #[C none 0 0,E false] 83);have g:=(Jn.new (w.alloc (D #[C a la ca,E s] 83)) 83 (C b lb cb) (E (!s))).alloc (D #[C none 0 0,E false] 83);have d:=Jn.new ((w.alloc (D #[C a la ca,E s] 83)).alloc (D #[C b lb cb,E (!s)] 83)) 83 (C none 0 0) (E false);simp only[A1]at g d;go_enter Tryz.func81,Tryz.ntmps81
 go_wp2_with(first
  |(go_at_call 114;refine(PN _ _ m n _ ?_ ?_).mono ?_;exact z.below f;exact A.below f;rintro e w0 ⟨rfl,l⟩;have b0:=b0.below l;have g:=g.below l;have d:=d.below l;have f:=Below.then f l;have x:=b0.c0;have t:=b0.c1;have r:=g.c0))
 go_region_held3 (λi=>i.cell? ⟨w.heap.size,0,none⟩=some (C a la ca)/\i.cell? ⟨w.heap.size+1,0,none⟩=some (C b lb cb)/\i.cell? ⟨w.heap.size,1,none⟩=some (E s)) (refine⟨?_,?_,?_⟩<;>(first|(go_keep;done)|((repeat rw[JH om]);simp[*];done)))
  (first
   |(go_at_call 115;refine(Le _ _ m n _ ?_ ?_ (C5 (Nat.lt_succ_of_le M.out)) B).mono ?_;exact z.below f.drew;exact A.below f.drew;rintro e Q ⟨u,rfl,o,k⟩;obtain⟨a',c',rfl⟩:=o.form;have b0:=b0.drew.below k;have g:=g.drew.below k;have d:=d.drew.below k;have f:=Below.then f.drew k;have x:=b0.c0;have t:=b0.c1;have r:=g.c0)
   |(go_at_call 112;refine(Ia _ _ _ _ _).mono ?_;rintro e P ⟨rfl,j⟩;have o:=Row.below o j;have b0:=b0.below j;have g:=g.below j;have d:=d.below j;have f:=Below.then f j;have x:=b0.c0;have t:=b0.c1;have r:=g.c0;have r0:=d.c0;have J:=d.c1;have f0:=d.f0;have f1:=d.f1))
 all_goals go_wp2_with fail
 obtain⟨L,K⟩:=YO (C a' (Jc 10000 (m-n)).length c') (E (s&&decide (0<(Jc 10000 (m-n)).length))) f om d rfl rfl o;exact BA (v:=.agg #[C a' (Jc 10000 (m-n)).length c',E (s&&decide (0<(Jc 10000 (m-n)).length))]) (by simp[results,Tryz.results81,go_sem,r0,J]) rfl ⟨_,_,_,rfl,L,K⟩
theorem UJ(a b:Option Addr)(la lb ca cb m n:Nat)(s:Bool)(w:F)(z:RN w (C a la ca) m)(A:RN w (C b lb cb) n)(B:(Jc 10000 n).length<=1000000000)(q:m<n):
 Calls H 81 #[.agg #[C a la ca,E s],.agg #[C b lb cb,E (!s)]] w λe i=>∃c p y,e=.returned (.agg #[C c p y,E ((!s)&&decide (0<p))])/\RN i (C c p y) (n-m)/\I w.heap.size w i:=by
 have N:¬(w.heap.size=w.heap.size+1+1):=om
 have hs:(s == !s)=false:=by cases s<;>rfl
 have O:Y9 m n<0:=by rw[XT q];omega
 have M:Hid (m<n):=q;clear q;have g:=Xn w (D #[C a la ca,E s] 83) (D #[C b lb cb,E (!s)] 83) (D #[C none 0 0,E false] 83);have b0:=((Jn.new w 83 (C a la ca) (E s)).alloc (D #[C b lb cb,E (!s)] 83)).alloc (D #[C none 0 0,E false] 83);have d:=(Jn.new (w.alloc (D #[C a la ca,E s] 83)) 83 (C b lb cb) (E (!s))).alloc (D #[C none 0 0,E false] 83);have f:=Jn.new ((w.alloc (D #[C a la ca,E s] 83)).alloc (D #[C b lb cb,E (!s)] 83)) 83 (C none 0 0) (E false);simp only[A1]at d f;go_enter Tryz.func81,Tryz.ntmps81
 go_wp2_with(first
  |(go_at_call 114;refine(PN _ _ m n _ ?_ ?_).mono ?_;exact z.below g;exact A.below g;rintro e w0 ⟨rfl,l⟩;have b0:=b0.below l;have d:=d.below l;have f:=f.below l;have g:=Below.then g l;have x:=b0.c0;have t:=d.c1;have r:=d.c0))
 go_region_held3 (λi=>i.cell? ⟨w.heap.size,0,none⟩=some (C a la ca)/\i.cell? ⟨w.heap.size+1,0,none⟩=some (C b lb cb)/\i.cell? ⟨w.heap.size+1,1,none⟩=some (E (!s))) (refine⟨?_,?_,?_⟩<;>(first|(go_keep;done)|((repeat rw[JH om]);simp[*];done)))
  (first
   |(go_at_call 115;refine(Le _ _ n m _ ?_ ?_ (C5 (Nat.lt_succ_of_le (FT M.out))) B).mono ?_;exact A.below g.drew;exact z.below g.drew;rintro e Q ⟨u,rfl,o,k⟩;obtain⟨a',c',rfl⟩:=o.form;have b0:=b0.drew.below k;have d:=d.drew.below k;have f:=f.drew.below k;have g:=Below.then g.drew k;have x:=b0.c0;have t:=d.c1;have r:=d.c0)
   |(go_at_call 112;refine(Ia _ _ _ _ _).mono ?_;rintro e P ⟨rfl,j⟩;have o:=Row.below o j;have b0:=b0.below j;have d:=d.below j;have f:=f.below j;have g:=Below.then g j;have x:=b0.c0;have t:=d.c1;have r:=d.c0;have r0:=f.c0;have J:=f.c1;have f0:=f.f0;have f1:=f.f1))
 all_goals go_wp2_with fail
 obtain⟨L,K⟩:=YO (C a' (Jc 10000 (n-m)).length c') (E ((!s)&&decide (0<(Jc 10000 (n-m)).length))) g om f rfl rfl o;exact BA (v:=.agg #[C a' (Jc 10000 (n-m)).length c',E ((!s)&&decide (0<(Jc 10000 (n-m)).length))]) (by simp[results,Tryz.results81,go_sem,r0,J]) rfl ⟨_,_,_,rfl,L,K⟩
theorem RN.len{a:Option Addr}{l:Nat}(h:RN W (C a l c) n):l=(Jc 10000 n).length:=by
 obtain⟨a',cap,e,_⟩:=h;cases e;rfl
theorem Lg{d:G}{p q:Bool}(h:p=q):Value.agg #[d,E p]=.agg #[d,E q]:=by rw[h]
def Jr(W:F)(v:G)(z:Int):Prop:=∃a l cap,v=.agg #[C a l cap,E (decide (z<0))]/\RN W (C a l cap) z.natAbs
theorem Jr.below{W W':F}{v:G}{z:Int}(h:Jr W v z)(c:I W.heap.size W W'):Jr W' v z:=by
 obtain⟨a,l,cap,e,b⟩:=h;exact⟨a,l,cap,e,b.below c⟩
def ET(z:Int):Nat:=(Jc 10000 z.natAbs).length
theorem Km:0<(Jc 10000 n).length↔n≠0:=by
 rw[Aq,Ne,JA om]
theorem NR(q p:G)(x y:Int)(w:F)(t:Jr w q x)(s:Jr w p y)(l:ET x<=1000000000)(n:ET y<=1000000000):
 Calls H 81 #[q,p] w λe g=>∃u,e=.returned u/\Jr g u (x+y)/\I w.heap.size w g:=by
 obtain⟨a,la,ca,rfl,m⟩:=t;obtain⟨b,lb,cb,rfl,o⟩:=s;unfold ET at l n;by_cases hs:decide (x<0)=decide (y<0)
 . rw[<-hs];refine(UH a b la lb ca cb _ _ _ w m o l n).mono ?_;rintro e g ⟨c,i,f,rfl,d,k⟩;have hl:=d.len;have j:x.natAbs+y.natAbs=(x+y).natAbs:=by
    have:(x<0↔y<0):=by simpa using hs
    omega
   rw[j]at d hl;refine⟨_,rfl,⟨c,i,f,?_,d⟩,k⟩;refine Lg ?_;rw[Cp];simp only[AM,BR];rw[hl,Km];have:(x<0↔y<0):=by simpa using hs
   omega
 . have r:decide (y<0)=!decide (x<0):=by
    cases A:decide (x<0)<;>cases B:decide (y<0)<;>simp_all
   have z:¬(x<0↔y<0):=by simpa using hs
   rw[r];by_cases v:y.natAbs<=x.natAbs
   . refine(UI a b la lb ca cb _ _ _ w m o l v).mono ?_;rintro e g ⟨c,i,f,rfl,d,k⟩;have hl:=d.len;have j:x.natAbs-y.natAbs=(x+y).natAbs:=om
     rw[j]at d hl;refine⟨_,rfl,⟨c,i,f,?_,d⟩,k⟩;refine Lg ?_;rw[Cp];simp only[AM,BR];rw[hl,Km];omega
   . refine(UJ a b la lb ca cb _ _ _ w m o n om).mono ?_;rintro e g ⟨c,i,f,rfl,d,k⟩;have hl:=d.len;have j:y.natAbs-x.natAbs=(x+y).natAbs:=om
     rw[j]at d hl;refine⟨_,rfl,⟨c,i,f,?_,d⟩,k⟩;refine Lg ?_;rw[Cp];simp only[AM,BR,Cr,Bg];rw[hl,Km];omega
theorem NS(w:F)(a b:Obj):I w.heap.size w ((w.alloc a).alloc b):=
 ((BB _ w).alloc (Aa _) _).alloc DQ _
theorem UK(a:Option Addr)(la ca m:Nat)(s:Bool)(w:F)(g:RN w (C a la ca) m):
 Calls H 110 #[.agg #[C a la ca,E s]] w λe f=>e=.returned (.agg #[C a la ca,E (!s&&decide (0<la))])/\RN f (C a la ca) m/\I w.heap.size w f:=by
 have c:=NS w (D #[C a la ca,E s] 83) (D #[C none 0 0,E false] 83);have b:=Jn.new (w.alloc (D #[C a la ca,E s] 83)) 83 (C none 0 0) (E false);simp only[A1]at b;go_enter Tryz.func110,Tryz.ntmps110
 go_wp2_with(first
  |(go_at_call 112;refine(Ia _ _ _ _ _).mono ?_;rintro e l ⟨rfl,d⟩;have b:=b.below d;have c:=Below.then c d;have r0:=b.c0;have k:=b.c1;have f0:=b.f0;have f1:=b.f1))
 obtain⟨j,i⟩:=YO (C a la ca) (E (!s&&decide (0<la))) c om b rfl rfl (g.below c);exact BA (v:=.agg #[C a la ca,E (!s&&decide (0<la))]) (by simp[results,Tryz.results110,go_sem,r0,k]) rfl ⟨rfl,j,i⟩
theorem PP(d:G)(x:Int)(w:F)(f:Jr w d x):
 Calls H 110 #[d] w λe b=>∃u,e=.returned u/\Jr b u (-x)/\I w.heap.size w b:=by
 obtain⟨a,la,ca,rfl,i⟩:=f;refine(UK a la ca _ _ w i).mono ?_;rintro e b ⟨rfl,c,g⟩;have hl:=c.len;rw[show x.natAbs=(-x).natAbs from by omega]at c hl;refine⟨_,rfl,⟨a,la,ca,?_,c⟩,g⟩;refine Lg ?_;rw[Cp];simp only[AM,BR,Cr,Bg];rw[hl,Km];omega
theorem Lh(c:UInt8)(l:List UInt8):(⟨#[c]⟩:ByteArray)++⟨l.toArray⟩=⟨(c::l).toArray⟩:=by
 apply ByteArray.ext;simp[ByteArray.data_append]
theorem PQ(c:UInt8)(s:ByteArray):((⟨#[c]⟩:ByteArray)++s).size=1+s.size:=by
 rw[ByteArray.size_append];rfl
theorem PR(w:F)(n:Nat):(convert 69 9 (C (some ⟨w.heap.size,0,none⟩) 1 1)).run H (w.alloc (D #[.int .u8 (48+(n:Int)%10)] 5))=.ok (.string ⟨#[Ez (n%10)]⟩) (w.alloc (D #[.int .u8 (48+(n:Int)%10)] 5)):=by
 have h:=run_convert_bytes_back (P:=H) (w.alloc (D #[.int .u8 (48+(n:Int)%10)] 5)) 69 9 5 ⟨w.heap.size,0,none⟩ 1 [Ez (n%10)] Tryz.underlying69 Tryz.underlying5 Tryz.underlying9 (by
  intro j b;have:j=0:=by simp at b;omega
  subst this;have e:(((Ez (n%10)).toNat:Nat):Int)=48+(n:Int)%10:=by
   have a:(Ez (n%10)).toNat=48+n%10:=by
    unfold Ez;rw[UInt8.toNat_ofNat'];omega
   rw[a];omega
  simp only[List.getElem_cons_zero,e];go_simp)
 exact h
theorem UL(w:F):(convert 69 9 (C (some ⟨w.heap.size,0,none⟩) 1 1)).run H (w.alloc (D #[.int .u8 48] 5))=.ok (.string ⟨#[Ez 0]⟩) (w.alloc (D #[.int .u8 48] 5)):=PR w 0
theorem UM(a:Option Addr)(l ca m:Nat)(s:Bool)(w:F)(L:RN w (C a l ca) m)(z:m≠0)(hl:l<=1000000000):
 Calls H 74 #[.agg #[C a l ca,E s]] w λe w'=>e=.returned (.string ⟨(if s then 45::Ec (Jc 10 m)else Ec (Jc 10 m)).toArray⟩)/\I w.heap.size w w':=by
 have Q:=L.len;have af:l≠0:=by rw[Q];have:=(Km (n:=m)).2 z;omega
 obtain⟨a',am,X,hle,ak,_,HA⟩:=Row.open L;have r:=Jp (B:=10000) om m;have P:Hid (∀i k D,XU (Jc 10000 m) i k 0 D->i+1=(Jc 10000 m).length->D=Jc 10 m):=λi k D h M=>by
  have:=(h.last M).2.2.2;rw[Jo om]at this;exact this z (Yk om m)
 have W:Hid (∀i n D,XU (Jc 10000 m) i 4 n D->D.length=4*(i+1)/\DT 10 D/\val 10 D=val 10000 ((Jc 10000 m).take (i+1))):=λi n D h=>h.next r;cases X;clear L z;generalize Jc 10000 m=ds at *;generalize Jc 10 m=o at *;have aj:((ds.length:Int)==0)=false:=beq_eq_false_iff_ne.2 om;clear Q;have d:=Jn.new w 83 (C a ds.length ca) (E s);go_enter Tryz.func74,Tryz.ntmps74
 go_wp2;go_loopw [3,4] (λA y wr=>∃(i:Nat) (D:List Nat) (c:ByteArray),y=.int .i64 i/\A=.string c/\i<=ds.length/\c.size<=4*i/\Hid (c=⟨(Ec D).toArray⟩)/\Hid ((i<ds.length/\D.length=4*i/\DT 10 D/\val 10 D=val 10000 (ds.take i))\/(i=ds.length/\D=o))/\Jn wr w.heap.size 83 (C a ds.length ca) (E s)/\I w.heap.size w wr)
  (λ_ y _=>ds.length-(intOf y).toNat)
 case atStart=>exact⟨0,[],⟨#[]⟩,rfl,rfl,om,by show 0<=_;omega,rfl,Or.inl ⟨om,rfl,DT.nil _,by simp[val]⟩,d,(BB _ _).alloc (Aa _) _⟩
 case round=>
  obtain⟨i,D,c,rfl,rfl,hi,v,j,J,d,f⟩:=hrel;have c0:=d.c0;have c1:=d.c1;by_cases ad:i<ds.length
  . obtain⟨b,off,rfl,hb,R⟩:=HA.out i ad;have hq:wr.cell? ⟨b,off+i,none⟩=some (.int .i64 (ds[i]?.getD 0:Nat)):=(f.cell (p:=⟨b,off+i,none⟩) hb).trans R;clear R;have q:XU ds i 0 (ds[i]?.getD 0) D:=by
     rcases J.out with⟨_,T,M,h3⟩|⟨T,_⟩
     . exact XU.start T M h3
     . omega
    have g:=Gw q;clear q J;have N:=r.getD om i;generalize ds[i]?.getD 0=x at hq g N;go_wp2;go_loopw [3,5,6] (λA nv K wr=>∃(k n:Nat) (D:List Nat) (c:ByteArray),K=.int .i64 k/\nv=.int .i64 n/\A=.string c/\k<=4/\n<10000/\c.size<=4*i+k/\Hid (c=⟨(Ec D).toArray⟩)/\Hid (XU ds i k n D)/\Jn wr w.heap.size 83 (C (some ⟨b,off,none⟩) ds.length ca) (E s)/\I w.heap.size w wr)
     (λ_ _ K _=>4-(intOf K).toNat)
    case atStart=>exact⟨0,x,D,c,rfl,rfl,rfl,om,N,om,j,g,d,f⟩
    case round=>
     clear d c0 c1 f j g hq v N;obtain⟨k,n,D,c,rfl,rfl,rfl,ah,ai,v,j,g,d,f⟩:=hrel;have c0:=d.c0;have c1:=d.c1;by_cases S:k<4
     . have an:(k:Int)<4:=om
       by_cases ae:0<n
       . have Z:=PR wr n;go_wp2;refine⟨⟨k+1,n/10,D++[n%10],_,DQ,DQ,rfl,om,om,by rw[PQ];omega,?_,g.out.step S (Or.inl ae),d.alloc _,f.alloc f.size _⟩,by simp[intOf];omega⟩;show _=_;rw[j.out,Lh,NC]
       . by_cases t:i+1<ds.length
         . have u:n=0:=om
           subst u;have Z:=UL wr;have V:(i:Int)+1<ds.length:=om
           go_wp2;refine⟨⟨k+1,0/10,D++[0%10],_,DQ,DQ,rfl,om,om,by rw[PQ];omega,?_,g.out.step S (Or.inr t),d.alloc _,f.alloc f.size _⟩,by simp[intOf];omega⟩;show _=_;rw[j.out,Lh,NC]
         . have u:n=0:=om
           subst u;have V:decide ((i:Int)+1<ds.length)=false:=decide_eq_false om;have O:=Gw (P.out i k D g.out om);go_wp2;go_roundw
           case rel=>exact⟨i+1,D,c,DQ,rfl,om,om,j,Or.inr ⟨om,O.out⟩,d,f⟩
           case measure=>simp[intOf];omega
     . have Qc:k=4:=om
       subst Qc;have O:Hid ((i+1<ds.length/\D.length=4*(i+1)/\DT 10 D/\val 10 D=val 10000 (ds.take (i+1)))\/(i+1=ds.length/\D=o)):=by
        by_cases t:i+1<ds.length
        . exact Or.inl ⟨t,W.out i n D g.out⟩
        . have q:=g.out;have U:n=0:=by
           have Y:=q.2.2.2.1;rw[Y];exact Cb (by have:=r.getD om i;simpa using this)
          subst U;exact Or.inr ⟨om,P.out i 4 D q om⟩
       go_wp2;go_roundw
       case rel=>exact⟨i+1,D,c,DQ,rfl,om,om,j,O,d,f⟩
       case measure=>simp[intOf];omega
  . have e:c=⟨(Ec o).toArray⟩:=by
     rcases J.out with⟨h,_⟩|⟨_,h⟩
     . omega
     . rw[j.out,h]
    subst e;cases s
    . go_wp2;go_ret;exact⟨rfl,f⟩
    . have hz:(Ec o).length<=4*i:=v;go_wp2;go_ret;refine⟨?_,f⟩;show Ending.returned (.string (⟨#[45]⟩++⟨(Ec o).toArray⟩))=_;rw[Lh]
theorem Li(v:G)(z:Int)(w:F)(h:Jr w v z)(hl:ET z<=1000000000):
 Calls H 74 #[v] w λe f=>e=.returned (.string ⟨(YU z).toArray⟩)/\I w.heap.size w f:=by
 obtain⟨a,l,cap,rfl,b⟩:=h;by_cases c:z.natAbs=0
 . have j:z=0:=om
   subst j;have d:=b.len;have i:l=0:=by rw[d];simp[Jy]
   subst i;clear b d hl;go_enter Tryz.func74,Tryz.ntmps74
   go_wp2;go_ret;exact⟨rfl,(BB _ _).alloc (Aa _) _⟩
 . refine(UM a l cap _ _ w b c (by rw[b.len];exact hl)).mono ?_;rintro e f ⟨rfl,k⟩;refine⟨?_,k⟩;unfold YU;rw[LY c];by_cases g:z<0
   . simp[g]
   . simp[g]
theorem Jn.kept{row:Option Nat}(h:Jn W B t x y)(b:W.grownBy W' row)(a:some B≠row):Jn W' B t x y:=(b.block B h.lt a).trans h
def GI(N c:Nat)(a:List Nat):Prop:=DT 10000 a/\val 10000 a+10000^a.length*c=N/\a.length<=100/\(a=[]\/c≠0\/10000^(a.length-1)<=val 10000 a)
theorem GI.step(h:GI N c f)(d:N<=9223372036854775808)(j:c≠0):GI N (c/10000) (f++[c%10000]):=by
 obtain⟨a,b,l,e⟩:=h;refine⟨a.append (DT.cons (A7 _ om) (DT.nil _)),?_,?_,?_⟩
 . rw[YC,Ai,FE,AP,Ay,CO,<-Ax,Nat.mod_add_div];exact b
 . rcases AO f.length 20 with h|h
   . simp;omega
   . have k:(10000:Nat)^20<=10000^f.length:=Aw om h;have i:10000^f.length*1<=10000^f.length*c:=Av _ om;omega
 . right
   by_cases g:c/10000=0
   . right
     rw[Ai,FE,Nat.add_sub_cancel,YC];have:c%10000≠0:=om
     have:=Av (10000^f.length) (show 1<=c%10000 by omega);omega
   . exact Or.inl g
theorem GI.done(h:GI N 0 f):f=Jc 10000 N:=by
 obtain⟨a,b,d,c⟩:=h;rw[Cv,Ci]at b;rw[<-b];refine(Y6 om a (NB om a ?_)).symm;rcases c with h|h|h
 . exact Or.inl h
 . exact absurd rfl h
 . exact Or.inr h
theorem NT{wr:F}{base:Nat}{e:TypeId}{o:Obj}{c:G}{D:Int}(d:Nat)(hD:D=(d:Nat))(P:w.heap.size<=B)(u:B<base)(n:I w.heap.size w wr)(L:Jn wr B t v y)(M:wr.ownsRow base e 1 v f.length (cellsOf k f))
(A:i.ownsRow base e 1 c (f.length+1) (cellsOf k f++[.int k D]))(p:(wr.alloc o).grownBy i v.ownBlock):
 ∃g m,c=C (some ⟨g,0,none⟩) (f++[d]).length m/\(i.setCell ⟨B,0,none⟩ c).ownsRow base e 1 c (f++[d]).length (cellsOf k (f++[d]))/\Jn i B t v y/\I w.heap.size w i/\base<=i.heap.size/\(∀B' j a l,B'<base->Jn wr B' j a l->Jn i B' j a l):=by
 obtain⟨g,m,x⟩:=ownsRow_succ A;subst hD;have r:∀q,v.ownBlock=some q->base<=q/\q<wr.heap.size:=λq hq=>M.lt q hq;have z:∀B' j a l,B'<base->Jn wr B' j a l->Jn i B' j a l:=λB' j a l h b=>(b.alloc o).kept p (λJ=>by have:=(r B' J.symm).1;omega);have s:i.ownsRow base e 1 c (f++[d]).length (cellsOf k (f++[d])):=by rw[NO];simpa using A
 refine⟨g,m,by rw[x];simp,ownsRow_setCell_below s u c,z _ _ _ _ u L,?_,?_,z⟩
 . exact(n.alloc n.size _).grown p (by simp;have:=n.size;omega) (λq hq=>by have:=(r q hq).1;omega)
 . rcases s.2 with⟨h,_⟩|⟨R,Q,N,_,O,K,_⟩
   . rw[x]at h;cases h
   . have:=(Ab.1 K).1;omega
theorem UO(N:Nat)(X:N<=9223372036854775807)(w:F):
 Calls H 79 #[.int .i64 N] w λe y=>∃u,e=.returned u/\Jr y u N/\I w.heap.size w y:=by
 obtain⟨B,K,T,V,z⟩:=Bo Tryz.infoInt;have b:=(Jn.new w 83 (C none 0 0) (E false)).alloc (D #[C none 0 0,E false] 83);have i:=Jn.new (w.alloc (D #[C none 0 0,E false] 83)) 83 (C none 0 0) (E false);simp only[A1]at i;have p:=NS w (D #[C none 0 0,E false] 83) (D #[C none 0 0,E false] 83);have o:Hid (∀a,GI N 0 a->a=Jc 10000 N):=λa h=>h.done;have r:Hid (∀c a,GI N c a->c≠0->GI N (c/10000) (a++[c%10000])):=λc a h j=>h.step om j;go_enter Tryz.func79,Tryz.ntmps79
 go_wp2;go_loopw [0] (λl wr=>∃(c:Nat) (a:List Nat) (f:Option Addr) (d:Nat),l=.int .i64 c/\c<=N/\a.length<=100/\Hid (GI N c a)/\Jn wr w.heap.size 83 (C none 0 0) (E false)/\Jn wr (w.heap.size+1) 83 (C f a.length d) (E false)/\wr.ownsRow (w.heap.size+1+1) 3 1 (C f a.length d) a.length (cellsOf .i64 a)/\I w.heap.size w wr/\w.heap.size+1+1<=wr.heap.size)
  (λl _=>(intOf l).toNat)
 case atStart=>exact⟨N,[],none,0,rfl,Aa _,DQ,⟨DT.nil _,by simp[val],DQ,Or.inl rfl⟩,b,i,World.ownsRow_nil _ _ _ _,p,DQ⟩
 case round=>
  clear b i p;obtain⟨c,a,f,d,rfl,Z,af,x,b,i,m,t,ad⟩:=hrel;have c0:=i.c0;have c1:=i.c1;by_cases j:c=0
  . subst j;have e:=o.out a x.out;have r0:=b.c0;have Q:=b.c1;have g0:=b.f0;have g1:=b.f1;clear o r;go_wp2;subst e;obtain⟨S,R⟩:=YO (C f (Jc 10000 N).length d) (E false) t (Aa _) b rfl rfl (Row.of_owns m om);exact BA (v:=.agg #[C f (Jc 10000 N).length d,E false]) (by simp[results,Tryz.results79,go_sem,r0,Q]) rfl ⟨_,rfl,⟨f,_,d,by rw[show decide ((N:Int)<0)=false from decide_eq_false om],S⟩,R⟩
  . have ae:((c:Int) != 0)=true:=by rw[DG];omega
    have n:=Gw (r.out c a x.out j);go_wp2_with(first
     |(at_builtin;refine BZ _ rfl _ _ 81 rfl (w.heap.size+1+1) 3 B (.int .i64 0) 1 8 Tryz.underlying81 K T V z rfl DS (C f a.length d) a.length (cellsOf .i64 a) rfl (m.alloc _) ⟨wr.heap.size,0,none⟩ 1 1 [_] rfl rfl (Br _ _ _) (by simp[Value.oneCell']) (by unfold maxLen;omega) om si ?_;intro v' w3 W P Y;obtain⟨g,L,U,s,k,O,M,A⟩:=NT (c%10000) om om om t i m W P;have d0:=k.c0;have d1:=k.f0;subst U))
    have J:(a++[c%10000]).length<=100:=n.out.2.2.1;have q:(a++[c%10000]).length=a.length+1:=DQ
    go_roundw
    case rel=>exact⟨c/10000,a++[c%10000],some ⟨g,0,none⟩,L,DQ,om,J,n,(A _ _ _ _ om b).far DQ _,by rw[q];exact k.set0 _,by rw[q]at s ⊢;exact s,O.setCell DQ _,by simpa[World.setCell]using M⟩
    case measure=>simp[intOf];omega
theorem UP(c:Nat):(-(c:Int)).tmod 10000=-((c%10000:Nat):Int):=by
 rw[Int.neg_tmod,Int.tmod_eq_emod_of_nonneg om];rfl
theorem UQ(c:Nat):(-(c:Int)).tdiv 10000=-((c/10000:Nat):Int):=by
 rw[Int.neg_tdiv,Int.tdiv_eq_ediv_of_nonneg om];rfl
theorem UR(N:Nat)(U:1<=N)(hN:N<=9223372036854775808)(w:F):
 Calls H 79 #[.int .i64 (-(N:Int))] w λe R=>∃u,e=.returned u/\Jr R u (-(N:Int))/\I w.heap.size w R:=by
 have ae:0<N:=U;obtain⟨M,P,S,T,J⟩:=Bo Tryz.infoInt;have b:=(Jn.new w 83 (C none 0 0) (E false)).alloc (D #[C none 0 0,E true] 83);have i:=Jn.new (w.alloc (D #[C none 0 0,E false] 83)) 83 (C none 0 0) (E true);simp only[A1]at i;have L:=NS w (D #[C none 0 0,E false] 83) (D #[C none 0 0,E true] 83);have K:Hid (∀a,GI N 0 a->a=Jc 10000 N):=λa h=>h.done;have O:Hid (∀c a,GI N c a->c≠0->GI N (c/10000) (a++[c%10000])):=λc a h o=>h.step om o;go_enter Tryz.func79,Tryz.ntmps79
 go_wp2;go_loopw [0] (λz wr=>∃(c:Nat) (a:List Nat) (f:Option Addr) (d:Nat),z=.int .i64 (-(c:Int))/\c<=N/\a.length<=100/\Hid (GI N c a)/\Jn wr w.heap.size 83 (C none 0 0) (E false)/\Jn wr (w.heap.size+1) 83 (C f a.length d) (E true)/\wr.ownsRow (w.heap.size+1+1) 3 1 (C f a.length d) a.length (cellsOf .i64 a)/\I w.heap.size w wr/\w.heap.size+1+1<=wr.heap.size)
  (λz _=>(-(intOf z)).toNat)
 case atStart=>exact⟨N,[],none,0,rfl,Aa _,DQ,⟨DT.nil _,by simp[val],DQ,Or.inl rfl⟩,b,i,World.ownsRow_nil _ _ _ _,L,DQ⟩
 case round=>
  clear b i L;obtain⟨c,a,f,d,rfl,af,aj,Q,b,i,m,r,ah⟩:=hrel;have c0:=i.c0;have c1:=i.c1;have ht:=UP c;have X:=UQ c;by_cases o:c=0
  . subst o;have e:=K.out a Q.out;have r0:=b.c0;have Y:=b.c1;have g0:=b.f0;have g1:=b.f1;clear K O ht X;go_wp2;subst e;obtain⟨hr,ad⟩:=YO (C f (Jc 10000 N).length d) (E true) r (Aa _) b rfl rfl (Row.of_owns m om);exact BA (v:=.agg #[C f (Jc 10000 N).length d,E true]) (by simp[results,Tryz.results79,go_sem,r0,Y]) rfl ⟨_,rfl,⟨f,_,d,by rw[show decide (-(N:Int)<0)=true from BK om],by rw[Fp];exact hr⟩,ad⟩
  . have ai:((-(c:Int)) != 0)=true:=by rw[DG];omega
    have n:=Gw (O.out c a Q.out o);by_cases W:c%10000=0
    . have Qc:(c:Int)%10000=0:=om
      clear W;go_wp2_with(first
       |(at_builtin;refine BZ _ rfl _ _ 81 rfl (w.heap.size+1+1) 3 M (.int .i64 0) 1 8 Tryz.underlying81 P S T J rfl DS (C f a.length d) a.length (cellsOf .i64 a) rfl (m.alloc _) ⟨wr.heap.size,0,none⟩ 1 1 [_] rfl rfl (Br _ _ _) (by simp[Value.oneCell']) (by unfold maxLen;omega) om si ?_;intro v' Z B y V;obtain⟨g,s,A,l,j,x,t,q⟩:=NT (c%10000) om om om r i m B y;have d0:=j.c0;have d1:=j.f0;subst A))
      have p:(a++[c%10000]).length<=100:=n.out.2.2.1;have k:(a++[c%10000]).length=a.length+1:=DQ
      go_roundw
      case rel=>exact⟨c/10000,a++[c%10000],some ⟨g,0,none⟩,s,DQ,om,p,n,(q _ _ _ _ om b).far DQ _,by rw[k];exact j.set0 _,by rw[k]at l ⊢;exact l,x.setCell DQ _,by simpa[World.setCell]using t⟩
      case measure=>simp[intOf];omega
    . have Qc:0<(c:Int)%10000:=om
      go_wp2_with(first
       |(at_builtin;refine BZ _ rfl _ _ 81 rfl (w.heap.size+1+1) 3 M (.int .i64 0) 1 8 Tryz.underlying81 P S T J rfl DS (C f a.length d) a.length (cellsOf .i64 a) rfl (m.alloc _) ⟨wr.heap.size,0,none⟩ 1 1 [_] rfl rfl (Br _ _ _) (by simp[Value.oneCell']) (by unfold maxLen;omega) om si ?_;intro v' Z B y V;obtain⟨g,s,A,l,j,x,t,q⟩:=NT (c%10000) om om om r i m B y;have d0:=j.c0;have d1:=j.f0;subst A))
      have p:(a++[c%10000]).length<=100:=n.out.2.2.1;have k:(a++[c%10000]).length=a.length+1:=DQ
      go_roundw
      case rel=>exact⟨c/10000,a++[c%10000],some ⟨g,0,none⟩,s,DQ,om,p,n,(q _ _ _ _ om b).far DQ _,by rw[k];exact j.set0 _,by rw[k]at l ⊢;exact l,x.setCell DQ _,by simpa[World.setCell]using t⟩
      case measure=>simp[intOf];omega
theorem Hl(n:Int)(b:-9223372036854775808<=n)(c:n<=9223372036854775807)(w:F):
 Calls H 79 #[.int .i64 n] w λe a=>∃u,e=.returned u/\Jr a u n/\I w.heap.size w a:=by
 by_cases h:n<0
 . have e:n=-(n.natAbs:Int):=om
   rw[e];exact UR n.natAbs om om w
 . have e:n=(n.natAbs:Int):=om
   rw[e];exact UO n.natAbs om w
