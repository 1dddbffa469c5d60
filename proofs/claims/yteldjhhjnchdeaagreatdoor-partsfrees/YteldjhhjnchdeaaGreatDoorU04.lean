import Derived.Test.YteldjhhjnchdeaaGreatDoorU03
import Derived.Deep.RegionHeld3
open Go.Value renaming slice->C,bool->E
open Go.Obj renaming cells->D
open Go renaming World->F,Value->G
open Go.Proofs.Tryz renaming prog->H
open Go.RowKit renaming Below->I
set_option maxRecDepth 100000
set_option maxHeartbeats 16000000
namespace Go.Proofs.YteldjhhjnchdeaaGreatDoor
open Go.RowKit Go.Shelf
theorem BK:type_of% @decide_eq_true:=@decide_eq_true
def Jm(W:F)(B:Nat)(t:TypeId)(x y:G):Prop:=W.heap[B]?=some (D #[x,y] t (0,0))
variable{k:IntKind}{f:List Nat}{B N c n:Nat}{t:TypeId}{v x y:G}{W W' i w:F}
theorem Jm.lt(h:Jm W B t x y):B<W.heap.size:=(Ab.1 h).1
theorem Jm.c0(h:Jm W B t x y):W.cell? ⟨B,0,none⟩=some x:=by simp[World.cell?,show W.heap[B]?=_ from h]
theorem Jm.c1(h:Jm W B t x y):W.cell? ⟨B,1,none⟩=some y:=by simp[World.cell?,show W.heap[B]?=_ from h]
theorem Jm.cp(h:Jm W B t x y):type_of% (And.intro h.c0 h.c1):=⟨h.c0,h.c1⟩
theorem Jm.f0(h:Jm W B t x y):W.frozen? ⟨B,0,none⟩=false:=by simp[World.frozen?,show W.heap[B]?=_ from h]
theorem Jm.f1(h:Jm W B t x y):W.frozen? ⟨B,1,none⟩=false:=by simp[World.frozen?,show W.heap[B]?=_ from h]
theorem Jm.fp(h:Jm W B t x y):type_of% (And.intro h.f0 h.f1):=⟨h.f0,h.f1⟩
theorem Jm.new(W:F)(t:TypeId)(x y:G):Jm (W.alloc (D #[x,y] t)) W.heap.size t x y:=BD W _
theorem Jm.below(h:Jm W B t x y)(a:I W.heap.size W W'):Jm W' B t x y:=(a.block B h.lt).trans h
theorem Jm.alloc{W:F}{B:Nat}{t:TypeId}{x y:G}(h:Jm W B t x y)(o:Obj):Jm (W.alloc o) B t x y:=h.below ((BB _ W).alloc (Aa _) o)
theorem Jm.drew{W:F}{B:Nat}{t:TypeId}{x y:G}(h:Jm W B t x y):Jm W.drew B t x y:=h
theorem Jm.set0(h:Jm W B t x y)(u:G):Jm (W.setCell ⟨B,0,none⟩ u) B t u y:=by
 obtain⟨b,a⟩:=Ab.1 h;show(W.heap.modify B _)[B]?=_;rw[A9 (by rw[CJ];exact b),Ci,a];rfl
theorem Jm.set1(h:Jm W B t x y)(u:G):Jm (W.setCell ⟨B,1,none⟩ u) B t x u:=by
 obtain⟨b,a⟩:=Ab.1 h;show(W.heap.modify B _)[B]?=_;rw[A9 (by rw[CJ];exact b),Ci,a];rfl
theorem Jm.far(h:Jm W B t x y){p:Addr}(hp:B≠p.block)(u:G):Jm (W.setCell p u) B t x y:=(BC W p u B hp).trans h
theorem Below.then{w W a:F}(h:I w.heap.size w W)(k:I W.heap.size W a):I w.heap.size w a:=h.trans (k.mono h.size)
theorem Bt:type_of% @Below.then:=@Below.then
theorem JH{b o a c:Nat}{u:G}(h:b≠a):(w.setCell ⟨a,c,none⟩ u).cell? ⟨b,o,none⟩=w.cell? ⟨b,o,none⟩:=
 World.cell?_of_block (w:=w) (BC w ⟨a,c,none⟩ u b h)
def JB:G->Bool|.int _ _=>false|_=>true
theorem Row.set{k:IntKind}{W:F}{v:G}{ds:List Nat}(h:Row k W v ds){p:Addr}{u0:G}(hp:W.cell? p=some u0)(s:JB u0=true)(u:G):Row k (W.setCell p u) v ds:=by
 obtain⟨a,cap,e,l,m,n,c⟩:=h;refine⟨a,cap,e,l,m,n,?_⟩;rcases c with c|⟨b,off,i,r,o⟩
 . exact Or.inl c
 . refine Or.inr ⟨b,off,i,r.set p u,λj q=>?_⟩;have d:=o j q;have f:p≠⟨b,off+j,none⟩:=by
    intro g;rw[<-g,hp]at d;cases d;simp[JB]at s
   exact(World.cell?_setCell_other (h:=f) ..).trans d
theorem YT{R:Nat}{u0 u1:G}(x0 x1:G){ds:List Nat}(b:I w.heap.size w i)(a:w.heap.size<=R)(q:Jm i R t u0 u1)(d:JB u0=true)(e:JB u1=true)(c:Row k i v ds):
 Row k ((i.setCell ⟨R,0,none⟩ x0).setCell ⟨R,1,none⟩ x1) v ds/\I w.heap.size w ((i.setCell ⟨R,0,none⟩ x0).setCell ⟨R,1,none⟩ x1):=
 ⟨Row.set (Row.set c q.c0 d _) (u0:=u1) (q.set0 x0).c1 e _,(b.setCell a _).setCell a _⟩
theorem RN.below{W W':F}{v:G}{n:Nat}(h:RN W v n)(a:I W.heap.size W W'):RN W' v n:=Row.below h a
theorem RN.form(h:RN W v n):∃a cap,v=C a (Jc 10000 n).length cap:=by
 obtain⟨a,cap,e,_⟩:=h;exact⟨a,cap,e⟩
theorem PK(a b:G)(m n:Nat)(w:F)(c:RN w a m)(d:RN w b n):
 Calls H 114 #[a,b] w λe f=>e=.returned (.int .i64 (Xf m n))/\I w.heap.size w f:=by
 have h:=NM 10000 J a b _ _ w c d (Jq J m) (Jq J n) (Ym J m) (Ym J n);rw[Jp J,Jp J]at h;exact h
theorem Xv(w:F)(a b c:Obj):I w.heap.size w (((w.alloc a).alloc b).alloc c):=
 (((BB _ w).alloc (Aa _) _).alloc Y _).alloc si _
theorem PL{m:Nat}(h:n<=m):0<=Xf m n:=by
 rcases AO n m with g|g
 . rw[Ie g];omega
 . have:m=n:=J
   rw[this,Mw];omega
theorem UR(a b:Option Addr)(la lb ca cb m n:Nat)(s:Bool)(w:F)(K:RN w (C a la ca) m)(L:RN w (C b lb cb) n)(r:(Jc 10000 m).length<=400000000000)(t:(Jc 10000 n).length<=400000000000):
 Calls H 81 #[.agg #[C a la ca,E s],.agg #[C b lb cb,E s]] w λe i=>∃c o p,e=.returned (.agg #[C c o p,E (s&&decide (0<o))])/\RN i (C c o p) (m+n)/\I w.heap.size w i:=by
 have M:¬(w.heap.size=w.heap.size+1+1):=J
 go_enter Tryz.func81,Tryz.ntmps81
 go_wp2_with fail
 have f:=Xv w (D #[C a la ca,E s] 83) (D #[C b lb cb,E s] 83) (D #[C none 0 0,E false] 83);have b0:=((Jm.new w 83 (C a la ca) (E s)).alloc (D #[C b lb cb,E s] 83)).alloc (D #[C none 0 0,E false] 83);have g:=(Jm.new (w.alloc (D #[C a la ca,E s] 83)) 83 (C b lb cb) (E s)).alloc (D #[C none 0 0,E false] 83);have d:=Jm.new ((w.alloc (D #[C a la ca,E s] 83)).alloc (D #[C b lb cb,E s] 83)) 83 (C none 0 0) (E false);simp only[A1]at g d;go_region_held3 (λi=>i.cell? ⟨w.heap.size,0,none⟩=some (C a la ca)/\i.cell? ⟨w.heap.size+1,0,none⟩=some (C b lb cb)/\i.cell? ⟨w.heap.size,1,none⟩=some (E s)) (refine⟨?_,?_,?_⟩<;>(first|(go_keep;done)|((repeat rw[JH J]);simp[*];done)))
  (first
   |(go_at_call 113;refine(UL _ _ m n _ ?_ ?_ r t).mono ?_;exact K.below f.drew;exact L.below f.drew;rintro e N ⟨u,rfl,l,k⟩;obtain⟨a',c',rfl⟩:=l.form;have b0:=b0.drew.below k;have g:=g.drew.below k;have d:=d.drew.below k;have f:=Below.then f.drew k;have y:=b0.c0;have z:=b0.c1;have A:=g.c0)
   |(go_at_call 112;refine(Ih _ _ _ _ _).mono ?_;rintro e P ⟨rfl,j⟩;have l:=Row.below l j;have b0:=b0.below j;have g:=g.below j;have d:=d.below j;have f:=Below.then f j;have y:=b0.c0;have z:=b0.c1;have A:=g.c0;have r0:=d.c0;have B:=d.c1;have f0:=d.f0;have f1:=d.f1))
 all_goals go_wp2_with fail
 obtain⟨x,q⟩:=YT (C a' (Jc 10000 (m+n)).length c') (E (s&&decide (0<(Jc 10000 (m+n)).length))) f J d rfl rfl l;exact BA (v:=.agg #[C a' (Jc 10000 (m+n)).length c',E (s&&decide (0<(Jc 10000 (m+n)).length))]) (by simp[results,Tryz.results81,go_sem,r0,B]) rfl ⟨_,_,_,rfl,x,q⟩
theorem US(a b:Option Addr)(la lb ca cb m n:Nat)(s:Bool)(w:F)(z:RN w (C a la ca) m)(A:RN w (C b lb cb) n)(L:(Jc 10000 m).length<=400000000000)(p:n<=m):
 Calls H 81 #[.agg #[C a la ca,E s],.agg #[C b lb cb,E (!s)]] w λe i=>∃c q r,e=.returned (.agg #[C c q r,E (s&&decide (0<q))])/\RN i (C c q r) (m-n)/\I w.heap.size w i:=by
 have Q:¬(w.heap.size=w.heap.size+1+1):=J
 have hs:(s == !s)=false:=by cases s<;>rfl
 have P:=PL p;have B:Hid (n<=m):=p;clear p;have f:=Xv w (D #[C a la ca,E s] 83) (D #[C b lb cb,E (!s)] 83) (D #[C none 0 0,E false] 83);have b0:=((Jm.new w 83 (C a la ca) (E s)).alloc (D #[C b lb cb,E (!s)] 83)).alloc (D #[C none 0 0,E false] 83);have g:=(Jm.new (w.alloc (D #[C a la ca,E s] 83)) 83 (C b lb cb) (E (!s))).alloc (D #[C none 0 0,E false] 83);have d:=Jm.new ((w.alloc (D #[C a la ca,E s] 83)).alloc (D #[C b lb cb,E (!s)] 83)) 83 (C none 0 0) (E false);simp only[A1]at g d;go_enter Tryz.func81,Tryz.ntmps81
 go_wp2_with(first
  |(go_at_call 114;refine(PK _ _ m n _ ?_ ?_).mono ?_;exact z.below f;exact A.below f;rintro e w0 ⟨rfl,k⟩;have b0:=b0.below k;have g:=g.below k;have d:=d.below k;have f:=Below.then f k;have t:=b0.c0;have x:=b0.c1;have y:=g.c0))
 go_region_held3 (λi=>i.cell? ⟨w.heap.size,0,none⟩=some (C a la ca)/\i.cell? ⟨w.heap.size+1,0,none⟩=some (C b lb cb)/\i.cell? ⟨w.heap.size,1,none⟩=some (E s)) (refine⟨?_,?_,?_⟩<;>(first|(go_keep;done)|((repeat rw[JH J]);simp[*];done)))
  (first
   |(go_at_call 115;refine(LY _ _ m n _ ?_ ?_ (C7 (Nat.lt_succ_of_le B.out)) L).mono ?_;exact z.below f.drew;exact A.below f.drew;rintro e R ⟨u,rfl,o,l⟩;obtain⟨a',c',rfl⟩:=o.form;have b0:=b0.drew.below l;have g:=g.drew.below l;have d:=d.drew.below l;have f:=Below.then f.drew l;have t:=b0.c0;have x:=b0.c1;have y:=g.c0)
   |(go_at_call 112;refine(Ih _ _ _ _ _).mono ?_;rintro e S ⟨rfl,j⟩;have o:=Row.below o j;have b0:=b0.below j;have g:=g.below j;have d:=d.below j;have f:=Below.then f j;have t:=b0.c0;have x:=b0.c1;have y:=g.c0;have r0:=d.c0;have N:=d.c1;have f0:=d.f0;have f1:=d.f1))
 all_goals go_wp2_with fail
 obtain⟨M,K⟩:=YT (C a' (Jc 10000 (m-n)).length c') (E (s&&decide (0<(Jc 10000 (m-n)).length))) f J d rfl rfl o;exact BA (v:=.agg #[C a' (Jc 10000 (m-n)).length c',E (s&&decide (0<(Jc 10000 (m-n)).length))]) (by simp[results,Tryz.results81,go_sem,r0,N]) rfl ⟨_,_,_,rfl,M,K⟩
theorem UT(a b:Option Addr)(la lb ca cb m n:Nat)(s:Bool)(w:F)(z:RN w (C a la ca) m)(A:RN w (C b lb cb) n)(L:(Jc 10000 n).length<=400000000000)(p:m<n):
 Calls H 81 #[.agg #[C a la ca,E s],.agg #[C b lb cb,E (!s)]] w λe i=>∃c q r,e=.returned (.agg #[C c q r,E ((!s)&&decide (0<q))])/\RN i (C c q r) (n-m)/\I w.heap.size w i:=by
 have Q:¬(w.heap.size=w.heap.size+1+1):=J
 have hs:(s == !s)=false:=by cases s<;>rfl
 have P:Xf m n<0:=by rw[XZ p];omega
 have B:Hid (m<n):=p;clear p;have g:=Xv w (D #[C a la ca,E s] 83) (D #[C b lb cb,E (!s)] 83) (D #[C none 0 0,E false] 83);have b0:=((Jm.new w 83 (C a la ca) (E s)).alloc (D #[C b lb cb,E (!s)] 83)).alloc (D #[C none 0 0,E false] 83);have d:=(Jm.new (w.alloc (D #[C a la ca,E s] 83)) 83 (C b lb cb) (E (!s))).alloc (D #[C none 0 0,E false] 83);have f:=Jm.new ((w.alloc (D #[C a la ca,E s] 83)).alloc (D #[C b lb cb,E (!s)] 83)) 83 (C none 0 0) (E false);simp only[A1]at d f;go_enter Tryz.func81,Tryz.ntmps81
 go_wp2_with(first
  |(go_at_call 114;refine(PK _ _ m n _ ?_ ?_).mono ?_;exact z.below g;exact A.below g;rintro e w0 ⟨rfl,k⟩;have b0:=b0.below k;have d:=d.below k;have f:=f.below k;have g:=Below.then g k;have t:=b0.c0;have x:=d.c1;have y:=d.c0))
 go_region_held3 (λi=>i.cell? ⟨w.heap.size,0,none⟩=some (C a la ca)/\i.cell? ⟨w.heap.size+1,0,none⟩=some (C b lb cb)/\i.cell? ⟨w.heap.size+1,1,none⟩=some (E (!s))) (refine⟨?_,?_,?_⟩<;>(first|(go_keep;done)|((repeat rw[JH J]);simp[*];done)))
  (first
   |(go_at_call 115;refine(LY _ _ n m _ ?_ ?_ (C7 (Nat.lt_succ_of_le (FU B.out))) L).mono ?_;exact A.below g.drew;exact z.below g.drew;rintro e R ⟨u,rfl,o,l⟩;obtain⟨a',c',rfl⟩:=o.form;have b0:=b0.drew.below l;have d:=d.drew.below l;have f:=f.drew.below l;have g:=Below.then g.drew l;have t:=b0.c0;have x:=d.c1;have y:=d.c0)
   |(go_at_call 112;refine(Ih _ _ _ _ _).mono ?_;rintro e S ⟨rfl,j⟩;have o:=Row.below o j;have b0:=b0.below j;have d:=d.below j;have f:=f.below j;have g:=Below.then g j;have t:=b0.c0;have x:=d.c1;have y:=d.c0;have r0:=f.c0;have N:=f.c1;have f0:=f.f0;have f1:=f.f1))
 all_goals go_wp2_with fail
 obtain⟨M,K⟩:=YT (C a' (Jc 10000 (n-m)).length c') (E ((!s)&&decide (0<(Jc 10000 (n-m)).length))) g J f rfl rfl o;exact BA (v:=.agg #[C a' (Jc 10000 (n-m)).length c',E ((!s)&&decide (0<(Jc 10000 (n-m)).length))]) (by simp[results,Tryz.results81,go_sem,r0,N]) rfl ⟨_,_,_,rfl,M,K⟩
theorem RN.len{a:Option Addr}{l:Nat}(h:RN W (C a l c) n):l=(Jc 10000 n).length:=by
 obtain⟨a',cap,e,_⟩:=h;cases e;rfl
theorem La{d:G}{p q:Bool}(h:p=q):Value.agg #[d,E p]=.agg #[d,E q]:=by rw[h]
def Jt(W:F)(v:G)(z:Int):Prop:=∃a l cap,v=.agg #[C a l cap,E (decide (z<0))]/\RN W (C a l cap) z.natAbs
theorem Jt.below{W W':F}{v:G}{z:Int}(h:Jt W v z)(b:I W.heap.size W W'):Jt W' v z:=by
 obtain⟨a,l,cap,e,c⟩:=h;exact⟨a,l,cap,e,c.below b⟩
def EM(z:Int):Nat:=(Jc 10000 z.natAbs).length
theorem Kp:0<(Jc 10000 n).length↔n≠0:=by
 rw[Al,Ne,JD J]
theorem NN(p q:G)(x y:Int)(w:F)(s:Jt w p x)(t:Jt w q y)(l:EM x<=400000000000)(m:EM y<=400000000000):
 Calls H 81 #[p,q] w λe k=>∃u,e=.returned u/\Jt k u (x+y)/\I w.heap.size w k:=by
 obtain⟨a,la,ca,rfl,n⟩:=s;obtain⟨b,lb,cb,rfl,o⟩:=t;unfold EM at l m;by_cases hs:decide (x<0)=decide (y<0)
 . rw[<-hs];refine(UR a b la lb ca cb _ _ _ w n o l m).mono ?_;rintro e k ⟨c,j,f,rfl,d,i⟩;have hl:=d.len;have g:x.natAbs+y.natAbs=(x+y).natAbs:=by
    have:(x<0↔y<0):=by simpa using hs
    omega
   rw[g]at d hl;refine⟨_,rfl,⟨c,j,f,?_,d⟩,i⟩;refine La ?_;rw[Cr];simp only[AM,BR];rw[hl,Kp]
   have:(x<0↔y<0):=by simpa using hs
   omega
 . have r:decide (y<0)=!decide (x<0):=by
    cases z:decide (x<0)<;>cases A:decide (y<0)<;>simp_all
   have B:¬(x<0↔y<0):=by simpa using hs
   rw[r];by_cases v:y.natAbs<=x.natAbs
   . refine(US a b la lb ca cb _ _ _ w n o l v).mono ?_;rintro e k ⟨c,j,f,rfl,d,i⟩;have hl:=d.len;have g:x.natAbs-y.natAbs=(x+y).natAbs:=J
     rw[g]at d hl;refine⟨_,rfl,⟨c,j,f,?_,d⟩,i⟩;refine La ?_;rw[Cr];simp only[AM,BR];rw[hl,Kp];omega
   . refine(UT a b la lb ca cb _ _ _ w n o m J).mono ?_;rintro e k ⟨c,j,f,rfl,d,i⟩;have hl:=d.len;have g:y.natAbs-x.natAbs=(x+y).natAbs:=J
     rw[g]at d hl;refine⟨_,rfl,⟨c,j,f,?_,d⟩,i⟩;refine La ?_;rw[Cr];simp only[AM,BR,Ct,Bg];rw[hl,Kp];omega
theorem NO(w:F)(a b:Obj):I w.heap.size w ((w.alloc a).alloc b):=
 ((BB _ w).alloc (Aa _) _).alloc Y _
theorem UU(a:Option Addr)(la ca m:Nat)(s:Bool)(w:F)(k:RN w (C a la ca) m):
 Calls H 110 #[.agg #[C a la ca,E s]] w λe f=>e=.returned (.agg #[C a la ca,E (!s&&decide (0<la))])/\RN f (C a la ca) m/\I w.heap.size w f:=by
 have c:=NO w (D #[C a la ca,E s] 83) (D #[C none 0 0,E false] 83);have b:=Jm.new (w.alloc (D #[C a la ca,E s] 83)) 83 (C none 0 0) (E false);simp only[A1]at b;go_enter Tryz.func110,Tryz.ntmps110
 go_wp2_with(first
  |(go_at_call 112;refine(Ih _ _ _ _ _).mono ?_;rintro e l ⟨rfl,d⟩;have b:=b.below d;have c:=Below.then c d;have r0:=b.c0;have j:=b.c1;have f0:=b.f0;have f1:=b.f1))
 obtain⟨i,g⟩:=YT (C a la ca) (E (!s&&decide (0<la))) c J b rfl rfl (k.below c);exact BA (v:=.agg #[C a la ca,E (!s&&decide (0<la))]) (by simp[results,Tryz.results110,go_sem,r0,j]) rfl ⟨rfl,i,g⟩
theorem PM(d:G)(x:Int)(w:F)(g:Jt w d x):
 Calls H 110 #[d] w λe c=>∃u,e=.returned u/\Jt c u (-x)/\I w.heap.size w c:=by
 obtain⟨a,la,ca,rfl,i⟩:=g;refine(UU a la ca _ _ w i).mono ?_;rintro e c ⟨rfl,b,f⟩;have hl:=b.len;rw[show x.natAbs=(-x).natAbs from by omega]at b hl;refine⟨_,rfl,⟨a,la,ca,?_,b⟩,f⟩;refine La ?_;rw[Cr];simp only[AM,BR,Ct,Bg];rw[hl,Kp];omega
theorem Lb(c:UInt8)(l:List UInt8):(⟨#[c]⟩:ByteArray)++⟨l.toArray⟩=⟨(c::l).toArray⟩:=by
 apply ByteArray.ext;simp[ByteArray.data_append]
theorem PN(c:UInt8)(s:ByteArray):((⟨#[c]⟩:ByteArray)++s).size=1+s.size:=by
 rw[ByteArray.size_append];rfl
theorem PO(w:F)(n:Nat):(convert 69 9 (C (some ⟨w.heap.size,0,none⟩) 1 1)).run H (w.alloc (D #[.int .u8 (48+(n:Int)%10)] 5))=.ok (.string ⟨#[Ew (n%10)]⟩) (w.alloc (D #[.int .u8 (48+(n:Int)%10)] 5)):=by
 have h:=run_convert_bytes_back (P:=H) (w.alloc (D #[.int .u8 (48+(n:Int)%10)] 5)) 69 9 5 ⟨w.heap.size,0,none⟩ 1 [Ew (n%10)] Tryz.underlying69 Tryz.underlying5 Tryz.underlying9 (by
  intro j b
  have:j=0:=by simp at b;omega
  subst this;have e:(((Ew (n%10)).toNat:Nat):Int)=48+(n:Int)%10:=by
   have a:(Ew (n%10)).toNat=48+n%10:=by
    unfold Ew;rw[UInt8.toNat_ofNat'];omega
   rw[a];omega
  simp only[List.getElem_cons_zero,e];go_simp)
 exact h
theorem UV(w:F):(convert 69 9 (C (some ⟨w.heap.size,0,none⟩) 1 1)).run H (w.alloc (D #[.int .u8 48] 5))=.ok (.string ⟨#[Ew 0]⟩) (w.alloc (D #[.int .u8 48] 5)):=PO w 0
theorem UW(a:Option Addr)(l ca m:Nat)(s:Bool)(w:F)(N:RN w (C a l ca) m)(z:m≠0)(hl:l<=400000000000):
 Calls H 74 #[.agg #[C a l ca,E s]] w λe w'=>e=.returned (.string ⟨(if s then 45::ES (Jc 10 m)else ES (Jc 10 m)).toArray⟩)/\I w.heap.size w w':=by
 have S:=N.len;have ak:l≠0:=by rw[S];have:=(Kp (n:=m)).2 z;omega
 obtain⟨a',af,e0,hle,ah,_,W⟩:=Row.open N;have Q:=Jq (B:=10000) J m;have R:Hid (∀i k D,X0 (Jc 10000 m) i k 0 D->i+1=(Jc 10000 m).length->D=Jc 10 m):=λi k D h v=>by
  have:=(h.last v).2.2.2;rw[Jp J]at this;exact this z (Ym J m)
 have X:Hid (∀i n D,X0 (Jc 10000 m) i 4 n D->D.length=4*(i+1)/\DS 10 D/\val 10 D=val 10000 ((Jc 10000 m).take (i+1))):=λi n D h=>h.next Q;cases e0;clear N z;generalize Jc 10000 m=ds at *;generalize Jc 10 m=o at *;have am:((ds.length:Int)==0)=false:=beq_eq_false_iff_ne.2 J;clear S;have c:=Jm.new w 83 (C a ds.length ca) (E s);go_enter Tryz.func74,Tryz.ntmps74
 go_wp2;go_loopw [3,4] (λP L wr=>∃(i:Nat) (D:List Nat) (d:ByteArray),L=.int .i64 i/\P=.string d/\i<=ds.length/\d.size<=4*i/\Hid (d=⟨(ES D).toArray⟩)/\Hid ((i<ds.length/\D.length=4*i/\DS 10 D/\val 10 D=val 10000 (ds.take i))\/(i=ds.length/\D=o))/\Jm wr w.heap.size 83 (C a ds.length ca) (E s)/\I w.heap.size w wr)
  (λ_ L _=>ds.length-(intOf L).toNat)
 case atStart=>exact⟨0,[],⟨#[]⟩,rfl,rfl,J,by show 0<=_;omega,rfl,Or.inl ⟨J,rfl,DS.nil _,by simp[val]⟩,c,(BB _ _).alloc (Aa _) _⟩
 case round=>
  obtain⟨i,D,d,rfl,rfl,hi,A,j,r,c,f⟩:=hrel;have c0:=c.c0;have c1:=c.c1;by_cases ae:i<ds.length
  . obtain⟨b,off,rfl,hb,U⟩:=W.out i ae;have hq:wr.cell? ⟨b,off+i,none⟩=some (.int .i64 (ds[i]?.getD 0:Nat)):=(f.cell (p:=⟨b,off+i,none⟩) hb).trans U;clear U;have q:X0 ds i 0 (ds[i]?.getD 0) D:=by
     rcases r.out with⟨_,T,v,h3⟩|⟨T,_⟩
     . exact X0.start T v h3
     . omega
    have g:=Ha q;clear q r;have K:=Q.getD J i;generalize ds[i]?.getD 0=x at hq g K;go_wp2;go_loopw [3,5,6] (λP nv M wr=>∃(k n:Nat) (D:List Nat) (d:ByteArray),M=.int .i64 k/\nv=.int .i64 n/\P=.string d/\k<=4/\n<10000/\d.size<=4*i+k/\Hid (d=⟨(ES D).toArray⟩)/\Hid (X0 ds i k n D)/\Jm wr w.heap.size 83 (C (some ⟨b,off,none⟩) ds.length ca) (E s)/\I w.heap.size w wr)
     (λ_ _ M _=>4-(intOf M).toNat)
    case atStart=>exact⟨0,x,D,d,rfl,rfl,rfl,J,K,J,j,g,c,f⟩
    case round=>
     clear c c0 c1 f j g hq A K;obtain⟨k,n,D,d,rfl,rfl,rfl,ai,an,A,j,g,c,f⟩:=hrel;have c0:=c.c0;have c1:=c.c1;by_cases V:k<4
     . have aj:(k:Int)<4:=J
       by_cases ad:0<n
       . have Qd:=PO wr n;go_wp2;refine⟨⟨k+1,n/10,D++[n%10],_,Y,Y,rfl,J,J,by rw[PN];omega,?_,g.out.step V (Or.inl ad),c.alloc _,f.alloc f.size _⟩,by simp[intOf];omega⟩;show _=_;rw[j.out,Lb,My]
       . by_cases y:i+1<ds.length
         . have u:n=0:=J
           subst u;have Qd:=UV wr;have Qe:(i:Int)+1<ds.length:=J
           go_wp2;refine⟨⟨k+1,0/10,D++[0%10],_,Y,Y,rfl,J,J,by rw[PN];omega,?_,g.out.step V (Or.inr y),c.alloc _,f.alloc f.size _⟩,by simp[intOf];omega⟩;show _=_;rw[j.out,Lb,My]
         . have u:n=0:=J
           subst u;have Qe:decide ((i:Int)+1<ds.length)=false:=decide_eq_false J;have t:=Ha (R.out i k D g.out J);go_wp2;go_roundw
           case rel=>exact⟨i+1,D,d,Y,rfl,J,J,j,Or.inr ⟨J,t.out⟩,c,f⟩
           case measure=>simp[intOf];omega
     . have Qc:k=4:=J
       subst Qc;have t:Hid ((i+1<ds.length/\D.length=4*(i+1)/\DS 10 D/\val 10 D=val 10000 (ds.take (i+1)))\/(i+1=ds.length/\D=o)):=by
        by_cases y:i+1<ds.length
        . exact Or.inl ⟨y,X.out i n D g.out⟩
        . have q:=g.out;have h0:n=0:=by
           have h4:=q.2.2.2.1;rw[h4];exact Ca (by have:=Q.getD J i;simpa using this)
          subst h0;exact Or.inr ⟨J,R.out i 4 D q J⟩
       go_wp2;go_roundw
       case rel=>exact⟨i+1,D,d,Y,rfl,J,J,j,t,c,f⟩
       case measure=>simp[intOf];omega
  . have e:d=⟨(ES o).toArray⟩:=by
     rcases r.out with⟨h,_⟩|⟨_,h⟩
     . omega
     . rw[j.out,h]
    subst e;cases s
    . go_wp2;go_ret;exact⟨rfl,f⟩
    . have hz:(ES o).length<=4*i:=A;go_wp2;go_ret;refine⟨?_,f⟩;show Ending.returned (.string (⟨#[45]⟩++⟨(ES o).toArray⟩))=_;rw[Lb]
theorem Lc(v:G)(z:Int)(w:F)(h:Jt w v z)(hl:EM z<=400000000000):
 Calls H 74 #[v] w λe g=>e=.returned (.string ⟨(Y0 z).toArray⟩)/\I w.heap.size w g:=by
 obtain⟨a,l,cap,rfl,b⟩:=h;by_cases f:z.natAbs=0
 . have i:z=0:=J
   subst i;have c:=b.len;have j:l=0:=by rw[c];simp[Jz]
   subst j;clear b c hl;go_enter Tryz.func74,Tryz.ntmps74
   go_wp2;go_ret;exact⟨rfl,(BB _ _).alloc (Aa _) _⟩
 . refine(UW a l cap _ _ w b f (by rw[b.len];exact hl)).mono ?_;rintro e g ⟨rfl,k⟩;refine⟨?_,k⟩;unfold Y0;rw[LR f];by_cases d:z<0
   . simp[d]
   . simp[d]
theorem Jm.kept{row:Option Nat}(h:Jm W B t x y)(a:W.grownBy W' row)(b:some B≠row):Jm W' B t x y:=(a.block B h.lt b).trans h
def GL(N c:Nat)(a:List Nat):Prop:=DS 10000 a/\val 10000 a+10000^a.length*c=N/\a.length<=100/\(a=[]\/c≠0\/10000^(a.length-1)<=val 10000 a)
theorem GL.step(h:GL N c f)(k:N<=9223372036854775808)(l:c≠0):GL N (c/10000) (f++[c%10000]):=by
 obtain⟨a,b,i,j⟩:=h;refine⟨a.append (DS.cons (A7 _ J) (DS.nil _)),?_,?_,?_⟩
 . rw[YL,Ai,FF,AQ,Az,CO,<-Ax,Nat.mod_add_div];exact b
 . rcases AO f.length 20 with h|h
   . simp;omega
   . have d:(10000:Nat)^20<=10000^f.length:=Aw J h;have e:10000^f.length*1<=10000^f.length*c:=Av _ J;omega
 . right
   by_cases g:c/10000=0
   . right
     rw[Ai,FF,Nat.add_sub_cancel,YL]
     have:c%10000≠0:=J
     have:=Av (10000^f.length) (show 1<=c%10000 by omega);omega
   . exact Or.inl g
theorem GL.done(h:GL N 0 f):f=Jc 10000 N:=by
 obtain⟨a,b,d,c⟩:=h;rw[Cv,Ch]at b;rw[<-b];refine(Xe J a (Mx J a ?_)).symm;rcases c with h|h|h
 . exact Or.inl h
 . exact absurd rfl h
 . exact Or.inr h
theorem NP{wr:F}{base:Nat}{e:TypeId}{o:Obj}{c:G}{D:Int}(d:Nat)(hD:D=(d:Nat))(S:w.heap.size<=B)(r:B<base)(n:I w.heap.size w wr)(K:Jm wr B t v y)(N:wr.ownsRow base e 1 v f.length (cellsOf k f))
(z:i.ownsRow base e 1 c (f.length+1) (cellsOf k f++[.int k D]))(s:(wr.alloc o).grownBy i v.ownBlock):
 ∃g m,c=C (some ⟨g,0,none⟩) (f++[d]).length m/\(i.setCell ⟨B,0,none⟩ c).ownsRow base e 1 c (f++[d]).length (cellsOf k (f++[d]))/\Jm i B t v y/\I w.heap.size w i/\base<=i.heap.size/\(∀B' a j l,B'<base->Jm wr B' a j l->Jm i B' a j l):=by
 obtain⟨g,m,A⟩:=ownsRow_succ z;subst hD;have p:∀q,v.ownBlock=some q->base<=q/\q<wr.heap.size:=λq hq=>N.lt q hq;have u:∀B' a j l,B'<base->Jm wr B' a j l->Jm i B' a j l:=λB' a j l h b=>(b.alloc o).kept s (λL=>by have:=(p B' L.symm).1;omega);have x:i.ownsRow base e 1 c (f++[d]).length (cellsOf k (f++[d])):=by rw[NK];simpa using z
 refine⟨g,m,by rw[A];simp,ownsRow_setCell_below x r c,u _ _ _ _ r K,?_,?_,u⟩
 . exact(n.alloc n.size _).grown s (by simp;have:=n.size;omega) (λq hq=>by have:=(p q hq).1;omega)
 . rcases x.2 with⟨h,_⟩|⟨R,P,Q,_,T,M,_⟩
   . rw[A]at h;cases h
   . have:=(Ab.1 M).1;omega
theorem UX(N:Nat)(hN:N<=9223372036854775807)(w:F):
 Calls H 79 #[.int .i64 N] w λe y=>∃u,e=.returned u/\Jt y u N/\I w.heap.size w y:=by
 obtain⟨X,P,U,V,W⟩:=Bo Tryz.infoInt;have b:=(Jm.new w 83 (C none 0 0) (E false)).alloc (D #[C none 0 0,E false] 83);have f:=Jm.new (w.alloc (D #[C none 0 0,E false] 83)) 83 (C none 0 0) (E false);simp only[A1]at f;have r:=NO w (D #[C none 0 0,E false] 83) (D #[C none 0 0,E false] 83);have o:Hid (∀a,GL N 0 a->a=Jc 10000 N):=λa h=>h.done;have q:Hid (∀c a,GL N c a->c≠0->GL N (c/10000) (a++[c%10000])):=λc a h j=>h.step J j;go_enter Tryz.func79,Tryz.ntmps79
 go_wp2;go_loopw [0] (λm wr=>∃(c:Nat) (a:List Nat) (d:Option Addr) (i:Nat),m=.int .i64 c/\c<=N/\a.length<=100/\Hid (GL N c a)/\Jm wr w.heap.size 83 (C none 0 0) (E false)/\Jm wr (w.heap.size+1) 83 (C d a.length i) (E false)/\wr.ownsRow (w.heap.size+1+1) 3 1 (C d a.length i) a.length (cellsOf .i64 a)/\I w.heap.size w wr/\w.heap.size+1+1<=wr.heap.size)
  (λm _=>(intOf m).toNat)
 case atStart=>exact⟨N,[],none,0,rfl,Aa _,Y,⟨DS.nil _,by simp[val],Y,Or.inl rfl⟩,b,f,World.ownsRow_nil _ _ _ _,r,Y⟩
 case round=>
  clear b f r;obtain⟨c,a,d,i,rfl,ae,af,n,b,f,l,t,ai⟩:=hrel;have c0:=f.c0;have c1:=f.c1;by_cases j:c=0
  . subst j;have e:=o.out a n.out;have r0:=b.c0;have r1:=b.c1;have g0:=b.f0;have g1:=b.f1;clear o q;go_wp2;subst e;obtain⟨S,K⟩:=YT (C d (Jc 10000 N).length i) (E false) t (Aa _) b rfl rfl (Row.of_owns l J);exact BA (v:=.agg #[C d (Jc 10000 N).length i,E false]) (by simp[results,Tryz.results79,go_sem,r0,r1]) rfl ⟨_,rfl,⟨d,_,i,by rw[show decide ((N:Int)<0)=false from decide_eq_false J],S⟩,K⟩
  . have ad:((c:Int) != 0)=true:=by rw[DG];omega
    have p:=Ha (q.out c a n.out j);go_wp2_with(first
     |(at_builtin;refine BZ _ rfl _ _ 81 rfl (w.heap.size+1+1) 3 X (.int .i64 0) 1 8 Tryz.underlying81 P U V W rfl DQ (C d a.length i) a.length (cellsOf .i64 a) rfl (l.alloc _) ⟨wr.heap.size,0,none⟩ 1 1 [_] rfl rfl (Br _ _ _) (by simp[Value.oneCell']) (by unfold maxLen;omega) J si ?_;intro v' w3 R M ah;obtain⟨g,A,B,x,k,L,T,Q⟩:=NP (c%10000) J J J t f l R M;have d0:=k.c0;have d1:=k.f0;subst B))
    have z:(a++[c%10000]).length<=100:=p.out.2.2.1;have s:(a++[c%10000]).length=a.length+1:=Y
    go_roundw
    case rel=>exact⟨c/10000,a++[c%10000],some ⟨g,0,none⟩,A,Y,J,z,p,(Q _ _ _ _ J b).far Y _,by rw[s];exact k.set0 _,by rw[s]at x ⊢;exact x,L.setCell Y _,by simpa[World.setCell]using T⟩
    case measure=>simp[intOf];omega
theorem UY(c:Nat):(-(c:Int)).tmod 10000=-((c%10000:Nat):Int):=by
 rw[Int.neg_tmod,Int.tmod_eq_emod_of_nonneg J];rfl
theorem UZ(c:Nat):(-(c:Int)).tdiv 10000=-((c/10000:Nat):Int):=by
 rw[Int.neg_tdiv,Int.tdiv_eq_ediv_of_nonneg J];rfl
theorem U0(N:Nat)(X:1<=N)(hN:N<=9223372036854775808)(w:F):
 Calls H 79 #[.int .i64 (-(N:Int))] w λe V=>∃u,e=.returned u/\Jt V u (-(N:Int))/\I w.heap.size w V:=by
 have af:0<N:=X;obtain⟨U,Q,R,S,T⟩:=Bo Tryz.infoInt;have b:=(Jm.new w 83 (C none 0 0) (E false)).alloc (D #[C none 0 0,E true] 83);have f:=Jm.new (w.alloc (D #[C none 0 0,E false] 83)) 83 (C none 0 0) (E true);simp only[A1]at f;have P:=NO w (D #[C none 0 0,E false] 83) (D #[C none 0 0,E true] 83);have L:Hid (∀a,GL N 0 a->a=Jc 10000 N):=λa h=>h.done;have M:Hid (∀c a,GL N c a->c≠0->GL N (c/10000) (a++[c%10000])):=λc a h o=>h.step J o;go_enter Tryz.func79,Tryz.ntmps79
 go_wp2;go_loopw [0] (λB wr=>∃(c:Nat) (a:List Nat) (d:Option Addr) (i:Nat),B=.int .i64 (-(c:Int))/\c<=N/\a.length<=100/\Hid (GL N c a)/\Jm wr w.heap.size 83 (C none 0 0) (E false)/\Jm wr (w.heap.size+1) 83 (C d a.length i) (E true)/\wr.ownsRow (w.heap.size+1+1) 3 1 (C d a.length i) a.length (cellsOf .i64 a)/\I w.heap.size w wr/\w.heap.size+1+1<=wr.heap.size)
  (λB _=>(-(intOf B)).toNat)
 case atStart=>exact⟨N,[],none,0,rfl,Aa _,Y,⟨DS.nil _,by simp[val],Y,Or.inl rfl⟩,b,f,World.ownsRow_nil _ _ _ _,P,Y⟩
 case round=>
  clear b f P;obtain⟨c,a,d,i,rfl,ai,aj,K,b,f,m,s,ak⟩:=hrel;have c0:=f.c0;have c1:=f.c1;have ht:=UY c;have hd:=UZ c;by_cases o:c=0
  . subst o;have e:=L.out a K.out;have r0:=b.c0;have r1:=b.c1;have g0:=b.f0;have g1:=b.f1;clear L M ht hd;go_wp2;subst e;obtain⟨hr,ad⟩:=YT (C d (Jc 10000 N).length i) (E true) s (Aa _) b rfl rfl (Row.of_owns m J);exact BA (v:=.agg #[C d (Jc 10000 N).length i,E true]) (by simp[results,Tryz.results79,go_sem,r0,r1]) rfl ⟨_,rfl,⟨d,_,i,by rw[show decide (-(N:Int)<0)=true from BK J],by rw[Fq];exact hr⟩,ad⟩
  . have ah:((-(c:Int)) != 0)=true:=by rw[DG];omega
    have n:=Ha (M.out c a K.out o);by_cases hm:c%10000=0
    . have W:(c:Int)%10000=0:=J
      clear hm;go_wp2_with(first
       |(at_builtin;refine BZ _ rfl _ _ 81 rfl (w.heap.size+1+1) 3 U (.int .i64 0) 1 8 Tryz.underlying81 Q R S T rfl DQ (C d a.length i) a.length (cellsOf .i64 a) rfl (m.alloc _) ⟨wr.heap.size,0,none⟩ 1 1 [_] rfl rfl (Br _ _ _) (by simp[Value.oneCell']) (by unfold maxLen;omega) J si ?_;intro v' w3 z x ae;obtain⟨g,q,r,l,j,t,A,y⟩:=NP (c%10000) J J J s f m z x;have d0:=j.c0;have d1:=j.f0;subst r))
      have p:(a++[c%10000]).length<=100:=n.out.2.2.1;have k:(a++[c%10000]).length=a.length+1:=Y
      go_roundw
      case rel=>exact⟨c/10000,a++[c%10000],some ⟨g,0,none⟩,q,Y,J,p,n,(y _ _ _ _ J b).far Y _,by rw[k];exact j.set0 _,by rw[k]at l ⊢;exact l,t.setCell Y _,by simpa[World.setCell]using A⟩
      case measure=>simp[intOf];omega
    . have W:0<(c:Int)%10000:=J
      go_wp2_with(first
       |(at_builtin;refine BZ _ rfl _ _ 81 rfl (w.heap.size+1+1) 3 U (.int .i64 0) 1 8 Tryz.underlying81 Q R S T rfl DQ (C d a.length i) a.length (cellsOf .i64 a) rfl (m.alloc _) ⟨wr.heap.size,0,none⟩ 1 1 [_] rfl rfl (Br _ _ _) (by simp[Value.oneCell']) (by unfold maxLen;omega) J si ?_;intro v' w3 z x ae;obtain⟨g,q,r,l,j,t,A,y⟩:=NP (c%10000) J J J s f m z x;have d0:=j.c0;have d1:=j.f0;subst r))
      have p:(a++[c%10000]).length<=100:=n.out.2.2.1;have k:(a++[c%10000]).length=a.length+1:=Y
      go_roundw
      case rel=>exact⟨c/10000,a++[c%10000],some ⟨g,0,none⟩,q,Y,J,p,n,(y _ _ _ _ J b).far Y _,by rw[k];exact j.set0 _,by rw[k]at l ⊢;exact l,t.setCell Y _,by simpa[World.setCell]using A⟩
      case measure=>simp[intOf];omega
theorem Hl(n:Int)(b:-9223372036854775808<=n)(c:n<=9223372036854775807)(w:F):
 Calls H 79 #[.int .i64 n] w λe a=>∃u,e=.returned u/\Jt a u n/\I w.heap.size w a:=by
 by_cases h:n<0
 . have e:n=-(n.natAbs:Int):=J
   rw[e];exact U0 n.natAbs J J w
 . have e:n=(n.natAbs:Int):=J
   rw[e];exact UX n.natAbs J w
