import Derived.Test.YteldjhhjnchdeaaGreatDoorT03
import Derived.Deep.RegionHeld3
set_option linter.all false
open Go.Value renaming slice->C,bool->E
open Go.Obj renaming cells->D
open Go renaming World->F,Value->G
open Go.Proofs.Tryz renaming prog->H
open Go.RowKit renaming Below->I
set_option maxRecDepth 99999
set_option maxHeartbeats 0
namespace Go.Proofs.YteldjhhjnchdeaaGreatDoor
open Proofs.Tryz
open Go.RowKit Go.Shelf
def Jn(W:F)(B:Nat)(t:TypeId)(x y:G):Prop:=W.heap[B]?=some (D #[x,y] t (0,0))
variable{k:IntKind}{f:kQ}{B N c n:Nat}{t:TypeId}{j v x y:G}{W W' i w:F}
def Jn.lt(h:Jn W B t x y):B<W.heap.size:=(Ab.1 h).1
def Jn.c0(h:Jn W B t x y):W.cell? ⟨B,0,none⟩=some x:=by simp[World.cell?,show W.heap[B]?=_ from h]
def Jn.c1(h:Jn W B t x y):W.cell? ⟨B,1,none⟩=some y:=by simp[World.cell?,show W.heap[B]?=_ from h]
def Jn.cp(h:Jn W B t x y):type_of% (And.intro h.c0 h.c1):=⟨h.c0,h.c1⟩
def Jn.f0(h:Jn W B t x y):W.frozen? ⟨B,0,none⟩=false:=by simp[World.frozen?,show W.heap[B]?=_ from h]
def Jn.f1(h:Jn W B t x y):W.frozen? ⟨B,1,none⟩=false:=by simp[World.frozen?,show W.heap[B]?=_ from h]
def Jn.fp(h:Jn W B t x y):type_of% (And.intro h.f0 h.f1):=⟨h.f0,h.f1⟩
def Jn.new(W:F)(t:TypeId)(x y:G):Jn (W.alloc (D #[x,y] t)) W.heap.size t x y:=BC W _
def Jn.below(h:Jn W B t x y)(a:I W.heap.size W W'):Jn W' B t x y:=(a.block B h.lt).trans h
def Jn.alloc{W:F}{B:Nat}{t:TypeId}{x y:G}(h:Jn W B t x y)(o:Obj):Jn (W.alloc o) B t x y:=h.below ((BB _ W).alloc (Aa _) o)
def Jn.drew{W:F}{B:Nat}{t:TypeId}{x y:G}(h:Jn W B t x y):Jn W.drew B t x y:=h
def Jn.set0(h:Jn W B t x y)(u:G):Jn (W.setCell ⟨B,0,none⟩ u) B t u y:=by
 obtain⟨b,a⟩:=Ab.1 h;show(W.heap.modify B _)[B]?=_;rw[Array.getElem?_eq_getElem (by rw[Array.size_modify];exact b),Array.getElem_modify_self,a];rfl
def Jn.set1(h:Jn W B t x y)(u:G):Jn (W.setCell ⟨B,1,none⟩ u) B t x u:=by
 obtain⟨b,a⟩:=Ab.1 h;show(W.heap.modify B _)[B]?=_;rw[Array.getElem?_eq_getElem (by rw[Array.size_modify];exact b),Array.getElem_modify_self,a];rfl
def Jn.far(h:Jn W B t x y){p:Addr}(hp:B≠p.block)(u:G):Jn (W.setCell p u) B t x y:=(BD W p u B hp).trans h
def Below.then{w W a:F}(h:I w.heap.size w W)(k:I W.heap.size W a):I w.heap.size w a:=h.trans (k.mono h.size)
def Bt:=@Below.then
theorem JJ{b o a c:Nat}{u:G}(h:b≠a):(w.setCell ⟨a,c,none⟩ u).cell? ⟨b,o,none⟩=w.cell? ⟨b,o,none⟩:=
 World.cell?_of_block (w:=w) (BD w ⟨a,c,none⟩ u b h)
def JG:G->Bool|.int _ _=>false|_=>true
theorem Row.set{k:IntKind}{W:F}{v:G}{ds:kQ}(h:Row k W v ds){p:Addr}{u0:G}(hp:W.cell? p=some u0)(q:JG u0=true)(u:G):Row k (W.setCell p u) v ds:=by
 obtain⟨a,cap,e,f,g,i,c⟩:=h;refine⟨a,cap,e,f,g,i,?_⟩;rcases c with c|⟨b,m,d,l,n⟩
 . exact Am c
 . refine Ax ⟨b,m,d,l.set p u,λj o=>?_⟩;grind[JG,World.cell?_setCell_other]
def YU{R:Nat}{u0 u1:G}(x0 x1:G){ds:kQ}(b:I w.heap.size w i)(a:w.heap.size<=R)(q:Jn i R t u0 u1)(d:JG u0=true)(e:JG u1=true)(c:Row k i v ds):
 Row k ((i.setCell ⟨R,0,none⟩ x0).setCell ⟨R,1,none⟩ x1) v ds/\I w.heap.size w ((i.setCell ⟨R,0,none⟩ x0).setCell ⟨R,1,none⟩ x1):=
 ⟨Row.set (Row.set c q.c0 d _) (u0:=u1) (q.set0 x0).c1 e _,(b.setCell a _).setCell a _⟩
def RN.below{W W':F}{v:G}{n:Nat}(h:RN W v n)(a:I W.heap.size W W'):RN W' v n:=Row.below h a
def RN.form(h:RN W v n):∃a cap,v=C a (Jc 10000 n).length cap:=by
 obtain⟨a,cap,e,_⟩:=h;exact⟨a,cap,e⟩
def Lk{a b c:TypeId}{x1 d f e g:G}(h:((w.alloc (D #[x1,j] a)).alloc (D #[d,f] b)).alloc (D #[e,g] c)=W):I w.heap.size w W/\Jn W w.heap.size a x1 j/\Jn W (w.heap.size+1) b d f/\Jn W (w.heap.size+1+1) c e g:=by
 subst h;have i:=(Jn.new (w.alloc (D #[x1,j] a)) b d f).alloc (D #[e,g] c);have k:=Jn.new ((w.alloc (D #[x1,j] a)).alloc (D #[d,f] b)) c e g;rw[A1]at i;rw[A1,A1]at k;exact⟨(((BB _ w).alloc (Aa _) _).alloc DK _).alloc si _,((Jn.new w _ _ _).alloc _).alloc _,i,k⟩
def Pt(a b:G)(m n:Nat)(w:F)(c:RN w a m)(d:RN w b n):
 Calls H 114 #[a,b] w λe f=>e=.returned (.int .i64 (Xf m n))/\I w.heap.size w f:=by
 have h:=NU 10000 O a b _ _ w c d (Jo O m) (Jo O n) (Yr O m) (Yr O n);rw[Jp O,Jp O]at h;exact h
def Gp(w:F)(a b c:Obj):I w.heap.size w (((w.alloc a).alloc b).alloc c):=
 (((BB _ w).alloc (Aa _) _).alloc DK _).alloc si _
def Pv{m:Nat}(h:n<=m):0<=Xf m n:=by
 rcases AP n m with g|g
 . rw[Iz g];omega
 . have:m=n:=O
   rw[this,NC];omega
def Ve(a b:kR)(la lb ca cb m n:Nat)(s:Bool)(w:F)(A:RN w (C a la ca) m)(B:RN w (C b lb cb) n)(r:(Jc 10000 m).length<=400000000000)(t:(Jc 10000 n).length<=400000000000):
 Calls H 81 #[.agg #[C a la ca,E s],.agg #[C b lb cb,E s]] w λe i=>∃c o p,e=.returned (.agg #[C c o p,E (s&&decide (0<o))])/\RN i (C c o p) (m+n)/\I w.heap.size w i:=by
 have K:¬(w.heap.size=w.heap.size+1+1):=O
 go_enter func81,ntmps81
 go_wp2_with fail
 have f:=Gp w (D #[C a la ca,E s] 83) (D #[C b lb cb,E s] 83) (D #[C none 0 0,E false] 83);have b0:=((Jn.new w 83 (C a la ca) (E s)).alloc (D #[C b lb cb,E s] 83)).alloc (D #[C none 0 0,E false] 83);have g:=(Jn.new (w.alloc (D #[C a la ca,E s] 83)) 83 (C b lb cb) (E s)).alloc (D #[C none 0 0,E false] 83);have d:=Jn.new ((w.alloc (D #[C a la ca,E s] 83)).alloc (D #[C b lb cb,E s] 83)) 83 (C none 0 0) (E false);simp only[A1]at g d;go_region_held3 (λi=>i.cell? ⟨w.heap.size,0,none⟩=some (C a la ca)/\i.cell? ⟨w.heap.size+1,0,none⟩=some (C b lb cb)/\i.cell? ⟨w.heap.size,1,none⟩=some (E s)) (refine⟨?_,?_,?_⟩<;>(first|(go_keep;done)|((repeat rw[JJ O]);simp[*];done)))
  (first
   |(go_at_call 113;refine(VZ _ _ m n _ ?_ ?_ r t).mono ?_;exact A.below f.drew;exact B.below f.drew;rintro e L ⟨u,rfl,l,k⟩;obtain⟨a',c',rfl⟩:=l.form;have b0:=b0.drew.below k;have g:=g.drew.below k;have d:=d.drew.below k;have f:=Below.then f.drew k;have x:=b0.c0;have y:=b0.c1;have z:=g.c0)
   |(go_at_call 112;refine(IQ _ _ _ _ _).mono ?_;rintro e M ⟨rfl,j⟩;have l:=Row.below l j;have b0:=b0.below j;have g:=g.below j;have d:=d.below j;have f:=Below.then f j;have x:=b0.c0;have y:=b0.c1;have z:=g.c0;have r0:=d.c0;have r1:=d.c1;have f0:=d.f0;have f1:=d.f1))
 all_goals go_wp2_with fail
 obtain⟨v,q⟩:=YU (C a' (Jc 10000 (m+n)).length c') (E (s&&decide (0<(Jc 10000 (m+n)).length))) f O d J J l;exact BA (by simp[results,results81,go_sem,r0,r1]) J ⟨_,_,_,J,v,q⟩
def Vf(a b:kR)(la lb ca cb m n:Nat)(s:Bool)(w:F)(y:RN w (C a la ca) m)(z:RN w (C b lb cb) n)(K:(Jc 10000 m).length<=400000000000)(p:n<=m):
 Calls H 81 #[.agg #[C a la ca,E s],.agg #[C b lb cb,E (!s)]] w λe i=>∃c q r,e=.returned (.agg #[C c q r,E (s&&decide (0<q))])/\RN i (C c q r) (m-n)/\I w.heap.size w i:=by
 have N:¬(w.heap.size=w.heap.size+1+1):=O
 have hs:(s == !s)=false:=by cases s<;>rfl
 have M:=Pv p;have A:Hid (n<=m):=p;clear p;have f:=Gp w (D #[C a la ca,E s] 83) (D #[C b lb cb,E (!s)] 83) (D #[C none 0 0,E false] 83);have b0:=((Jn.new w 83 (C a la ca) (E s)).alloc (D #[C b lb cb,E (!s)] 83)).alloc (D #[C none 0 0,E false] 83);have g:=(Jn.new (w.alloc (D #[C a la ca,E s] 83)) 83 (C b lb cb) (E (!s))).alloc (D #[C none 0 0,E false] 83);have d:=Jn.new ((w.alloc (D #[C a la ca,E s] 83)).alloc (D #[C b lb cb,E (!s)] 83)) 83 (C none 0 0) (E false);simp only[A1]at g d;go_enter func81,ntmps81
 go_wp2_with(first
  |(go_at_call 114;refine(Pt _ _ m n _ ?_ ?_).mono ?_;exact y.below f;exact z.below f;rintro e w0 ⟨rfl,k⟩;have b0:=b0.below k;have g:=g.below k;have d:=d.below k;have f:=Below.then f k;have t:=b0.c0;have v:=b0.c1;have x:=g.c0))
 go_region_held3 (λi=>i.cell? ⟨w.heap.size,0,none⟩=some (C a la ca)/\i.cell? ⟨w.heap.size+1,0,none⟩=some (C b lb cb)/\i.cell? ⟨w.heap.size,1,none⟩=some (E s)) (refine⟨?_,?_,?_⟩<;>(first|(go_keep;done)|((repeat rw[JJ O]);simp[*];done)))
  (first
   |(go_at_call 115;refine(Li _ _ m n _ ?_ ?_ (CO (Nat.lt_succ_of_le A.out)) K).mono ?_;exact y.below f.drew;exact z.below f.drew;rintro e P ⟨u,rfl,o,l⟩;obtain⟨a',c',rfl⟩:=o.form;have b0:=b0.drew.below l;have g:=g.drew.below l;have d:=d.drew.below l;have f:=Below.then f.drew l;have t:=b0.c0;have v:=b0.c1;have x:=g.c0)
   |(go_at_call 112;refine(IQ _ _ _ _ _).mono ?_;rintro e Q ⟨rfl,j⟩;have o:=Row.below o j;have b0:=b0.below j;have g:=g.below j;have d:=d.below j;have f:=Below.then f j;have t:=b0.c0;have v:=b0.c1;have x:=g.c0;have r0:=d.c0;have r1:=d.c1;have f0:=d.f0;have f1:=d.f1))
 all_goals go_wp2_with fail
 obtain⟨L,B⟩:=YU (C a' (Jc 10000 (m-n)).length c') (E (s&&decide (0<(Jc 10000 (m-n)).length))) f O d J J o;exact BA (by simp[results,results81,go_sem,r0,r1]) J ⟨_,_,_,J,L,B⟩
def Vg(a b:kR)(la lb ca cb m n:Nat)(s:Bool)(w:F)(y:RN w (C a la ca) m)(z:RN w (C b lb cb) n)(K:(Jc 10000 n).length<=400000000000)(p:m<n):
 Calls H 81 #[.agg #[C a la ca,E s],.agg #[C b lb cb,E (!s)]] w λe i=>∃c q r,e=.returned (.agg #[C c q r,E ((!s)&&decide (0<q))])/\RN i (C c q r) (n-m)/\I w.heap.size w i:=by
 have N:¬(w.heap.size=w.heap.size+1+1):=O
 have hs:(s == !s)=false:=by cases s<;>rfl
 have M:Xf m n<0:=by rw[Gc p];omega
 have A:Hid (m<n):=p;clear p;have g:=Gp w (D #[C a la ca,E s] 83) (D #[C b lb cb,E (!s)] 83) (D #[C none 0 0,E false] 83);have b0:=((Jn.new w 83 (C a la ca) (E s)).alloc (D #[C b lb cb,E (!s)] 83)).alloc (D #[C none 0 0,E false] 83);have d:=(Jn.new (w.alloc (D #[C a la ca,E s] 83)) 83 (C b lb cb) (E (!s))).alloc (D #[C none 0 0,E false] 83);have f:=Jn.new ((w.alloc (D #[C a la ca,E s] 83)).alloc (D #[C b lb cb,E (!s)] 83)) 83 (C none 0 0) (E false);simp only[A1]at d f;go_enter func81,ntmps81
 go_wp2_with(first
  |(go_at_call 114;refine(Pt _ _ m n _ ?_ ?_).mono ?_;exact y.below g;exact z.below g;rintro e w0 ⟨rfl,k⟩;have b0:=b0.below k;have d:=d.below k;have f:=f.below k;have g:=Below.then g k;have t:=b0.c0;have v:=d.c1;have x:=d.c0))
 go_region_held3 (λi=>i.cell? ⟨w.heap.size,0,none⟩=some (C a la ca)/\i.cell? ⟨w.heap.size+1,0,none⟩=some (C b lb cb)/\i.cell? ⟨w.heap.size+1,1,none⟩=some (E (!s))) (refine⟨?_,?_,?_⟩<;>(first|(go_keep;done)|((repeat rw[JJ O]);simp[*];done)))
  (first
   |(go_at_call 115;refine(Li _ _ n m _ ?_ ?_ (CO (Nat.lt_succ_of_le (FL A.out))) K).mono ?_;exact z.below g.drew;exact y.below g.drew;rintro e P ⟨u,rfl,o,l⟩;obtain⟨a',c',rfl⟩:=o.form;have b0:=b0.drew.below l;have d:=d.drew.below l;have f:=f.drew.below l;have g:=Below.then g.drew l;have t:=b0.c0;have v:=d.c1;have x:=d.c0)
   |(go_at_call 112;refine(IQ _ _ _ _ _).mono ?_;rintro e Q ⟨rfl,j⟩;have o:=Row.below o j;have b0:=b0.below j;have d:=d.below j;have f:=f.below j;have g:=Below.then g j;have t:=b0.c0;have v:=d.c1;have x:=d.c0;have r0:=f.c0;have r1:=f.c1;have f0:=f.f0;have f1:=f.f1))
 all_goals go_wp2_with fail
 obtain⟨L,B⟩:=YU (C a' (Jc 10000 (n-m)).length c') (E ((!s)&&decide (0<(Jc 10000 (n-m)).length))) g O f J J o;exact BA (by simp[results,results81,go_sem,r0,r1]) J ⟨_,_,_,J,L,B⟩
def RN.len{a:kR}{l:Nat}(h:RN W (C a l c) n):l=(Jc 10000 n).length:=by
 obtain⟨a',cap,e,_⟩:=h;cases e;rfl
def Ll{d:G}{p q:Bool}(h:p=q):Value.agg #[d,E p]=.agg #[d,E q]:=by rw[h]
def Ju(W:F)(v:G)(z:Int):Prop:=∃a l cap,v=.agg #[C a l cap,E (decide (z<0))]/\RN W (C a l cap) z.natAbs
def Ju.below{W W':F}{v:G}{z:Int}(h:Ju W v z)(b:I W.heap.size W W'):Ju W' v z:=by
 obtain⟨a,l,cap,e,c⟩:=h;exact⟨a,l,cap,e,c.below b⟩
def D5(z:Int):Nat:=(Jc 10000 z.natAbs).length
def Ke:0<(Jc 10000 n).length↔n≠0:=by
 rw[Ac,Ne,JF O]
def NW(p q:G)(x y:Int)(w:F)(s:Ju w p x)(t:Ju w q y)(l:D5 x<=400000000000)(m:D5 y<=400000000000):
 Calls H 81 #[p,q] w λe k=>∃u,e=.returned u/\Ju k u (x+y)/\I w.heap.size w k:=by
 obtain⟨a,la,ca,rfl,n⟩:=s;obtain⟨b,lb,cb,rfl,o⟩:=t;unfold D5 at l m;by_cases hs:decide (x<0)=decide (y<0)
 . rw[<-hs];refine(Ve a b la lb ca cb _ _ _ w n o l m).mono ?_;rintro e k ⟨c,j,f,rfl,d,i⟩;have hl:=d.len;have g:x.natAbs+y.natAbs=(x+y).natAbs:=by
    have:(x<0↔y<0):=by simpa using hs
    omega
   rw[g]at d hl;refine⟨_,J,⟨c,j,f,?_,d⟩,i⟩;refine Ll ?_;rw[Cu];simp only[AX,BZ];rw[hl,Ke]
   have:(x<0↔y<0):=by simpa using hs
   omega
 . have r:decide (y<0)=!decide (x<0):=by
    cases z:decide (x<0)<;>cases A:decide (y<0)<;>simp_all
   have B:¬(x<0↔y<0):=by simpa using hs
   rw[r];by_cases v:y.natAbs<=x.natAbs
   . refine(Vf a b la lb ca cb _ _ _ w n o l v).mono ?_;rintro e k ⟨c,j,f,rfl,d,i⟩;have hl:=d.len;have g:x.natAbs-y.natAbs=(x+y).natAbs:=O
     rw[g]at d hl;refine⟨_,J,⟨c,j,f,?_,d⟩,i⟩;refine Ll ?_;rw[Cu];simp only[AX,BZ];rw[hl,Ke];omega
   . refine(Vg a b la lb ca cb _ _ _ w n o m O).mono ?_;rintro e k ⟨c,j,f,rfl,d,i⟩;have hl:=d.len;have g:y.natAbs-x.natAbs=(x+y).natAbs:=O
     rw[g]at d hl;refine⟨_,J,⟨c,j,f,?_,d⟩,i⟩;refine Ll ?_;rw[Cu];simp only[AX,BZ,CF,Bs];rw[hl,Ke];omega
def NX(w:F)(a b:Obj):I w.heap.size w ((w.alloc a).alloc b):=
 ((BB _ w).alloc (Aa _) _).alloc DK _
def Vh(a:kR)(la ca m:Nat)(s:Bool)(w:F)(j:RN w (C a la ca) m):
 Calls H 110 #[.agg #[C a la ca,E s]] w λe f=>e=.returned (.agg #[C a la ca,E (!s&&decide (0<la))])/\RN f (C a la ca) m/\I w.heap.size w f:=by
 have c:=NX w (D #[C a la ca,E s] 83) (D #[C none 0 0,E false] 83);have b:=Jn.new (w.alloc (D #[C a la ca,E s] 83)) 83 (C none 0 0) (E false);simp only[A1]at b;go_enter func110,ntmps110
 go_wp2_with(first
  |(go_at_call 112;refine(IQ _ _ _ _ _).mono ?_;rintro e k ⟨rfl,d⟩;have b:=b.below d;have c:=Below.then c d;have r0:=b.c0;have r1:=b.c1;have f0:=b.f0;have f1:=b.f1))
 obtain⟨i,g⟩:=YU (C a la ca) (E (!s&&decide (0<la))) c O b J J (j.below c);exact BA (by simp[results,results110,go_sem,r0,r1]) J ⟨J,i,g⟩
def Pw(d:G)(x:Int)(w:F)(g:Ju w d x):
 Calls H 110 #[d] w λe c=>∃u,e=.returned u/\Ju c u (-x)/\I w.heap.size w c:=by
 obtain⟨a,la,ca,rfl,i⟩:=g;refine(Vh a la ca _ _ w i).mono ?_;rintro e c ⟨rfl,b,f⟩;have hl:=b.len;rw[show x.natAbs=(-x).natAbs from by omega]at b hl;refine⟨_,J,⟨a,la,ca,?_,b⟩,f⟩;refine Ll ?_;rw[Cu];simp only[AX,BZ,CF,Bs];rw[hl,Ke];omega
theorem Lm(c:UInt8)(l:List UInt8):(⟨#[c]⟩:ByteArray)++⟨l.toArray⟩=⟨(c::l).toArray⟩:=by
 apply ByteArray.ext;simp[ByteArray.data_append]
def Px(c:UInt8)(s:ByteArray):((⟨#[c]⟩:ByteArray)++s).size=1+s.size:=by
 rw[ByteArray.size_append];rfl
def Py(w:F)(n:Nat):(convert 69 9 (C (some ⟨w.heap.size,0,none⟩) 1 1)).run H (w.alloc (D #[.int .u8 (48+(n:Int)%10)] 5))=.ok (.string ⟨#[Ed (n%10)]⟩) (w.alloc (D #[.int .u8 (48+(n:Int)%10)] 5)):=by
 have h:=run_convert_bytes_back (P:=H) (w.alloc (D #[.int .u8 (48+(n:Int)%10)] 5)) 69 9 5 ⟨w.heap.size,0,none⟩ 1 [Ed (n%10)] underlying69 underlying5 underlying9 (by
  intro j b
  have:j=0:=by simp at b;omega
  subst this;have e:(((Ed (n%10)).toNat:Nat):Int)=48+(n:Int)%10:=by
   have a:(Ed (n%10)).toNat=48+n%10:=by
    unfold Ed;rw[UInt8.toNat_ofNat'];omega
   rw[a];omega
  simp only[List.getElem_cons_zero,e];go_simp)
 exact h
def Vi(w:F):(convert 69 9 (C (some ⟨w.heap.size,0,none⟩) 1 1)).run H (w.alloc (D #[.int .u8 48] 5))=.ok (.string ⟨#[Ed 0]⟩) (w.alloc (D #[.int .u8 48] 5)):=Py w 0
def Vj(a:kR)(l ca m:Nat)(s:Bool)(w:F)(N:RN w (C a l ca) m)(y:m≠0)(hl:l<=400000000000):
 Calls H 74 #[.agg #[C a l ca,E s]] w λe w'=>e=.returned (.string ⟨(if s then 45::EA (Jc 10 m)else EA (Jc 10 m)).toArray⟩)/\I w.heap.size w w':=by
 have S:=N.len;have an:l≠0:=by rw[S];have:=(Ke (n:=m)).2 y;omega
 obtain⟨a',ah,e0,hle,ai,_,W⟩:=Row.open N;have Q:=Jo (B:=10000) O m;have R:Hid (∀i k D,X0 (Jc 10000 m) i k 0 D->i+1=(Jc 10000 m).length->D=Jc 10 m):=λi k D h u=>by
  have:=(h.last u).2.2.2;rw[Jp O]at this;exact this y (Yr O m)
 have X:Hid (∀i n D,X0 (Jc 10000 m) i 4 n D->D.length=4*(i+1)/\DM 10 D/\val 10 D=val 10000 ((Jc 10000 m).take (i+1))):=λi n D h=>h.next Q;cases e0;clear N y;generalize Jc 10000 m=ds at *;generalize Jc 10 m=o at *;have ap:((ds.length:Int)==0)=false:=beq_eq_false_iff_ne.2 O;clear S;have c:=Jn.new w 83 (C a ds.length ca) (E s);go_enter func74,ntmps74
 go_wp2;go_loopw [3,4] (λP K wr=>∃(i:Nat) (D:kQ) (d:ByteArray),K=.int .i64 i/\P=.string d/\i<=ds.length/\d.size<=4*i/\Hid (d=⟨(EA D).toArray⟩)/\Hid ((i<ds.length/\D.length=4*i/\DM 10 D/\val 10 D=val 10000 (ds.take i))\/(i=ds.length/\D=o))/\Jn wr w.heap.size 83 (C a ds.length ca) (E s)/\I w.heap.size w wr)
  (λ_ K _=>ds.length-(intOf K).toNat)
 case atStart=>exact⟨0,[],⟨#[]⟩,J,J,O,by show 0<=_;omega,J,Am ⟨O,J,DM.nil _,by simp[val]⟩,c,(BB _ _).alloc (Aa _) _⟩
 case round=>
  obtain⟨i,D,d,rfl,rfl,hi,z,j,q,c,f⟩:=hrel;have c0:=c.c0;have c1:=c.c1;by_cases ae:i<ds.length
  . obtain⟨b,M,rfl,hb,U⟩:=W.out i ae;have hq:wr.cell? ⟨b,M+i,none⟩=some (.int .i64 (ds[i]?.getD 0:Nat)):=(f.cell (p:=⟨b,M+i,none⟩) hb).trans U;clear U;have hT:X0 ds i 0 (ds[i]?.getD 0) D:=by
     rcases q.out with⟨_,T,u,h3⟩|⟨T,_⟩
     . exact X0.start T u h3
     . omega
    have g:=GI hT;clear hT q;have A:=Q.getD O i;generalize ds[i]?.getD 0=x at hq g A;go_wp2;go_loopw [3,5,6] (λP nv L wr=>∃(k n:Nat) (D:kQ) (d:ByteArray),L=.int .i64 k/\nv=.int .i64 n/\P=.string d/\k<=4/\n<10000/\d.size<=4*i+k/\Hid (d=⟨(EA D).toArray⟩)/\Hid (X0 ds i k n D)/\Jn wr w.heap.size 83 (C (some ⟨b,M,none⟩) ds.length ca) (E s)/\I w.heap.size w wr)
     (λ_ _ L _=>4-(intOf L).toNat)
    case atStart=>exact⟨0,x,D,d,J,J,J,O,A,O,j,g,c,f⟩
    case round=>
     clear c c0 c1 f j g hq z A;obtain⟨k,n,D,d,rfl,rfl,rfl,ak,aq,z,j,g,c,f⟩:=hrel;have c0:=c.c0;have c1:=c.c1;by_cases V:k<4
     . have am:(k:Int)<4:=O
       by_cases ad:0<n
       . have Qd:=Py wr n;have aj:(0:Int)<n:=O
         go_wp2;refine⟨⟨k+1,n/10,D++[n%10],_,DK,DK,J,O,O,by rw[Px];omega,?_,g.out.step V (Am ad),c.alloc _,f.alloc f.size _⟩,by simp[intOf];omega⟩;show _=_;rw[j.out,Lm,NF]
       . by_cases v:i+1<ds.length
         . have t:n=0:=O
           subst t;have Qd:=Vi wr;have Qe:(i:Int)+1<ds.length:=O
           go_wp2;refine⟨⟨k+1,0/10,D++[0%10],_,DK,DK,J,O,O,by rw[Px];omega,?_,g.out.step V (Ax v),c.alloc _,f.alloc f.size _⟩,by simp[intOf];omega⟩;show _=_;rw[j.out,Lm,NF]
         . have t:n=0:=O
           subst t;have Qe:decide ((i:Int)+1<ds.length)=false:=BE O;have r:=GI (R.out i k D g.out O);go_wp2;go_roundw
           case rel=>exact⟨i+1,D,d,DK,J,O,O,j,Ax ⟨O,r.out⟩,c,f⟩
           case measure=>simp[intOf];omega
     . have Qc:k=4:=O
       subst Qc;have r:Hid ((i+1<ds.length/\D.length=4*(i+1)/\DM 10 D/\val 10 D=val 10000 (ds.take (i+1)))\/(i+1=ds.length/\D=o)):=by
        by_cases v:i+1<ds.length
        . exact Am ⟨v,X.out i n D g.out⟩
        . have hT:=g.out;have h0:n=0:=by
           have h4:=hT.2.2.2.1;rw[h4];exact A3 (by have:=Q.getD O i;simpa using this)
          subst h0;exact Ax ⟨O,R.out i 4 D hT O⟩
       go_wp2;go_roundw
       case rel=>exact⟨i+1,D,d,DK,J,O,O,j,r,c,f⟩
       case measure=>simp[intOf];omega
  . have e:d=⟨(EA o).toArray⟩:=by
     rcases q.out with⟨h,_⟩|⟨_,h⟩
     . omega
     . rw[j.out,h]
    subst e;cases s
    . go_wp2;go_ret;exact⟨J,f⟩
    . have hz:(EA o).length<=4*i:=z;go_wp2;go_ret;refine⟨?_,f⟩;show Ending.returned (.string (⟨#[45]⟩++⟨(EA o).toArray⟩))=_;rw[Lm]
def Lo(v:G)(z:Int)(w:F)(h:Ju w v z)(hl:D5 z<=400000000000):
 Calls H 74 #[v] w λe g=>e=.returned (.string ⟨(Xl z).toArray⟩)/\I w.heap.size w g:=by
 obtain⟨a,l,cap,rfl,b⟩:=h;by_cases f:z.natAbs=0
 . have i:z=0:=O
   subst i;have c:=b.len;have j:l=0:=by rw[c];simp[JD]
   subst j;clear b c hl;go_enter func74,ntmps74
   go_wp2;go_ret;exact⟨J,(BB _ _).alloc (Aa _) _⟩
 . refine(Vj a l cap _ _ w b f (by rw[b.len];exact hl)).mono ?_;rintro e g ⟨rfl,k⟩;refine⟨?_,k⟩;unfold Xl;rw[Lc f];by_cases d:z<0
   . simp[d]
   . simp[d]
def Jn.kept{row:Option Nat}(h:Jn W B t x y)(hg:W.grownBy W' row)(a:some B≠row):Jn W' B t x y:=(hg.block B h.lt a).trans h
def FT(N c:Nat)(a:kQ):Prop:=DM 10000 a/\val 10000 a+10000^a.length*c=N/\a.length<=100/\(a=[]\/c≠0\/10000^(a.length-1)<=val 10000 a)
theorem FT.step(h:FT N c f)(i:N<=9223372036854775808)(j:c≠0):FT N (c/10000) (f++[c%10000]):=by
 obtain⟨a,b,d,e⟩:=h;refine⟨a.append (DM.cons (AZ _ O) (DM.nil _)),?_,?_,?_⟩
 . grind[YA,Cc,Ch,Nat.mod_add_div]
 . grind
 . right
   by_cases g:c/10000=0
   . right
     rw[At,List.length_singleton,Nat.add_sub_cancel,YA]
     have:c%10000≠0:=O
     have:=Ai (10000^f.length) (show 1<=c%10000 by omega);omega
   . exact Am g
theorem FT.done(h:FT N 0 f):f=Jc 10000 N:=by
 obtain⟨a,b,c,d⟩:=h;rw[Cr,Cb]at b;rw[<-b];refine(XB O a (NE O a ?_)).symm;grind
theorem NY{wr:F}{base:Nat}{e:TypeId}{o:Obj}{D:Int}(d:Nat)(hD:D=(d:Nat))(N:w.heap.size<=B)(p:B<base)(n:I w.heap.size w wr)(A:Jn wr B t v y)(K:wr.ownsRow base e 1 v f.length (cellsOf k f))
(x:i.ownsRow base e 1 j (f.length+1) (cellsOf k f++[.int k D]))(r:(wr.alloc o).grownBy i v.ownBlock):
 ∃g m,j=C (some ⟨g,0,none⟩) (f++[d]).length m/\(i.setCell ⟨B,0,none⟩ j).ownsRow base e 1 j (f++[d]).length (cellsOf k (f++[d]))/\Jn i B t v y/\I w.heap.size w i/\base<=i.heap.size/\(∀B' a c l,B'<base->Jn wr B' a c l->Jn i B' a c l):=by
 obtain⟨g,m,z⟩:=ownsRow_succ x;subst hD;have R:∀q,v.ownBlock=some q->base<=q/\q<wr.heap.size:=λq hq=>K.lt q hq;have s:∀B' a c l,B'<base->Jn wr B' a c l->Jn i B' a c l:=λB' a c l h b=>(b.alloc o).kept r (λM=>by grind);have u:i.ownsRow base e 1 j (f++[d]).length (cellsOf k (f++[d])):=by rw[NS];simpa using x
 refine⟨g,m,by rw[z];simp,ownsRow_setCell_below u p j,s _ _ _ _ p A,?_,?_,s⟩
 . exact(n.alloc n.size _).grown r (by simp;have:=n.size;omega) (λq hq=>by grind)
 . rcases u.2 with⟨h,_⟩|⟨g',cap',L,_,Q,P,_⟩
   . rw[z]at h;cases h
   grind
def Vk(N:Nat)(hN:N<=9223372036854775807)(w:F):
 Calls H 79 #[.int .i64 N] w λe y=>∃u,e=.returned u/\Ju y u N/\I w.heap.size w y:=by
 obtain⟨X,P,U,V,W⟩:=Bn Tryz.infoInt;have b:=(Jn.new w 83 (C none 0 0) (E false)).alloc (D #[C none 0 0,E false] 83);have d:=Jn.new (w.alloc (D #[C none 0 0,E false] 83)) 83 (C none 0 0) (E false);simp only[A1]at d;have r:=NX w (D #[C none 0 0,E false] 83) (D #[C none 0 0,E false] 83);have o:Hid (∀a,FT N 0 a->a=Jc 10000 N):=λa h=>h.done;have q:Hid (∀c a,FT N c a->c≠0->FT N (c/10000) (a++[c%10000])):=λc a h j=>h.step O j;go_enter func79,ntmps79
 go_wp2;go_loopw [0] (λm wr=>∃(c:Nat) (a:kQ) (f:kR) (i:Nat),m=.int .i64 c/\c<=N/\a.length<=100/\Hid (FT N c a)/\Jn wr w.heap.size 83 (C none 0 0) (E false)/\Jn wr (w.heap.size+1) 83 (C f a.length i) (E false)/\wr.ownsRow (w.heap.size+1+1) 3 1 (C f a.length i) a.length (cellsOf .i64 a)/\I w.heap.size w wr/\w.heap.size+1+1<=wr.heap.size)
  (λm _=>(intOf m).toNat)
 case atStart=>exact⟨N,[],none,0,J,Aa _,DK,⟨DM.nil _,by simp[val],DK,Am J⟩,b,d,World.ownsRow_nil _ _ _ _,r,DK⟩
 case round=>
  clear b d r;obtain⟨c,a,f,i,rfl,ae,ah,n,b,d,l,t,aj⟩:=hrel;have c0:=d.c0;have c1:=d.c1;have f0:=d.f0;by_cases j:c=0
  . subst j;have e:=o.out a n.out;have r0:=b.c0;have r1:=b.c1;have g0:=b.f0;have g1:=b.f1;clear o q;go_wp2;subst e;obtain⟨S,K⟩:=YU (C f (Jc 10000 N).length i) (E false) t (Aa _) b J J (Row.of_owns l O);exact BA (v:=.agg #[C f (Jc 10000 N).length i,E false]) (by simp[results,results79,go_sem,r0,r1]) J ⟨_,J,⟨f,_,i,by rw[show decide ((N:Int)<0)=false from BE O],S⟩,K⟩
  . have ad:((c:Int) != 0)=true:=by rw[B7];omega
    have p:=GI (q.out c a n.out j);go_wp2_with(first
     |(at_builtin;refine BW _ J _ _ 81 J (w.heap.size+1+1) 3 X (.int .i64 0) 1 8 underlying81 P U V W J DN (C f a.length i) a.length (cellsOf .i64 a) J (l.alloc _) ⟨wr.heap.size,0,none⟩ 1 1 [_] J J (Bo _ _ _) (by simp[Value.oneCell']) (by unfold maxLen;omega) O si ?_;intro v' w3 R M ai;obtain⟨g,A,B,x,k,L,T,Q⟩:=NY (c%10000) O O O t d l R M;have d0:=k.c0;have d1:=k.f0;subst B))
    have z:(a++[c%10000]).length<=100:=p.out.2.2.1;have s:(a++[c%10000]).length=a.length+1:=DK
    go_roundw
    case rel=>exact⟨c/10000,a++[c%10000],some ⟨g,0,none⟩,A,DK,O,z,p,(Q _ _ _ _ O b).far DK _,by rw[s];exact k.set0 _,by rw[s]at x ⊢;exact x,L.setCell DK _,by simpa[World.setCell]using T⟩
    case measure=>simp[intOf];omega
def Vl(c:Nat):(-(c:Int)).tmod 10000=-((c%10000:Nat):Int):=by
 rw[Int.neg_tmod,Int.tmod_eq_emod_of_nonneg O];rfl
def Vm(c:Nat):(-(c:Int)).tdiv 10000=-((c/10000:Nat):Int):=by
 rw[Int.neg_tdiv,Int.tdiv_eq_ediv_of_nonneg O];rfl
def Vn(N:Nat)(h0:1<=N)(hN:N<=9223372036854775808)(w:F):
 Calls H 79 #[.int .i64 (-(N:Int))] w λe W=>∃u,e=.returned u/\Ju W u (-(N:Int))/\I w.heap.size w W:=by
 have ah:0<N:=h0;obtain⟨V,Q,S,T,U⟩:=Bn Tryz.infoInt;have b:=(Jn.new w 83 (C none 0 0) (E false)).alloc (D #[C none 0 0,E true] 83);have d:=Jn.new (w.alloc (D #[C none 0 0,E false] 83)) 83 (C none 0 0) (E true);simp only[A1]at d;have P:=NX w (D #[C none 0 0,E false] 83) (D #[C none 0 0,E true] 83);have L:Hid (∀a,FT N 0 a->a=Jc 10000 N):=λa h=>h.done;have M:Hid (∀c a,FT N c a->c≠0->FT N (c/10000) (a++[c%10000])):=λc a h o=>h.step O o;go_enter func79,ntmps79
 go_wp2;go_loopw [0] (λB wr=>∃(c:Nat) (a:kQ) (f:kR) (i:Nat),B=.int .i64 (-(c:Int))/\c<=N/\a.length<=100/\Hid (FT N c a)/\Jn wr w.heap.size 83 (C none 0 0) (E false)/\Jn wr (w.heap.size+1) 83 (C f a.length i) (E true)/\wr.ownsRow (w.heap.size+1+1) 3 1 (C f a.length i) a.length (cellsOf .i64 a)/\I w.heap.size w wr/\w.heap.size+1+1<=wr.heap.size)
  (λB _=>(-(intOf B)).toNat)
 case atStart=>exact⟨N,[],none,0,J,Aa _,DK,⟨DM.nil _,by simp[val],DK,Am J⟩,b,d,World.ownsRow_nil _ _ _ _,P,DK⟩
 case round=>
  clear b d P;obtain⟨c,a,f,i,rfl,aj,ak,K,b,d,m,s,am⟩:=hrel;have c0:=d.c0;have c1:=d.c1;have f0:=d.f0;have ht:=Vl c;have hd:=Vm c;by_cases o:c=0
  . subst o;have e:=L.out a K.out;have r0:=b.c0;have r1:=b.c1;have g0:=b.f0;have g1:=b.f1;clear L M ht hd;go_wp2;subst e;obtain⟨hr,ad⟩:=YU (C f (Jc 10000 N).length i) (E true) s (Aa _) b J J (Row.of_owns m O);exact BA (v:=.agg #[C f (Jc 10000 N).length i,E true]) (by simp[results,results79,go_sem,r0,r1]) J ⟨_,J,⟨f,_,i,by rw[show decide (-(N:Int)<0)=true from decide_eq_true O],by rw[Fw];exact hr⟩,ad⟩
  . have ai:((-(c:Int)) != 0)=true:=by rw[B7];omega
    have n:=GI (M.out c a K.out o);by_cases R:c%10000=0
    . have X:(c:Int)%10000=0:=O
      have HM:=GI R;clear R;go_wp2_with(first
       |(at_builtin;refine BW _ J _ _ 81 J (w.heap.size+1+1) 3 V (.int .i64 0) 1 8 underlying81 Q S T U J DN (C f a.length i) a.length (cellsOf .i64 a) J (m.alloc _) ⟨wr.heap.size,0,none⟩ 1 1 [_] J J (Bo _ _ _) (by simp[Value.oneCell']) (by unfold maxLen;omega) O si ?_;intro v' w3 z x ae;obtain⟨g,q,r,l,j,t,A,y⟩:=NY (c%10000) O O O s d m z x;have d0:=j.c0;have d1:=j.f0;subst r))
      have p:(a++[c%10000]).length<=100:=n.out.2.2.1;have k:(a++[c%10000]).length=a.length+1:=DK
      go_roundw
      case rel=>exact⟨c/10000,a++[c%10000],some ⟨g,0,none⟩,q,DK,O,p,n,(y _ _ _ _ O b).far DK _,by rw[k];exact j.set0 _,by rw[k]at l ⊢;exact l,t.setCell DK _,by simpa[World.setCell]using A⟩
      case measure=>simp[intOf];omega
    . have X:0<(c:Int)%10000:=O
      go_wp2_with(first
       |(at_builtin;refine BW _ J _ _ 81 J (w.heap.size+1+1) 3 V (.int .i64 0) 1 8 underlying81 Q S T U J DN (C f a.length i) a.length (cellsOf .i64 a) J (m.alloc _) ⟨wr.heap.size,0,none⟩ 1 1 [_] J J (Bo _ _ _) (by simp[Value.oneCell']) (by unfold maxLen;omega) O si ?_;intro v' w3 z x ae;obtain⟨g,q,r,l,j,t,A,y⟩:=NY (c%10000) O O O s d m z x;have d0:=j.c0;have d1:=j.f0;subst r))
      have p:(a++[c%10000]).length<=100:=n.out.2.2.1;have k:(a++[c%10000]).length=a.length+1:=DK
      go_roundw
      case rel=>exact⟨c/10000,a++[c%10000],some ⟨g,0,none⟩,q,DK,O,p,n,(y _ _ _ _ O b).far DK _,by rw[k];exact j.set0 _,by rw[k]at l ⊢;exact l,t.setCell DK _,by simpa[World.setCell]using A⟩
      case measure=>simp[intOf];omega
def Gq(n:Int)(b:-9223372036854775808<=n)(c:n<=9223372036854775807)(w:F):
 Calls H 79 #[.int .i64 n] w λe a=>∃u,e=.returned u/\Ju a u n/\I w.heap.size w a:=by
 by_cases h:n<0
 . have e:n=-(n.natAbs:Int):=O
   rw[e];exact Vn n.natAbs O O w
 . have e:n=(n.natAbs:Int):=O
   rw[e];exact Vk n.natAbs O w
