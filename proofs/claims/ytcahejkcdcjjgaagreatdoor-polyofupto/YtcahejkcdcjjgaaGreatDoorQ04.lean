import Derived.Test.YtcahejkcdcjjgaaGreatDoorQ03
import Derived.Deep.RegionHeld3
set_option linter.all false
open Go.Value renaming slice->C,bool->E
open Go.Obj renaming cells->D
open Go renaming World->F,Value->G
open Go.Proofs.Tryz renaming prog->H
open Go.RowKit renaming Below->I
set_option maxRecDepth 99999
set_option maxHeartbeats 0
namespace Go.Proofs.YtcahejkcdcjjgaaGreatDoor
open Proofs.Tryz
open Go.RowKit Go.Shelf
def Jf(W:F)(B:Nat)(t:TypeId)(x y:G):Prop:=W.heap[B]?=some (D #[x,y] t (0,0))
variable{k:IntKind}{f:Ja}{B c i n:Nat}{t:TypeId}{r v x y:G}{W W' j w:F}
def Jf.lt(h:Jf W B t x y):B<W.heap.size:=(Ab.1 h).1
def Jf.c0(h:Jf W B t x y):W.cell? ⟨B,0,none⟩=some x:=by simp[World.cell?,show W.heap[B]?=_ from h]
def Jf.c1(h:Jf W B t x y):W.cell? ⟨B,1,none⟩=some y:=by simp[World.cell?,show W.heap[B]?=_ from h]
def Jf.cp(h:Jf W B t x y):type_of% (And.intro h.c0 h.c1):=⟨h.c0,h.c1⟩
def Jf.f0(h:Jf W B t x y):W.frozen? ⟨B,0,none⟩=false:=by simp[World.frozen?,show W.heap[B]?=_ from h]
def Jf.f1(h:Jf W B t x y):W.frozen? ⟨B,1,none⟩=false:=by simp[World.frozen?,show W.heap[B]?=_ from h]
def Jf.fp(h:Jf W B t x y):type_of% (And.intro h.f0 h.f1):=⟨h.f0,h.f1⟩
def Jf.new(W:F)(t:TypeId)(x y:G):Jf (W.alloc (D #[x,y] t)) W.heap.size t x y:=BD W _
def Jf.below(h:Jf W B t x y)(a:I W.heap.size W W'):Jf W' B t x y:=(a.block B h.lt).trans h
def Jf.alloc{W:F}{B:Nat}{t:TypeId}{x y:G}(h:Jf W B t x y)(o:Obj):Jf (W.alloc o) B t x y:=h.below ((BB _ W).alloc (Aa _) o)
def Jf.drew{W:F}{B:Nat}{t:TypeId}{x y:G}(h:Jf W B t x y):Jf W.drew B t x y:=h
def Jf.set0(h:Jf W B t x y)(u:G):Jf (W.setCell ⟨B,0,none⟩ u) B t u y:=by
 obtain⟨b,a⟩:=Ab.1 h;show(W.heap.modify B _)[B]?=_;rw[Cu (by rw[Array.size_modify];exact b),Array.getElem_modify_self,a];rfl
def Jf.set1(h:Jf W B t x y)(u:G):Jf (W.setCell ⟨B,1,none⟩ u) B t x u:=by
 obtain⟨b,a⟩:=Ab.1 h;show(W.heap.modify B _)[B]?=_;rw[Cu (by rw[Array.size_modify];exact b),Array.getElem_modify_self,a];rfl
def Jf.far(h:Jf W B t x y){p:Addr}(hp:B≠p.block)(u:G):Jf (W.setCell p u) B t x y:=(BF W p u B hp).trans h
def Below.then{w W a:F}(h:I w.heap.size w W)(k:I W.heap.size W a):I w.heap.size w a:=h.trans (k.mono h.size)
def Bt:=@Below.then
theorem JC{b o a:Nat}{u:G}(h:b≠i):(w.setCell ⟨i,a,none⟩ u).cell? ⟨b,o,none⟩=w.cell? ⟨b,o,none⟩:=
 World.cell?_of_block (w:=w) (BF w ⟨i,a,none⟩ u b h)
def Jy:G->Bool|.int _ _=>false|_=>true
theorem Row.set{k:IntKind}{W:F}{v:G}{ds:Ja}(h:Row k W v ds){p:Addr}{u0:G}(hp:W.cell? p=some u0)(q:Jy u0=true)(u:G):Row k (W.setCell p u) v ds:=by
 obtain⟨a,cap,e,f,g,i,c⟩:=h;refine⟨a,cap,e,f,g,i,?_⟩;rcases c with c|⟨b,m,d,l,n⟩
 . exact Al c
 . refine Au ⟨b,m,d,l.set p u,λj o=>?_⟩;grind[Jy,World.cell?_setCell_other]
def JP{R:Nat}{u0 u1:G}(x0 x1:G){ds:Ja}(b:I w.heap.size w j)(a:w.heap.size<=R)(q:Jf j R t u0 u1)(d:Jy u0=true)(e:Jy u1=true)(c:Row k j v ds):
 Row k ((j.setCell ⟨R,0,none⟩ x0).setCell ⟨R,1,none⟩ x1) v ds/\I w.heap.size w ((j.setCell ⟨R,0,none⟩ x0).setCell ⟨R,1,none⟩ x1):=
 ⟨Row.set (Row.set c q.c0 d _) (u0:=u1) (q.set0 x0).c1 e _,(b.setCell a _).setCell a _⟩
def RN.below{W W':F}{v:G}{n:Nat}(h:RN W v n)(a:I W.heap.size W W'):RN W' v n:=Row.below h a
def RN.form(h:RN W v n):∃a cap,v=C a (Jb 10000 n).length cap:=by
 obtain⟨a,cap,e,_⟩:=h;exact⟨a,cap,e⟩
def F9{a b c:TypeId}{x1 d f e g:G}(h:((w.alloc (D #[x1,r] a)).alloc (D #[d,f] b)).alloc (D #[e,g] c)=W):I w.heap.size w W/\Jf W w.heap.size a x1 r/\Jf W (w.heap.size+1) b d f/\Jf W (w.heap.size+1+1) c e g:=by
 subst h;have i:=(Jf.new (w.alloc (D #[x1,r] a)) b d f).alloc (D #[e,g] c);have j:=Jf.new ((w.alloc (D #[x1,r] a)).alloc (D #[d,f] b)) c e g;rw[A1]at i;rw[A1,A1]at j;exact⟨(((BB _ w).alloc (Aa _) _).alloc sp _).alloc si _,((Jf.new w _ _ _).alloc _).alloc _,i,j⟩
def KZ(a b:G)(m n:Nat)(w:F)(c:RN w a m)(d:RN w b n):
 Calls H 143 #[a,b] w λe f=>e=.returned (.int .i64 (Ym m n))/\I w.heap.size w f:=by
 have h:=Hj 10000 O a b _ _ w c d (Jh O m) (Jh O n) (JT O m) (JT O n);rw[Ji O,Ji O]at h;exact h
def Xv(w:F)(a b c:Obj):I w.heap.size w (((w.alloc a).alloc b).alloc c):=
 (((BB _ w).alloc (Aa _) _).alloc sp _).alloc si _
def Ka{m:Nat}(h:n<=m):0<=Ym m n:=by
 rcases Az n m with g|g
 . rw[E2 g];omega
 . have:m=n:=O
   rw[this,Gy];omega
def Nq(a b:TR)(k lb i j m n:Nat)(s:Bool)(w:F)(N:RN w (C a k i) m)(P:RN w (C b lb j) n)(y:(Jb 10000 m).length<=400000000000)(z:(Jb 10000 n).length<=400000000000):
 Calls H 108 #[.agg #[C a k i,E s],.agg #[C b lb j,E s]] w λe l=>∃c r t,e=.returned (.agg #[C c r t,E (s&&decide (0<r))])/\RN l (C c r t) (m+n)/\I w.heap.size w l:=by
 have Q:¬(w.heap.size=w.heap.size+1+1):=O
 go_enter func108,ntmps108
 go_wp2_with fail
 have f:=Xv w (D #[C a k i,E s] 47) (D #[C b lb j,E s] 47) (D #[C none 0 0,E false] 47);have b0:=((Jf.new w 47 (C a k i) (E s)).alloc (D #[C b lb j,E s] 47)).alloc (D #[C none 0 0,E false] 47);have g:=(Jf.new (w.alloc (D #[C a k i,E s] 47)) 47 (C b lb j) (E s)).alloc (D #[C none 0 0,E false] 47);have d:=Jf.new ((w.alloc (D #[C a k i,E s] 47)).alloc (D #[C b lb j,E s] 47)) 47 (C none 0 0) (E false);simp only[A1]at g d;go_region_held3 (λl=>l.cell? ⟨w.heap.size,0,none⟩=some (C a k i)/\l.cell? ⟨w.heap.size+1,0,none⟩=some (C b lb j)/\l.cell? ⟨w.heap.size,1,none⟩=some (E s)) (refine⟨?_,?_,?_⟩<;>(first|(go_keep;done)|((repeat rw[JC O]);simp[*];done)))
  (first
   |(go_at_call 142;refine(Nk _ _ m n _ ?_ ?_ y z).mono ?_;exact N.below f.drew;exact P.below f.drew;rintro e R ⟨u,rfl,q,p⟩;obtain⟨v,c',rfl⟩:=q.form;have b0:=b0.drew.below p;have g:=g.drew.below p;have d:=d.drew.below p;have f:=Below.then f.drew p;have B:=b0.c0;have K:=b0.c1;have L:=g.c0)
   |(go_at_call 141;refine(Ef _ _ _ _ _).mono ?_;rintro e S ⟨rfl,o⟩;have q:=Row.below q o;have b0:=b0.below o;have g:=g.below o;have d:=d.below o;have f:=Below.then f o;have B:=b0.c0;have K:=b0.c1;have L:=g.c0;have r0:=d.c0;have M:=d.c1;have f0:=d.f0;have f1:=d.f1))
 all_goals go_wp2_with fail
 obtain⟨A,x⟩:=JP (C v (Jb 10000 (m+n)).length c') (E (s&&decide (0<(Jb 10000 (m+n)).length))) f O d J J q;exact BA (by simp[results,results108,go_sem,r0,M]) J ⟨_,_,_,J,A,x⟩
def Nr(a b:TR)(k lb i j m n:Nat)(s:Bool)(w:F)(B:RN w (C a k i) m)(K:RN w (C b lb j) n)(P:(Jb 10000 m).length<=400000000000)(t:n<=m):
 Calls H 108 #[.agg #[C a k i,E s],.agg #[C b lb j,E (!s)]] w λe l=>∃c v x,e=.returned (.agg #[C c v x,E (s&&decide (0<v))])/\RN l (C c v x) (m-n)/\I w.heap.size w l:=by
 have T:¬(w.heap.size=w.heap.size+1+1):=O
 have hs:(s == !s)=false:=by cases s<;>rfl
 have S:=Ka t;have L:Hid (n<=m):=t;clear t;have f:=Xv w (D #[C a k i,E s] 47) (D #[C b lb j,E (!s)] 47) (D #[C none 0 0,E false] 47);have b0:=((Jf.new w 47 (C a k i) (E s)).alloc (D #[C b lb j,E (!s)] 47)).alloc (D #[C none 0 0,E false] 47);have g:=(Jf.new (w.alloc (D #[C a k i,E s] 47)) 47 (C b lb j) (E (!s))).alloc (D #[C none 0 0,E false] 47);have d:=Jf.new ((w.alloc (D #[C a k i,E s] 47)).alloc (D #[C b lb j,E (!s)] 47)) 47 (C none 0 0) (E false);simp only[A1]at g d;go_enter func108,ntmps108
 go_wp2_with(first
  |(go_at_call 143;refine(KZ _ _ m n _ ?_ ?_).mono ?_;exact B.below f;exact K.below f;rintro e w0 ⟨rfl,p⟩;have b0:=b0.below p;have g:=g.below p;have d:=d.below p;have f:=Below.then f p;have y:=b0.c0;have z:=b0.c1;have A:=g.c0))
 go_region_held3 (λl=>l.cell? ⟨w.heap.size,0,none⟩=some (C a k i)/\l.cell? ⟨w.heap.size+1,0,none⟩=some (C b lb j)/\l.cell? ⟨w.heap.size,1,none⟩=some (E s)) (refine⟨?_,?_,?_⟩<;>(first|(go_keep;done)|((repeat rw[JC O]);simp[*];done)))
  (first
   |(go_at_call 144;refine(F7 _ _ m n _ ?_ ?_ (Cr (Nat.lt_succ_of_le L.out)) P).mono ?_;exact B.below f.drew;exact K.below f.drew;rintro e U ⟨u,rfl,r,q⟩;obtain⟨M,c',rfl⟩:=r.form;have b0:=b0.drew.below q;have g:=g.drew.below q;have d:=d.drew.below q;have f:=Below.then f.drew q;have y:=b0.c0;have z:=b0.c1;have A:=g.c0)
   |(go_at_call 141;refine(Ef _ _ _ _ _).mono ?_;rintro e V ⟨rfl,o⟩;have r:=Row.below r o;have b0:=b0.below o;have g:=g.below o;have d:=d.below o;have f:=Below.then f o;have y:=b0.c0;have z:=b0.c1;have A:=g.c0;have r0:=d.c0;have R:=d.c1;have f0:=d.f0;have f1:=d.f1))
 all_goals go_wp2_with fail
 obtain⟨Q,N⟩:=JP (C M (Jb 10000 (m-n)).length c') (E (s&&decide (0<(Jb 10000 (m-n)).length))) f O d J J r;exact BA (by simp[results,results108,go_sem,r0,R]) J ⟨_,_,_,J,Q,N⟩
def Ns(a b:TR)(k lb i j m n:Nat)(s:Bool)(w:F)(B:RN w (C a k i) m)(K:RN w (C b lb j) n)(P:(Jb 10000 n).length<=400000000000)(t:m<n):
 Calls H 108 #[.agg #[C a k i,E s],.agg #[C b lb j,E (!s)]] w λe l=>∃c v x,e=.returned (.agg #[C c v x,E ((!s)&&decide (0<v))])/\RN l (C c v x) (n-m)/\I w.heap.size w l:=by
 have T:¬(w.heap.size=w.heap.size+1+1):=O
 have hs:(s == !s)=false:=by cases s<;>rfl
 have S:Ym m n<0:=by rw[Xe t];omega
 have L:Hid (m<n):=t;clear t;have g:=Xv w (D #[C a k i,E s] 47) (D #[C b lb j,E (!s)] 47) (D #[C none 0 0,E false] 47);have b0:=((Jf.new w 47 (C a k i) (E s)).alloc (D #[C b lb j,E (!s)] 47)).alloc (D #[C none 0 0,E false] 47);have d:=(Jf.new (w.alloc (D #[C a k i,E s] 47)) 47 (C b lb j) (E (!s))).alloc (D #[C none 0 0,E false] 47);have f:=Jf.new ((w.alloc (D #[C a k i,E s] 47)).alloc (D #[C b lb j,E (!s)] 47)) 47 (C none 0 0) (E false);simp only[A1]at d f;go_enter func108,ntmps108
 go_wp2_with(first
  |(go_at_call 143;refine(KZ _ _ m n _ ?_ ?_).mono ?_;exact B.below g;exact K.below g;rintro e w0 ⟨rfl,p⟩;have b0:=b0.below p;have d:=d.below p;have f:=f.below p;have g:=Below.then g p;have y:=b0.c0;have z:=d.c1;have A:=d.c0))
 go_region_held3 (λl=>l.cell? ⟨w.heap.size,0,none⟩=some (C a k i)/\l.cell? ⟨w.heap.size+1,0,none⟩=some (C b lb j)/\l.cell? ⟨w.heap.size+1,1,none⟩=some (E (!s))) (refine⟨?_,?_,?_⟩<;>(first|(go_keep;done)|((repeat rw[JC O]);simp[*];done)))
  (first
   |(go_at_call 144;refine(F7 _ _ n m _ ?_ ?_ (Cr (Nat.lt_succ_of_le (Nat.le_of_lt L.out))) P).mono ?_;exact K.below g.drew;exact B.below g.drew;rintro e U ⟨u,rfl,r,q⟩;obtain⟨M,c',rfl⟩:=r.form;have b0:=b0.drew.below q;have d:=d.drew.below q;have f:=f.drew.below q;have g:=Below.then g.drew q;have y:=b0.c0;have z:=d.c1;have A:=d.c0)
   |(go_at_call 141;refine(Ef _ _ _ _ _).mono ?_;rintro e V ⟨rfl,o⟩;have r:=Row.below r o;have b0:=b0.below o;have d:=d.below o;have f:=f.below o;have g:=Below.then g o;have y:=b0.c0;have z:=d.c1;have A:=d.c0;have r0:=f.c0;have R:=f.c1;have f0:=f.f0;have f1:=f.f1))
 all_goals go_wp2_with fail
 obtain⟨Q,N⟩:=JP (C M (Jb 10000 (n-m)).length c') (E ((!s)&&decide (0<(Jb 10000 (n-m)).length))) g O f J J r;exact BA (by simp[results,results108,go_sem,r0,R]) J ⟨_,_,_,J,Q,N⟩
def RN.len{a:TR}{l:Nat}(h:RN W (C a l c) n):l=(Jb 10000 n).length:=by
 obtain⟨b,cap,e,_⟩:=h;cases e;rfl
def GA{d:G}{p q:Bool}(h:p=q):Value.agg #[d,E p]=.agg #[d,E q]:=by rw[h]
def Jn(W:F)(v:G)(z:Int):Prop:=∃a l cap,v=.agg #[C a l cap,E (decide (z<0))]/\RN W (C a l cap) z.natAbs
def Jn.below{W W':F}{v:G}{z:Int}(h:Jn W v z)(b:I W.heap.size W W'):Jn W' v z:=by
 obtain⟨a,l,cap,e,c⟩:=h;exact⟨a,l,cap,e,c.below b⟩
def De(z:Int):Nat:=(Jb 10000 z.natAbs).length
def Xl:0<(Jb 10000 n).length↔n≠0:=by
 rw[Cg,Ne,Jt O]
def Kb(s t:G)(x y:Int)(w:F)(z:Jn w s x)(A:Jn w t y)(n:De x<=400000000000)(o:De y<=400000000000):
 Calls H 108 #[s,t] w λe k=>∃u,e=.returned u/\Jn k u (x+y)/\I w.heap.size w k:=by
 obtain⟨a,p,l,rfl,q⟩:=z;obtain⟨b,lb,m,rfl,r⟩:=A;unfold De at n o;by_cases hs:decide (x<0)=decide (y<0)
 . rw[<-hs];refine(Nq a b p lb l m _ _ _ w q r n o).mono ?_;rintro e k ⟨c,j,f,rfl,d,i⟩;have hl:=d.len;have g:x.natAbs+y.natAbs=(x+y).natAbs:=by
    have:(x<0↔y<0):=by simpa using hs
    omega
   rw[g]at d hl;refine⟨_,J,⟨c,j,f,?_,d⟩,i⟩;refine GA ?_;rw[Ce];simp only[A4,Bd];rw[hl,Xl]
   have:(x<0↔y<0):=by simpa using hs
   omega
 . have v:decide (y<0)=!decide (x<0):=by
    cases K:decide (x<0)<;>cases L:decide (y<0)<;>simp_all
   have M:¬(x<0↔y<0):=by simpa using hs
   rw[v];by_cases B:y.natAbs<=x.natAbs
   . refine(Nr a b p lb l m _ _ _ w q r n B).mono ?_;rintro e k ⟨c,j,f,rfl,d,i⟩;have hl:=d.len;have g:x.natAbs-y.natAbs=(x+y).natAbs:=O
     rw[g]at d hl;refine⟨_,J,⟨c,j,f,?_,d⟩,i⟩;refine GA ?_;rw[Ce];simp only[A4,Bd];rw[hl,Xl];omega
   . refine(Ns a b p lb l m _ _ _ w q r o O).mono ?_;rintro e k ⟨c,j,f,rfl,d,i⟩;have hl:=d.len;have g:y.natAbs-x.natAbs=(x+y).natAbs:=O
     rw[g]at d hl;refine⟨_,J,⟨c,j,f,?_,d⟩,i⟩;refine GA ?_;rw[Ce];simp only[A4,Bd,Cl,Bi];rw[hl,Xl];omega
def E9(w:F)(a b:Obj):I w.heap.size w ((w.alloc a).alloc b):=
 ((BB _ w).alloc (Aa _) _).alloc sp _
def Nt(a:TR)(b d m:Nat)(s:Bool)(w:F)(n:RN w (C a b d) m):
 Calls H 126 #[.agg #[C a b d,E s]] w λe i=>e=.returned (.agg #[C a b d,E (!s&&decide (0<b))])/\RN i (C a b d) m/\I w.heap.size w i:=by
 have f:=E9 w (D #[C a b d,E s] 47) (D #[C none 0 0,E false] 47);have c:=Jf.new (w.alloc (D #[C a b d,E s] 47)) 47 (C none 0 0) (E false);simp only[A1]at c;go_enter func126,ntmps126
 go_wp2_with(first
  |(go_at_call 141;refine(Ef _ _ _ _ _).mono ?_;rintro e o ⟨rfl,g⟩;have c:=c.below g;have f:=Below.then f g;have r0:=c.c0;have l:=c.c1;have f0:=c.f0;have f1:=c.f1))
 obtain⟨k,j⟩:=JP (C a b d) (E (!s&&decide (0<b))) f O c J J (n.below f);exact BA (by simp[results,results126,go_sem,r0,l]) J ⟨J,k,j⟩
def Kc(g:G)(x:Int)(w:F)(j:Jn w g x):
 Calls H 126 #[g] w λe c=>∃u,e=.returned u/\Jn c u (-x)/\I w.heap.size w c:=by
 obtain⟨a,f,d,rfl,k⟩:=j;refine(Nt a f d _ _ w k).mono ?_;rintro e c ⟨rfl,b,i⟩;have hl:=b.len;rw[show x.natAbs=(-x).natAbs from by omega]at b hl;refine⟨_,J,⟨a,f,d,?_,b⟩,i⟩;refine GA ?_;rw[Ce];simp only[A4,Bd,Cl,Bi];rw[hl,Xl];omega
theorem GB(c:UInt8)(l:List UInt8):(⟨#[c]⟩:ByteArray)++⟨l.toArray⟩=⟨(c::l).toArray⟩:=by
 apply CT;simp[ByteArray.data_append]
def Kd(c:UInt8)(s:ByteArray):((⟨#[c]⟩:ByteArray)++s).size=1+s.size:=by
 rw[ByteArray.size_append];rfl
def Ke(w:F)(n:Nat):(convert 87 9 (C (some ⟨w.heap.size,0,none⟩) 1 1)).run H (w.alloc (D #[.int .u8 (48+(n:Int)%10)] 5))=.ok (.string ⟨#[Do (n%10)]⟩) (w.alloc (D #[.int .u8 (48+(n:Int)%10)] 5)):=by
 have h:=run_convert_bytes_back (P:=H) (w.alloc (D #[.int .u8 (48+(n:Int)%10)] 5)) 87 9 5 ⟨w.heap.size,0,none⟩ 1 [Do (n%10)] underlying87 underlying5 underlying9 (by
  intro j b
  have:j=0:=by simp at b;omega
  subst this;have e:(((Do (n%10)).toNat:Nat):Int)=48+(n:Int)%10:=by
   have a:(Do (n%10)).toNat=48+n%10:=by
    unfold Do;rw[UInt8.toNat_ofNat'];omega
   rw[a];omega
  simp only[List.getElem_cons_zero,e];go_simp)
 exact h
def Nu(w:F):(convert 87 9 (C (some ⟨w.heap.size,0,none⟩) 1 1)).run H (w.alloc (D #[.int .u8 48] 5))=.ok (.string ⟨#[Do 0]⟩) (w.alloc (D #[.int .u8 48] 5)):=Ke w 0
def Nv(a:TR)(l o m:Nat)(s:Bool)(w:F)(Q:RN w (C a l o) m)(A:m≠0)(hl:l<=400000000000):
 Calls H 61 #[.agg #[C a l o,E s]] w λe w'=>e=.returned (.string ⟨(if s then 45::Di (Jb 10 m)else Di (Jb 10 m)).toArray⟩)/\I w.heap.size w w':=by
 have U:=Q.len;have an:l≠0:=by rw[U];have:=(Xl (n:=m)).2 A;omega
 obtain⟨a',ah,e0,hle,ai,_,HA⟩:=Row.open Q;have S:=Jh (B:=10000) O m;have T:Hid (∀i k D,YQ (Jb 10000 m) i k 0 D->i+1=(Jb 10000 m).length->D=Jb 10 m):=λi k D h y=>by
  have:=(h.last y).2.2.2;rw[Ji O]at this;exact this A (JT O m)
 have HX:Hid (∀i n D,YQ (Jb 10000 m) i 4 n D->D.length=4*(i+1)/\DE 10 D/\val 10 D=val 10000 ((Jb 10000 m).take (i+1))):=λi n D h=>h.next S;cases e0;clear Q A;generalize Jb 10000 m=ds at *;generalize Jb 10 m=q at *;have aq:((ds.length:Int)==0)=false:=beq_eq_false_iff_ne.2 O;clear U;have c:=Jf.new w 47 (C a ds.length o) (E s);go_enter func61,ntmps61
 go_wp2;go_loopw [3,4] (λR M wr=>∃(i:Nat) (D:Ja) (d:ByteArray),M=.int .i64 i/\R=.string d/\i<=ds.length/\d.size<=4*i/\Hid (d=⟨(Di D).toArray⟩)/\Hid ((i<ds.length/\D.length=4*i/\DE 10 D/\val 10 D=val 10000 (ds.take i))\/(i=ds.length/\D=q))/\Jf wr w.heap.size 47 (C a ds.length o) (E s)/\I w.heap.size w wr)
  (λ_ M _=>ds.length-(intOf M).toNat)
 case atStart=>exact⟨0,[],⟨#[]⟩,J,J,O,by show 0<=_;omega,J,Al ⟨O,J,DE.nil _,by simp[val]⟩,c,(BB _ _).alloc (Aa _) _⟩
 case round=>
  obtain⟨i,D,d,rfl,rfl,hi,K,j,t,c,f⟩:=hrel;have c0:=c.c0;have c1:=c.c1;by_cases ae:i<ds.length
  . obtain⟨b,P,rfl,hb,W⟩:=HA.out i ae;have hq:wr.cell? ⟨b,P+i,none⟩=some (.int .i64 (ds[i]?.getD 0:Nat)):=(f.cell (p:=⟨b,P+i,none⟩) hb).trans W;clear W;have r:YQ ds i 0 (ds[i]?.getD 0) D:=by
     rcases t.out with⟨_,V,y,h3⟩|⟨V,_⟩
     . exact YQ.start V y h3
     . omega
    have g:=Yn r;clear r t;have L:=S.getD O i;generalize ds[i]?.getD 0=x at hq g L;go_wp2;go_loopw [3,5,6] (λR nv N wr=>∃(k n:Nat) (D:Ja) (d:ByteArray),N=.int .i64 k/\nv=.int .i64 n/\R=.string d/\k<=4/\n<10000/\d.size<=4*i+k/\Hid (d=⟨(Di D).toArray⟩)/\Hid (YQ ds i k n D)/\Jf wr w.heap.size 47 (C (some ⟨b,P,none⟩) ds.length o) (E s)/\I w.heap.size w wr)
     (λ_ _ N _=>4-(intOf N).toNat)
    case atStart=>exact⟨0,x,D,d,J,J,J,O,L,O,j,g,c,f⟩
    case round=>
     clear c c0 c1 f j g hq K L;obtain⟨k,n,D,d,rfl,rfl,rfl,ak,ay,K,j,g,c,f⟩:=hrel;have c0:=c.c0;have c1:=c.c1;by_cases X:k<4
     . have am:(k:Int)<4:=O
       by_cases ad:0<n
       . have Qd:=Ke wr n;have aj:(0:Int)<n:=O
         go_wp2;refine⟨⟨k+1,n/10,D++[n%10],_,sp,sp,J,O,O,by rw[Kd];omega,?_,g.out.step X (Al ad),c.alloc _,f.alloc f.size _⟩,by simp[intOf];omega⟩;show _=_;rw[j.out,GB,Hb]
       . by_cases z:i+1<ds.length
         . have v:n=0:=O
           subst v;have Qd:=Nu wr;have Qe:(i:Int)+1<ds.length:=O
           go_wp2;refine⟨⟨k+1,0/10,D++[0%10],_,sp,sp,J,O,O,by rw[Kd];omega,?_,g.out.step X (Au z),c.alloc _,f.alloc f.size _⟩,by simp[intOf];omega⟩;show _=_;rw[j.out,GB,Hb]
         . have v:n=0:=O
           subst v;have Qe:decide ((i:Int)+1<ds.length)=false:=BE O;have u:=Yn (T.out i k D g.out O);go_wp2;go_roundw
           case rel=>exact⟨i+1,D,d,sp,J,O,O,j,Au ⟨O,u.out⟩,c,f⟩
           case measure=>simp[intOf];omega
     . have Qc:k=4:=O
       subst Qc;have u:Hid ((i+1<ds.length/\D.length=4*(i+1)/\DE 10 D/\val 10 D=val 10000 (ds.take (i+1)))\/(i+1=ds.length/\D=q)):=by
        by_cases z:i+1<ds.length
        . exact Al ⟨z,HX.out i n D g.out⟩
        . have r:=g.out;have h0:n=0:=by
           have h4:=r.2.2.2.1;rw[h4];exact AV (by have:=S.getD O i;simpa using this)
          subst h0;exact Au ⟨O,T.out i 4 D r O⟩
       go_wp2;go_roundw
       case rel=>exact⟨i+1,D,d,sp,J,O,O,j,u,c,f⟩
       case measure=>simp[intOf];omega
  . have e:d=⟨(Di q).toArray⟩:=by
     rcases t.out with⟨h,_⟩|⟨_,h⟩
     . omega
     . rw[j.out,h]
    subst e;cases s
    . go_wp2;go_ret;exact⟨J,f⟩
    . have hz:(Di q).length<=4*i:=K;go_wp2;go_ret;refine⟨?_,f⟩;show Ending.returned (.string (⟨#[45]⟩++⟨(Di q).toArray⟩))=_;rw[GB]
def GC(v:G)(z:Int)(w:F)(h:Jn w v z)(hl:De z<=400000000000):
 Calls H 61 #[v] w λe g=>e=.returned (.string ⟨(Yo z).toArray⟩)/\I w.heap.size w g:=by
 obtain⟨a,l,cap,rfl,b⟩:=h;by_cases f:z.natAbs=0
 . have i:z=0:=O
   subst i;have c:=b.len;have j:l=0:=by rw[c];simp[Js]
   subst j;clear b c hl;go_enter func61,ntmps61
   go_wp2;go_ret;exact⟨J,(BB _ _).alloc (Aa _) _⟩
 . refine(Nv a l cap _ _ w b f (by rw[b.len];exact hl)).mono ?_;rintro e g ⟨rfl,k⟩;refine⟨?_,k⟩;unfold Yo;rw[F0 f];by_cases d:z<0
   . simp[d]
   . simp[d]
def Jf.kept{row:Option Nat}(h:Jf W B t x y)(hg:W.grownBy W' row)(a:some B≠row):Jf W' B t x y:=(hg.block B h.lt a).trans h
def D3(b c:Nat)(a:Ja):Prop:=DE 10000 a/\val 10000 a+10000^a.length*c=b/\a.length<=100/\(a=[]\/c≠0\/10000^(a.length-1)<=val 10000 a)
theorem D3.step(h:D3 i c f)(j:i<=9223372036854775808)(k:c≠0):D3 i (c/10000) (f++[c%10000]):=by
 obtain⟨a,b,d,e⟩:=h;refine⟨a.append (DE.cons (AK _ O) (DE.nil _)),?_,?_,?_⟩
 . grind[J0,A9,Cf,Nat.mod_add_div]
 . grind
 . right
   by_cases g:c/10000=0
   . right
     rw[AE,List.length_singleton,Nat.add_sub_cancel,J0]
     have:c%10000≠0:=O
     have:=Ar (10000^f.length) (show 1<=c%10000 by omega);omega
   . exact Al g
theorem D3.done(h:D3 i 0 f):f=Jb 10000 i:=by
 obtain⟨a,b,c,d⟩:=h;rw[A8,AX]at b;rw[<-b];refine(Yy O a (Ha O a ?_)).symm;grind
theorem Y8{wr:F}{e:TypeId}{o:Obj}{D:Int}(d:Nat)(N:D=(d:Nat))(U:w.heap.size<=B)(s:B<i)(p:I w.heap.size w wr)(M:Jf wr B t v y)(P:wr.ownsRow i e 1 v f.length (cellsOf k f))
(A:j.ownsRow i e 1 r (f.length+1) (cellsOf k f++[.int k D]))(u:(wr.alloc o).grownBy j v.ownBlock):
 ∃g n,r=C (some ⟨g,0,none⟩) (f++[d]).length n/\(j.setCell ⟨B,0,none⟩ r).ownsRow i e 1 r (f++[d]).length (cellsOf k (f++[d]))/\Jf j B t v y/\I w.heap.size w j/\i<=j.heap.size/\(∀a c l m,a<i->Jf wr a c l m->Jf j a c l m):=by
 obtain⟨g,n,L⟩:=ownsRow_succ A;subst N;have X:∀q,v.ownBlock=some q->i<=q/\q<wr.heap.size:=λq K=>P.lt q K;have x:∀a c l m,a<i->Jf wr a c l m->Jf j a c l m:=λa c l m h b=>(b.alloc o).kept u (λS=>by grind);have z:j.ownsRow i e 1 r (f++[d]).length (cellsOf k (f++[d])):=by rw[Hi];simpa using A
 refine⟨g,n,by rw[L];simp,ownsRow_setCell_below z s r,x _ _ _ _ s M,?_,?_,x⟩
 . exact(p.alloc p.size _).grown u (by simp;have:=p.size;omega) (λq K=>by grind)
 . rcases z.2 with⟨h,_⟩|⟨T,Q,R,_,W,V,_⟩
   . rw[L]at h;cases h
   grind
def Nw(b:Nat)(hN:b<=9223372036854775807)(w:F):
 Calls H 93 #[.int .i64 b] w λe z=>∃u,e=.returned u/\Jn z u b/\I w.heap.size w z:=by
 obtain⟨X,P,U,V,W⟩:=Bg Tryz.infoInt;have d:=(Jf.new w 47 (C none 0 0) (E false)).alloc (D #[C none 0 0,E false] 47);have f:=Jf.new (w.alloc (D #[C none 0 0,E false] 47)) 47 (C none 0 0) (E false);simp only[A1]at f;have s:=E9 w (D #[C none 0 0,E false] 47) (D #[C none 0 0,E false] 47);have p:Hid (∀a,D3 b 0 a->a=Jb 10000 b):=λa h=>h.done;have r:Hid (∀c a,D3 b c a->c≠0->D3 b (c/10000) (a++[c%10000])):=λc a h k=>h.step O k;go_enter func93,ntmps93
 go_wp2;go_loopw [0] (λn wr=>∃(c:Nat) (a:Ja) (i:TR) (j:Nat),n=.int .i64 c/\c<=b/\a.length<=100/\Hid (D3 b c a)/\Jf wr w.heap.size 47 (C none 0 0) (E false)/\Jf wr (w.heap.size+1) 47 (C i a.length j) (E false)/\wr.ownsRow (w.heap.size+1+1) 3 1 (C i a.length j) a.length (cellsOf .i64 a)/\I w.heap.size w wr/\w.heap.size+1+1<=wr.heap.size)
  (λn _=>(intOf n).toNat)
 case atStart=>exact⟨b,[],none,0,J,Aa _,sp,⟨DE.nil _,by simp[val],sp,Al J⟩,d,f,Bj _ _ _ _,s,sp⟩
 case round=>
  clear d f s;obtain⟨c,a,i,j,rfl,ae,ah,o,d,f,m,x,aj⟩:=hrel;have c0:=f.c0;have c1:=f.c1;have f0:=f.f0;by_cases k:c=0
  . subst k;have e:=p.out a o.out;have r0:=d.c0;have r1:=d.c1;have g0:=d.f0;have g1:=d.f1;clear p r;go_wp2;subst e;obtain⟨S,L⟩:=JP (C i (Jb 10000 b).length j) (E false) x (Aa _) d J J (Row.of_owns m O);exact BA (v:=.agg #[C i (Jb 10000 b).length j,E false]) (by simp[results,results93,go_sem,r0,r1]) J ⟨_,J,⟨i,_,j,by rw[show decide ((b:Int)<0)=false from BE O],S⟩,L⟩
  . have ad:((c:Int) != 0)=true:=by rw[Bu];omega
    have q:=Yn (r.out c a o.out k);go_wp2_with(first
     |(at_builtin;refine BN _ J _ _ 45 J (w.heap.size+1+1) 3 X (.int .i64 0) 1 8 underlying45 P U V W J DI (C i a.length j) a.length (cellsOf .i64 a) J (m.alloc _) ⟨wr.heap.size,0,none⟩ 1 1 [_] J J (Be _ _ _) (by simp[Value.oneCell']) (by unfold maxLen;omega) O si ?_;intro v' w3 R N ai;obtain⟨g,B,K,y,l,M,T,Q⟩:=Y8 (c%10000) O O O x f m R N;have d0:=l.c0;have d1:=l.f0;subst K))
    have A:(a++[c%10000]).length<=100:=q.out.2.2.1;have t:(a++[c%10000]).length=a.length+1:=sp
    go_roundw
    case rel=>exact⟨c/10000,a++[c%10000],some ⟨g,0,none⟩,B,sp,O,A,q,(Q _ _ _ _ O d).far sp _,by rw[t];exact l.set0 _,by rw[t]at y ⊢;exact y,M.setCell sp _,by simpa[World.setCell]using T⟩
    case measure=>simp[intOf];omega
def Nx(c:Nat):(-(c:Int)).tmod 10000=-((c%10000:Nat):Int):=by
 rw[Int.neg_tmod,Int.tmod_eq_emod_of_nonneg O];rfl
def Ny(c:Nat):(-(c:Int)).tdiv 10000=-((c/10000:Nat):Int):=by
 rw[Int.neg_tdiv,Int.tdiv_eq_ediv_of_nonneg O];rfl
def Nz(b:Nat)(h0:1<=b)(hN:b<=9223372036854775808)(w:F):
 Calls H 93 #[.int .i64 (-(b:Int))] w λe W=>∃u,e=.returned u/\Jn W u (-(b:Int))/\I w.heap.size w W:=by
 have ah:0<b:=h0;obtain⟨V,Q,S,T,U⟩:=Bg Tryz.infoInt;have d:=(Jf.new w 47 (C none 0 0) (E false)).alloc (D #[C none 0 0,E true] 47);have f:=Jf.new (w.alloc (D #[C none 0 0,E false] 47)) 47 (C none 0 0) (E true);simp only[A1]at f;have P:=E9 w (D #[C none 0 0,E false] 47) (D #[C none 0 0,E true] 47);have M:Hid (∀a,D3 b 0 a->a=Jb 10000 b):=λa h=>h.done;have N:Hid (∀c a,D3 b c a->c≠0->D3 b (c/10000) (a++[c%10000])):=λc a h p=>h.step O p;go_enter func93,ntmps93
 go_wp2;go_loopw [0] (λK wr=>∃(c:Nat) (a:Ja) (i:TR) (j:Nat),K=.int .i64 (-(c:Int))/\c<=b/\a.length<=100/\Hid (D3 b c a)/\Jf wr w.heap.size 47 (C none 0 0) (E false)/\Jf wr (w.heap.size+1) 47 (C i a.length j) (E true)/\wr.ownsRow (w.heap.size+1+1) 3 1 (C i a.length j) a.length (cellsOf .i64 a)/\I w.heap.size w wr/\w.heap.size+1+1<=wr.heap.size)
  (λK _=>(-(intOf K)).toNat)
 case atStart=>exact⟨b,[],none,0,J,Aa _,sp,⟨DE.nil _,by simp[val],sp,Al J⟩,d,f,Bj _ _ _ _,P,sp⟩
 case round=>
  clear d f P;obtain⟨c,a,i,j,rfl,aj,ak,L,d,f,n,t,am⟩:=hrel;have c0:=f.c0;have c1:=f.c1;have f0:=f.f0;have ht:=Nx c;have hd:=Ny c;by_cases p:c=0
  . subst p;have e:=M.out a L.out;have r0:=d.c0;have r1:=d.c1;have g0:=d.f0;have g1:=d.f1;clear M N ht hd;go_wp2;subst e;obtain⟨hr,ad⟩:=JP (C i (Jb 10000 b).length j) (E true) t (Aa _) d J J (Row.of_owns n O);exact BA (v:=.agg #[C i (Jb 10000 b).length j,E true]) (by simp[results,results93,go_sem,r0,r1]) J ⟨_,J,⟨i,_,j,by rw[show decide (-(b:Int)<0)=true from decide_eq_true O],by rw[C7];exact hr⟩,ad⟩
  . have ai:((-(c:Int)) != 0)=true:=by rw[Bu];omega
    have o:=Yn (N.out c a L.out p);by_cases R:c%10000=0
    . have X:(c:Int)%10000=0:=O
      have HM:=Yn R;clear R;go_wp2_with(first
       |(at_builtin;refine BN _ J _ _ 45 J (w.heap.size+1+1) 3 V (.int .i64 0) 1 8 underlying45 Q S T U J DI (C i a.length j) a.length (cellsOf .i64 a) J (n.alloc _) ⟨wr.heap.size,0,none⟩ 1 1 [_] J J (Be _ _ _) (by simp[Value.oneCell']) (by unfold maxLen;omega) O si ?_;intro v' w3 A y ae;obtain⟨g,r,s,m,k,x,B,z⟩:=Y8 (c%10000) O O O t f n A y;have d0:=k.c0;have d1:=k.f0;subst s))
      have q:(a++[c%10000]).length<=100:=o.out.2.2.1;have l:(a++[c%10000]).length=a.length+1:=sp
      go_roundw
      case rel=>exact⟨c/10000,a++[c%10000],some ⟨g,0,none⟩,r,sp,O,q,o,(z _ _ _ _ O d).far sp _,by rw[l];exact k.set0 _,by rw[l]at m ⊢;exact m,x.setCell sp _,by simpa[World.setCell]using B⟩
      case measure=>simp[intOf];omega
    . have X:0<(c:Int)%10000:=O
      go_wp2_with(first
       |(at_builtin;refine BN _ J _ _ 45 J (w.heap.size+1+1) 3 V (.int .i64 0) 1 8 underlying45 Q S T U J DI (C i a.length j) a.length (cellsOf .i64 a) J (n.alloc _) ⟨wr.heap.size,0,none⟩ 1 1 [_] J J (Be _ _ _) (by simp[Value.oneCell']) (by unfold maxLen;omega) O si ?_;intro v' w3 A y ae;obtain⟨g,r,s,m,k,x,B,z⟩:=Y8 (c%10000) O O O t f n A y;have d0:=k.c0;have d1:=k.f0;subst s))
      have q:(a++[c%10000]).length<=100:=o.out.2.2.1;have l:(a++[c%10000]).length=a.length+1:=sp
      go_roundw
      case rel=>exact⟨c/10000,a++[c%10000],some ⟨g,0,none⟩,r,sp,O,q,o,(z _ _ _ _ O d).far sp _,by rw[l];exact k.set0 _,by rw[l]at m ⊢;exact m,x.setCell sp _,by simpa[World.setCell]using B⟩
      case measure=>simp[intOf];omega
def FA(n:Int)(b:-9223372036854775808<=n)(c:n<=9223372036854775807)(w:F):
 Calls H 93 #[.int .i64 n] w λe a=>∃u,e=.returned u/\Jn a u n/\I w.heap.size w a:=by
 by_cases h:n<0
 . have e:n=-(n.natAbs:Int):=O
   rw[e];exact Nz n.natAbs O O w
 . have e:n=(n.natAbs:Int):=O
   rw[e];exact Nw n.natAbs O w
