import Derived.Test.YtcahejkcdcjjgaaGreatDoorW03
import Derived.Deep.RegionHeld3
set_option linter.all false
open Go.Value renaming slice->C,bool->E
open Go.Obj renaming cells->D
open Go renaming World->F,Value->G
open Go.Proofs.Tryz renaming prog->H
open Go.RowKit renaming Below->I
set_option maxRecDepth 99999
set_option maxHeartbeats 0
namespace Go.Proofs.YtcahejkcdcjjgaaGreatDoor
open Proofs.Tryz
open Go.RowKit Go.Shelf
def Ji(W:F)(B:Nat)(t:TypeId)(x y:G):Prop:=W.heap[B]?=some (D #[x,y] t (0,0))
variable{k:IntKind}{f:Ja}{B c i n:Nat}{t:TypeId}{r v x y:G}{W W' j w:F}
def Ji.lt(h:Ji W B t x y):B<W.heap.size:=(Ab.1 h).1
def Ji.c0(h:Ji W B t x y):W.cell? ⟨B,0,none⟩=some x:=by simp[World.cell?,show W.heap[B]?=_ from h]
def Ji.c1(h:Ji W B t x y):W.cell? ⟨B,1,none⟩=some y:=by simp[World.cell?,show W.heap[B]?=_ from h]
def Ji.cp(h:Ji W B t x y):type_of% (And.intro h.c0 h.c1):=⟨h.c0,h.c1⟩
def Ji.f0(h:Ji W B t x y):W.frozen? ⟨B,0,none⟩=false:=by simp[World.frozen?,show W.heap[B]?=_ from h]
def Ji.f1(h:Ji W B t x y):W.frozen? ⟨B,1,none⟩=false:=by simp[World.frozen?,show W.heap[B]?=_ from h]
def Ji.fp(h:Ji W B t x y):type_of% (And.intro h.f0 h.f1):=⟨h.f0,h.f1⟩
def Ji.new(W:F)(t:TypeId)(x y:G):Ji (W.alloc (D #[x,y] t)) W.heap.size t x y:=BC W _
def Ji.below(h:Ji W B t x y)(a:I W.heap.size W W'):Ji W' B t x y:=(a.block B h.lt).trans h
def Ji.alloc{W:F}{B:Nat}{t:TypeId}{x y:G}(h:Ji W B t x y)(o:Obj):Ji (W.alloc o) B t x y:=h.below ((BB _ W).alloc (Aa _) o)
def Ji.drew{W:F}{B:Nat}{t:TypeId}{x y:G}(h:Ji W B t x y):Ji W.drew B t x y:=h
def Ji.set0(h:Ji W B t x y)(u:G):Ji (W.setCell ⟨B,0,none⟩ u) B t u y:=by
 obtain⟨b,a⟩:=Ab.1 h;show(W.heap.modify B _)[B]?=_;rw[Cx (by rw[Array.size_modify];exact b),Array.getElem_modify_self,a];rfl
def Ji.set1(h:Ji W B t x y)(u:G):Ji (W.setCell ⟨B,1,none⟩ u) B t x u:=by
 obtain⟨b,a⟩:=Ab.1 h;show(W.heap.modify B _)[B]?=_;rw[Cx (by rw[Array.size_modify];exact b),Array.getElem_modify_self,a];rfl
def Ji.far(h:Ji W B t x y){p:Addr}(hp:B≠p.block)(u:G):Ji (W.setCell p u) B t x y:=(BE W p u B hp).trans h
def Below.then{w W a:F}(h:I w.heap.size w W)(k:I W.heap.size W a):I w.heap.size w a:=h.trans (k.mono h.size)
def Bt:=@Below.then
theorem JD{b o a:Nat}{u:G}(h:b≠i):(w.setCell ⟨i,a,none⟩ u).cell? ⟨b,o,none⟩=w.cell? ⟨b,o,none⟩:=
 World.cell?_of_block (w:=w) (BE w ⟨i,a,none⟩ u b h)
def Jw:G->Bool|.int _ _=>false|_=>true
theorem Row.set{k:IntKind}{W:F}{v:G}{ds:Ja}(h:Row k W v ds){p:Addr}{u0:G}(hp:W.cell? p=some u0)(q:Jw u0=true)(u:G):Row k (W.setCell p u) v ds:=by
 obtain⟨a,cap,e,f,g,i,c⟩:=h;refine⟨a,cap,e,f,g,i,?_⟩;rcases c with c|⟨b,m,d,l,n⟩
 . exact Ar c
 . refine Ax ⟨b,m,d,l.set p u,λj o=>?_⟩;grind[Jw,World.cell?_setCell_other]
def JW{R:Nat}{u0 u1:G}(x0 x1:G){ds:Ja}(b:I w.heap.size w j)(a:w.heap.size<=R)(q:Ji j R t u0 u1)(d:Jw u0=true)(e:Jw u1=true)(c:Row k j v ds):
 Row k ((j.setCell ⟨R,0,none⟩ x0).setCell ⟨R,1,none⟩ x1) v ds/\I w.heap.size w ((j.setCell ⟨R,0,none⟩ x0).setCell ⟨R,1,none⟩ x1):=
 ⟨Row.set (Row.set c q.c0 d _) (u0:=u1) (q.set0 x0).c1 e _,(b.setCell a _).setCell a _⟩
def RN.below{W W':F}{v:G}{n:Nat}(h:RN W v n)(a:I W.heap.size W W'):RN W' v n:=Row.below h a
def RN.form(h:RN W v n):∃a cap,v=C a (Jb 10000 n).length cap:=by
 obtain⟨a,cap,e,_⟩:=h;exact⟨a,cap,e⟩
def Ii{a b c:TypeId}{x1 d f e g:G}(h:((w.alloc (D #[x1,r] a)).alloc (D #[d,f] b)).alloc (D #[e,g] c)=W):I w.heap.size w W/\Ji W w.heap.size a x1 r/\Ji W (w.heap.size+1) b d f/\Ji W (w.heap.size+1+1) c e g:=by
 subst h;have i:=(Ji.new (w.alloc (D #[x1,r] a)) b d f).alloc (D #[e,g] c);have j:=Ji.new ((w.alloc (D #[x1,r] a)).alloc (D #[d,f] b)) c e g;rw[A1]at i;rw[A1,A1]at j;exact⟨(((BB _ w).alloc (Aa _) _).alloc DJ _).alloc si _,((Ji.new w _ _ _).alloc _).alloc _,i,j⟩
def M7(a b:G)(m n:Nat)(w:F)(c:RN w a m)(d:RN w b n):
 Calls H 143 #[a,b] w λe f=>e=.returned (.int .i64 (YG m n))/\I w.heap.size w f:=by
 have h:=K4 10000 O a b _ _ w c d (Jm O m) (Jm O n) (J8 O m) (J8 O n);rw[Jn O,Jn O]at h;exact h
def XZ(w:F)(a b c:Obj):I w.heap.size w (((w.alloc a).alloc b).alloc c):=
 (((BB _ w).alloc (Aa _) _).alloc DJ _).alloc si _
def M8{m:Nat}(h:n<=m):0<=YG m n:=by
 rcases AF n m with g|g
 . rw[GR g];omega
 . have:m=n:=O
   rw[this,Kr];omega
def QY(a b:Zu)(la lb i j m n:Nat)(s:Bool)(w:F)(M:RN w (C a la i) m)(N:RN w (C b lb j) n)(x:(Jb 10000 m).length<=400000000000)(y:(Jb 10000 n).length<=400000000000):
 Calls H 108 #[.agg #[C a la i,E s],.agg #[C b lb j,E s]] w λe k=>∃c q r,e=.returned (.agg #[C c q r,E (s&&decide (0<q))])/\RN k (C c q r) (m+n)/\I w.heap.size w k:=by
 have P:¬(w.heap.size=w.heap.size+1+1):=O
 go_enter func108,ntmps108
 go_wp2_with fail
 have f:=XZ w (D #[C a la i,E s] 47) (D #[C b lb j,E s] 47) (D #[C none 0 0,E false] 47);have b0:=((Ji.new w 47 (C a la i) (E s)).alloc (D #[C b lb j,E s] 47)).alloc (D #[C none 0 0,E false] 47);have g:=(Ji.new (w.alloc (D #[C a la i,E s] 47)) 47 (C b lb j) (E s)).alloc (D #[C none 0 0,E false] 47);have d:=Ji.new ((w.alloc (D #[C a la i,E s] 47)).alloc (D #[C b lb j,E s] 47)) 47 (C none 0 0) (E false);simp only[A1]at g d;go_region_held3 (λk=>k.cell? ⟨w.heap.size,0,none⟩=some (C a la i)/\k.cell? ⟨w.heap.size+1,0,none⟩=some (C b lb j)/\k.cell? ⟨w.heap.size,1,none⟩=some (E s)) (refine⟨?_,?_,?_⟩<;>(first|(go_keep;done)|((repeat rw[JD O]);simp[*];done)))
  (first
   |(go_at_call 142;refine(QT _ _ m n _ ?_ ?_ x y).mono ?_;exact M.below f.drew;exact N.below f.drew;rintro e Q ⟨u,rfl,p,o⟩;obtain⟨t,c',rfl⟩:=p.form;have b0:=b0.drew.below o;have g:=g.drew.below o;have d:=d.drew.below o;have f:=Below.then f.drew o;have A:=b0.c0;have B:=b0.c1;have K:=g.c0)
   |(go_at_call 141;refine(Fw _ _ _ _ _).mono ?_;rintro e R ⟨rfl,l⟩;have p:=Row.below p l;have b0:=b0.below l;have g:=g.below l;have d:=d.below l;have f:=Below.then f l;have A:=b0.c0;have B:=b0.c1;have K:=g.c0;have r0:=d.c0;have L:=d.c1;have f0:=d.f0;have f1:=d.f1))
 all_goals go_wp2_with fail
 obtain⟨z,v⟩:=JW (C t (Jb 10000 (m+n)).length c') (E (s&&decide (0<(Jb 10000 (m+n)).length))) f O d J J p;exact BA (by simp[results,results108,go_sem,r0,L]) J ⟨_,_,_,J,z,v⟩
def QZ(a b:Zu)(la lb i j m n:Nat)(s:Bool)(w:F)(A:RN w (C a la i) m)(B:RN w (C b lb j) n)(N:(Jb 10000 m).length<=400000000000)(r:n<=m):
 Calls H 108 #[.agg #[C a la i,E s],.agg #[C b lb j,E (!s)]] w λe k=>∃c t v,e=.returned (.agg #[C c t v,E (s&&decide (0<t))])/\RN k (C c t v) (m-n)/\I w.heap.size w k:=by
 have S:¬(w.heap.size=w.heap.size+1+1):=O
 have hs:(s == !s)=false:=by cases s<;>rfl
 have R:=M8 r;have K:Hid (n<=m):=r;clear r;have f:=XZ w (D #[C a la i,E s] 47) (D #[C b lb j,E (!s)] 47) (D #[C none 0 0,E false] 47);have b0:=((Ji.new w 47 (C a la i) (E s)).alloc (D #[C b lb j,E (!s)] 47)).alloc (D #[C none 0 0,E false] 47);have g:=(Ji.new (w.alloc (D #[C a la i,E s] 47)) 47 (C b lb j) (E (!s))).alloc (D #[C none 0 0,E false] 47);have d:=Ji.new ((w.alloc (D #[C a la i,E s] 47)).alloc (D #[C b lb j,E (!s)] 47)) 47 (C none 0 0) (E false);simp only[A1]at g d;go_enter func108,ntmps108
 go_wp2_with(first
  |(go_at_call 143;refine(M7 _ _ m n _ ?_ ?_).mono ?_;exact A.below f;exact B.below f;rintro e w0 ⟨rfl,o⟩;have b0:=b0.below o;have g:=g.below o;have d:=d.below o;have f:=Below.then f o;have x:=b0.c0;have y:=b0.c1;have z:=g.c0))
 go_region_held3 (λk=>k.cell? ⟨w.heap.size,0,none⟩=some (C a la i)/\k.cell? ⟨w.heap.size+1,0,none⟩=some (C b lb j)/\k.cell? ⟨w.heap.size,1,none⟩=some (E s)) (refine⟨?_,?_,?_⟩<;>(first|(go_keep;done)|((repeat rw[JD O]);simp[*];done)))
  (first
   |(go_at_call 144;refine(Ie _ _ m n _ ?_ ?_ (Cu (Nat.lt_succ_of_le K.out)) N).mono ?_;exact A.below f.drew;exact B.below f.drew;rintro e T ⟨u,rfl,q,p⟩;obtain⟨L,c',rfl⟩:=q.form;have b0:=b0.drew.below p;have g:=g.drew.below p;have d:=d.drew.below p;have f:=Below.then f.drew p;have x:=b0.c0;have y:=b0.c1;have z:=g.c0)
   |(go_at_call 141;refine(Fw _ _ _ _ _).mono ?_;rintro e U ⟨rfl,l⟩;have q:=Row.below q l;have b0:=b0.below l;have g:=g.below l;have d:=d.below l;have f:=Below.then f l;have x:=b0.c0;have y:=b0.c1;have z:=g.c0;have r0:=d.c0;have Q:=d.c1;have f0:=d.f0;have f1:=d.f1))
 all_goals go_wp2_with fail
 obtain⟨P,M⟩:=JW (C L (Jb 10000 (m-n)).length c') (E (s&&decide (0<(Jb 10000 (m-n)).length))) f O d J J q;exact BA (by simp[results,results108,go_sem,r0,Q]) J ⟨_,_,_,J,P,M⟩
def Q3(a b:Zu)(la lb i j m n:Nat)(s:Bool)(w:F)(A:RN w (C a la i) m)(B:RN w (C b lb j) n)(N:(Jb 10000 n).length<=400000000000)(r:m<n):
 Calls H 108 #[.agg #[C a la i,E s],.agg #[C b lb j,E (!s)]] w λe k=>∃c t v,e=.returned (.agg #[C c t v,E ((!s)&&decide (0<t))])/\RN k (C c t v) (n-m)/\I w.heap.size w k:=by
 have S:¬(w.heap.size=w.heap.size+1+1):=O
 have hs:(s == !s)=false:=by cases s<;>rfl
 have R:YG m n<0:=by rw[XF r];omega
 have K:Hid (m<n):=r;clear r;have g:=XZ w (D #[C a la i,E s] 47) (D #[C b lb j,E (!s)] 47) (D #[C none 0 0,E false] 47);have b0:=((Ji.new w 47 (C a la i) (E s)).alloc (D #[C b lb j,E (!s)] 47)).alloc (D #[C none 0 0,E false] 47);have d:=(Ji.new (w.alloc (D #[C a la i,E s] 47)) 47 (C b lb j) (E (!s))).alloc (D #[C none 0 0,E false] 47);have f:=Ji.new ((w.alloc (D #[C a la i,E s] 47)).alloc (D #[C b lb j,E (!s)] 47)) 47 (C none 0 0) (E false);simp only[A1]at d f;go_enter func108,ntmps108
 go_wp2_with(first
  |(go_at_call 143;refine(M7 _ _ m n _ ?_ ?_).mono ?_;exact A.below g;exact B.below g;rintro e w0 ⟨rfl,o⟩;have b0:=b0.below o;have d:=d.below o;have f:=f.below o;have g:=Below.then g o;have x:=b0.c0;have y:=d.c1;have z:=d.c0))
 go_region_held3 (λk=>k.cell? ⟨w.heap.size,0,none⟩=some (C a la i)/\k.cell? ⟨w.heap.size+1,0,none⟩=some (C b lb j)/\k.cell? ⟨w.heap.size+1,1,none⟩=some (E (!s))) (refine⟨?_,?_,?_⟩<;>(first|(go_keep;done)|((repeat rw[JD O]);simp[*];done)))
  (first
   |(go_at_call 144;refine(Ie _ _ n m _ ?_ ?_ (Cu (Nat.lt_succ_of_le (Nat.le_of_lt K.out))) N).mono ?_;exact B.below g.drew;exact A.below g.drew;rintro e T ⟨u,rfl,q,p⟩;obtain⟨L,c',rfl⟩:=q.form;have b0:=b0.drew.below p;have d:=d.drew.below p;have f:=f.drew.below p;have g:=Below.then g.drew p;have x:=b0.c0;have y:=d.c1;have z:=d.c0)
   |(go_at_call 141;refine(Fw _ _ _ _ _).mono ?_;rintro e U ⟨rfl,l⟩;have q:=Row.below q l;have b0:=b0.below l;have d:=d.below l;have f:=f.below l;have g:=Below.then g l;have x:=b0.c0;have y:=d.c1;have z:=d.c0;have r0:=f.c0;have Q:=f.c1;have f0:=f.f0;have f1:=f.f1))
 all_goals go_wp2_with fail
 obtain⟨P,M⟩:=JW (C L (Jb 10000 (n-m)).length c') (E ((!s)&&decide (0<(Jb 10000 (n-m)).length))) g O f J J q;exact BA (by simp[results,results108,go_sem,r0,Q]) J ⟨_,_,_,J,P,M⟩
def RN.len{a:Zu}{l:Nat}(h:RN W (C a l c) n):l=(Jb 10000 n).length:=by
 obtain⟨b,cap,e,_⟩:=h;cases e;rfl
def Ij{d:G}{p q:Bool}(h:p=q):Value.agg #[d,E p]=.agg #[d,E q]:=by rw[h]
def Jr(W:F)(v:G)(z:Int):Prop:=∃a l cap,v=.agg #[C a l cap,E (decide (z<0))]/\RN W (C a l cap) z.natAbs
def Jr.below{W W':F}{v:G}{z:Int}(h:Jr W v z)(b:I W.heap.size W W'):Jr W' v z:=by
 obtain⟨a,l,cap,e,c⟩:=h;exact⟨a,l,cap,e,c.below b⟩
def Dr(z:Int):Nat:=(Jb 10000 z.natAbs).length
def XM:0<(Jb 10000 n).length↔n≠0:=by
 rw[AP,Ne,Jz O]
def K5(r s:G)(x y:Int)(w:F)(v:Jr w r x)(z:Jr w s y)(n:Dr x<=400000000000)(o:Dr y<=400000000000):
 Calls H 108 #[r,s] w λe k=>∃u,e=.returned u/\Jr k u (x+y)/\I w.heap.size w k:=by
 obtain⟨a,la,l,rfl,p⟩:=v;obtain⟨b,lb,m,rfl,q⟩:=z;unfold Dr at n o;by_cases hs:decide (x<0)=decide (y<0)
 . rw[<-hs];refine(QY a b la lb l m _ _ _ w p q n o).mono ?_;rintro e k ⟨c,j,f,rfl,d,i⟩;have hl:=d.len;have g:x.natAbs+y.natAbs=(x+y).natAbs:=by
    have:(x<0↔y<0):=by simpa using hs
    omega
   rw[g]at d hl;refine⟨_,J,⟨c,j,f,?_,d⟩,i⟩;refine Ij ?_;rw[Ci];simp only[AN,Bb];rw[hl,XM]
   have:(x<0↔y<0):=by simpa using hs
   omega
 . have t:decide (y<0)=!decide (x<0):=by
    cases B:decide (x<0)<;>cases K:decide (y<0)<;>simp_all
   have L:¬(x<0↔y<0):=by simpa using hs
   rw[t];by_cases A:y.natAbs<=x.natAbs
   . refine(QZ a b la lb l m _ _ _ w p q n A).mono ?_;rintro e k ⟨c,j,f,rfl,d,i⟩;have hl:=d.len;have g:x.natAbs-y.natAbs=(x+y).natAbs:=O
     rw[g]at d hl;refine⟨_,J,⟨c,j,f,?_,d⟩,i⟩;refine Ij ?_;rw[Ci];simp only[AN,Bb];rw[hl,XM];omega
   . refine(Q3 a b la lb l m _ _ _ w p q o O).mono ?_;rintro e k ⟨c,j,f,rfl,d,i⟩;have hl:=d.len;have g:y.natAbs-x.natAbs=(x+y).natAbs:=O
     rw[g]at d hl;refine⟨_,J,⟨c,j,f,?_,d⟩,i⟩;refine Ij ?_;rw[Ci];simp only[AN,Bb,Cq,Bo];rw[hl,XM];omega
def GU(w:F)(a b:Obj):I w.heap.size w ((w.alloc a).alloc b):=
 ((BB _ w).alloc (Aa _) _).alloc DJ _
def Q4(a:Zu)(la c m:Nat)(s:Bool)(w:F)(l:RN w (C a la c) m):
 Calls H 126 #[.agg #[C a la c,E s]] w λe g=>e=.returned (.agg #[C a la c,E (!s&&decide (0<la))])/\RN g (C a la c) m/\I w.heap.size w g:=by
 have d:=GU w (D #[C a la c,E s] 47) (D #[C none 0 0,E false] 47);have b:=Ji.new (w.alloc (D #[C a la c,E s] 47)) 47 (C none 0 0) (E false);simp only[A1]at b;go_enter func126,ntmps126
 go_wp2_with(first
  |(go_at_call 141;refine(Fw _ _ _ _ _).mono ?_;rintro e n ⟨rfl,f⟩;have b:=b.below f;have d:=Below.then d f;have r0:=b.c0;have k:=b.c1;have f0:=b.f0;have f1:=b.f1))
 obtain⟨j,i⟩:=JW (C a la c) (E (!s&&decide (0<la))) d O b J J (l.below d);exact BA (by simp[results,results126,go_sem,r0,k]) J ⟨J,j,i⟩
def M9(f:G)(x:Int)(w:F)(i:Jr w f x):
 Calls H 126 #[f] w λe c=>∃u,e=.returned u/\Jr c u (-x)/\I w.heap.size w c:=by
 obtain⟨a,la,d,rfl,j⟩:=i;refine(Q4 a la d _ _ w j).mono ?_;rintro e c ⟨rfl,b,g⟩;have hl:=b.len;rw[show x.natAbs=(-x).natAbs from by omega]at b hl;refine⟨_,J,⟨a,la,d,?_,b⟩,g⟩;refine Ij ?_;rw[Ci];simp only[AN,Bb,Cq,Bo];rw[hl,XM];omega
theorem Ik(c:UInt8)(l:List UInt8):(⟨#[c]⟩:ByteArray)++⟨l.toArray⟩=⟨(c::l).toArray⟩:=by
 apply C0;simp[ByteArray.data_append]
def NA(c:UInt8)(s:ByteArray):((⟨#[c]⟩:ByteArray)++s).size=1+s.size:=by
 rw[ByteArray.size_append];rfl
def NB(w:F)(n:Nat):(convert 87 9 (C (some ⟨w.heap.size,0,none⟩) 1 1)).run H (w.alloc (D #[.int .u8 (48+(n:Int)%10)] 5))=.ok (.string ⟨#[EH (n%10)]⟩) (w.alloc (D #[.int .u8 (48+(n:Int)%10)] 5)):=by
 have h:=run_convert_bytes_back (P:=H) (w.alloc (D #[.int .u8 (48+(n:Int)%10)] 5)) 87 9 5 ⟨w.heap.size,0,none⟩ 1 [EH (n%10)] underlying87 underlying5 underlying9 (by
  intro j b
  have:j=0:=by simp at b;omega
  subst this;have e:(((EH (n%10)).toNat:Nat):Int)=48+(n:Int)%10:=by
   have a:(EH (n%10)).toNat=48+n%10:=by
    unfold EH;rw[UInt8.toNat_ofNat'];omega
   rw[a];omega
  simp only[List.getElem_cons_zero,e];go_simp)
 exact h
def Q5(w:F):(convert 87 9 (C (some ⟨w.heap.size,0,none⟩) 1 1)).run H (w.alloc (D #[.int .u8 48] 5))=.ok (.string ⟨#[EH 0]⟩) (w.alloc (D #[.int .u8 48] 5)):=NB w 0
def Q6(a:Zu)(l o m:Nat)(s:Bool)(w:F)(P:RN w (C a l o) m)(z:m≠0)(hl:l<=400000000000):
 Calls H 61 #[.agg #[C a l o,E s]] w λe w'=>e=.returned (.string ⟨(if s then 45::Dx (Jb 10 m)else Dx (Jb 10 m)).toArray⟩)/\I w.heap.size w w':=by
 have T:=P.len;have ap:l≠0:=by rw[T];have:=(XM (n:=m)).2 z;omega
 obtain⟨a',ah,e0,hle,ai,_,HA⟩:=Row.open P;have R:=Jm (B:=10000) O m;have S:Hid (∀i k D,Xj (Jb 10000 m) i k 0 D->i+1=(Jb 10000 m).length->D=Jb 10 m):=λi k D h v=>by
  have:=(h.last v).2.2.2;rw[Jn O]at this;exact this z (J8 O m)
 have HX:Hid (∀i n D,Xj (Jb 10000 m) i 4 n D->D.length=4*(i+1)/\DK 10 D/\val 10 D=val 10000 ((Jb 10000 m).take (i+1))):=λi n D h=>h.next R;cases e0;clear P z;generalize Jb 10000 m=ds at *;generalize Jb 10 m=q at *;have aq:((ds.length:Int)==0)=false:=beq_eq_false_iff_ne.2 O;clear T;have c:=Ji.new w 47 (C a ds.length o) (E s);go_enter func61,ntmps61
 go_wp2;go_loopw [3,4] (λQ L wr=>∃(i:Nat) (D:Ja) (d:ByteArray),L=.int .i64 i/\Q=.string d/\i<=ds.length/\d.size<=4*i/\Hid (d=⟨(Dx D).toArray⟩)/\Hid ((i<ds.length/\D.length=4*i/\DK 10 D/\val 10 D=val 10000 (ds.take i))\/(i=ds.length/\D=q))/\Ji wr w.heap.size 47 (C a ds.length o) (E s)/\I w.heap.size w wr)
  (λ_ L _=>ds.length-(intOf L).toNat)
 case atStart=>exact⟨0,[],⟨#[]⟩,J,J,O,by show 0<=_;omega,J,Ar ⟨O,J,DK.nil _,by simp[val]⟩,c,(BB _ _).alloc (Aa _) _⟩
 case round=>
  obtain⟨i,D,d,rfl,rfl,hi,A,j,r,c,f⟩:=hrel;have c0:=c.c0;have c1:=c.c1;by_cases ae:i<ds.length
  . obtain⟨b,N,rfl,hb,V⟩:=HA.out i ae;have X:wr.cell? ⟨b,N+i,none⟩=some (.int .i64 (ds[i]?.getD 0:Nat)):=(f.cell (p:=⟨b,N+i,none⟩) hb).trans V;clear V;have hT:Xj ds i 0 (ds[i]?.getD 0) D:=by
     rcases r.out with⟨_,U,v,h3⟩|⟨U,_⟩
     . exact Xj.start U v h3
     . omega
    have g:=YH hT;clear hT r;have K:=R.getD O i;generalize ds[i]?.getD 0=x at X g K;go_wp2;go_loopw [3,5,6] (λQ nv M wr=>∃(k n:Nat) (D:Ja) (d:ByteArray),M=.int .i64 k/\nv=.int .i64 n/\Q=.string d/\k<=4/\n<10000/\d.size<=4*i+k/\Hid (d=⟨(Dx D).toArray⟩)/\Hid (Xj ds i k n D)/\Ji wr w.heap.size 47 (C (some ⟨b,N,none⟩) ds.length o) (E s)/\I w.heap.size w wr)
     (λ_ _ M _=>4-(intOf M).toNat)
    case atStart=>exact⟨0,x,D,d,J,J,J,O,K,O,j,g,c,f⟩
    case round=>
     clear c c0 c1 f j g X A K;obtain⟨k,n,D,d,rfl,rfl,rfl,ak,ay,A,j,g,c,f⟩:=hrel;have c0:=c.c0;have c1:=c.c1;by_cases W:k<4
     . have an:(k:Int)<4:=O
       by_cases ad:0<n
       . have Qd:=NB wr n;have aj:(0:Int)<n:=O
         go_wp2;refine⟨⟨k+1,n/10,D++[n%10],_,DJ,DJ,J,O,O,by rw[NA];omega,?_,g.out.step W (Ar ad),c.alloc _,f.alloc f.size _⟩,by simp[intOf];omega⟩;show _=_;rw[j.out,Ik,Ku]
       . by_cases y:i+1<ds.length
         . have u:n=0:=O
           subst u;have Qd:=Q5 wr;have Qe:(i:Int)+1<ds.length:=O
           go_wp2;refine⟨⟨k+1,0/10,D++[0%10],_,DJ,DJ,J,O,O,by rw[NA];omega,?_,g.out.step W (Ax y),c.alloc _,f.alloc f.size _⟩,by simp[intOf];omega⟩;show _=_;rw[j.out,Ik,Ku]
         . have u:n=0:=O
           subst u;have Qe:decide ((i:Int)+1<ds.length)=false:=BF O;have t:=YH (S.out i k D g.out O);go_wp2;go_roundw
           case rel=>exact⟨i+1,D,d,DJ,J,O,O,j,Ax ⟨O,t.out⟩,c,f⟩
           case measure=>simp[intOf];omega
     . have Qc:k=4:=O
       subst Qc;have t:Hid ((i+1<ds.length/\D.length=4*(i+1)/\DK 10 D/\val 10 D=val 10000 (ds.take (i+1)))\/(i+1=ds.length/\D=q)):=by
        by_cases y:i+1<ds.length
        . exact Ar ⟨y,HX.out i n D g.out⟩
        . have hT:=g.out;have h0:n=0:=by
           have h4:=hT.2.2.2.1;rw[h4];exact A3 (by have:=R.getD O i;simpa using this)
          subst h0;exact Ax ⟨O,S.out i 4 D hT O⟩
       go_wp2;go_roundw
       case rel=>exact⟨i+1,D,d,DJ,J,O,O,j,t,c,f⟩
       case measure=>simp[intOf];omega
  . have e:d=⟨(Dx q).toArray⟩:=by
     rcases r.out with⟨h,_⟩|⟨_,h⟩
     . omega
     . rw[j.out,h]
    subst e;cases s
    . go_wp2;go_ret;exact⟨J,f⟩
    . have hz:(Dx q).length<=4*i:=A;go_wp2;go_ret;refine⟨?_,f⟩;show Ending.returned (.string (⟨#[45]⟩++⟨(Dx q).toArray⟩))=_;rw[Ik]
def Il(v:G)(z:Int)(w:F)(h:Jr w v z)(hl:Dr z<=400000000000):
 Calls H 61 #[v] w λe g=>e=.returned (.string ⟨(YL z).toArray⟩)/\I w.heap.size w g:=by
 obtain⟨a,l,cap,rfl,b⟩:=h;by_cases f:z.natAbs=0
 . have i:z=0:=O
   subst i;have c:=b.len;have j:l=0:=by rw[c];simp[Jv]
   subst j;clear b c hl;go_enter func61,ntmps61
   go_wp2;go_ret;exact⟨J,(BB _ _).alloc (Aa _) _⟩
 . refine(Q6 a l cap _ _ w b f (by rw[b.len];exact hl)).mono ?_;rintro e g ⟨rfl,k⟩;refine⟨?_,k⟩;unfold YL;rw[IW f];by_cases d:z<0
   . simp[d]
   . simp[d]
def Ji.kept{row:Option Nat}(h:Ji W B t x y)(hg:W.grownBy W' row)(a:some B≠row):Ji W' B t x y:=(hg.block B h.lt a).trans h
def Ed(b c:Nat)(a:Ja):Prop:=DK 10000 a/\val 10000 a+10000^a.length*c=b/\a.length<=100/\(a=[]\/c≠0\/10000^(a.length-1)<=val 10000 a)
theorem Ed.step(h:Ed i c f)(j:i<=9223372036854775808)(k:c≠0):Ed i (c/10000) (f++[c%10000]):=by
 obtain⟨a,b,d,e⟩:=h;refine⟨a.append (DK.cons (AV _ O) (DK.nil _)),?_,?_,?_⟩
 . grind[Ye,Cc,Cg,Nat.mod_add_div]
 . grind
 . right
   by_cases g:c/10000=0
   . right
     rw[AE,List.length_singleton,Nat.add_sub_cancel,Ye]
     have:c%10000≠0:=O
     have:=AA (10000^f.length) (show 1<=c%10000 by omega);omega
   . exact Ar g
theorem Ed.done(h:Ed i 0 f):f=Jb 10000 i:=by
 obtain⟨a,b,c,d⟩:=h;rw[Cb,A6]at b;rw[<-b];refine(Y2 O a (Kt O a ?_)).symm;grind
theorem Xy{wr:F}{e:TypeId}{o:Obj}{D:Int}(d:Nat)(N:D=(d:Nat))(U:w.heap.size<=B)(s:B<i)(p:I w.heap.size w wr)(M:Ji wr B t v y)(P:wr.ownsRow i e 1 v f.length (cellsOf k f))
(A:j.ownsRow i e 1 r (f.length+1) (cellsOf k f++[.int k D]))(u:(wr.alloc o).grownBy j v.ownBlock):
 ∃g n,r=C (some ⟨g,0,none⟩) (f++[d]).length n/\(j.setCell ⟨B,0,none⟩ r).ownsRow i e 1 r (f++[d]).length (cellsOf k (f++[d]))/\Ji j B t v y/\I w.heap.size w j/\i<=j.heap.size/\(∀a c l m,a<i->Ji wr a c l m->Ji j a c l m):=by
 obtain⟨g,n,L⟩:=ownsRow_succ A;subst N;have X:∀q,v.ownBlock=some q->i<=q/\q<wr.heap.size:=λq K=>P.lt q K;have x:∀a c l m,a<i->Ji wr a c l m->Ji j a c l m:=λa c l m h b=>(b.alloc o).kept u (λS=>by grind);have z:j.ownsRow i e 1 r (f++[d]).length (cellsOf k (f++[d])):=by rw[K3];simpa using A
 refine⟨g,n,by rw[L];simp,ownsRow_setCell_below z s r,x _ _ _ _ s M,?_,?_,x⟩
 . exact(p.alloc p.size _).grown u (by simp;have:=p.size;omega) (λq K=>by grind)
 . rcases z.2 with⟨h,_⟩|⟨T,Q,R,_,W,V,_⟩
   . rw[L]at h;cases h
   grind
def Q7(b:Nat)(hN:b<=9223372036854775807)(w:F):
 Calls H 93 #[.int .i64 b] w λe z=>∃u,e=.returned u/\Jr z u b/\I w.heap.size w z:=by
 obtain⟨X,P,U,V,W⟩:=Bq Tryz.infoInt;have d:=(Ji.new w 47 (C none 0 0) (E false)).alloc (D #[C none 0 0,E false] 47);have f:=Ji.new (w.alloc (D #[C none 0 0,E false] 47)) 47 (C none 0 0) (E false);simp only[A1]at f;have s:=GU w (D #[C none 0 0,E false] 47) (D #[C none 0 0,E false] 47);have p:Hid (∀a,Ed b 0 a->a=Jb 10000 b):=λa h=>h.done;have r:Hid (∀c a,Ed b c a->c≠0->Ed b (c/10000) (a++[c%10000])):=λc a h k=>h.step O k;go_enter func93,ntmps93
 go_wp2;go_loopw [0] (λn wr=>∃(c:Nat) (a:Ja) (i:Zu) (j:Nat),n=.int .i64 c/\c<=b/\a.length<=100/\Hid (Ed b c a)/\Ji wr w.heap.size 47 (C none 0 0) (E false)/\Ji wr (w.heap.size+1) 47 (C i a.length j) (E false)/\wr.ownsRow (w.heap.size+1+1) 3 1 (C i a.length j) a.length (cellsOf .i64 a)/\I w.heap.size w wr/\w.heap.size+1+1<=wr.heap.size)
  (λn _=>(intOf n).toNat)
 case atStart=>exact⟨b,[],none,0,J,Aa _,DJ,⟨DK.nil _,by simp[val],DJ,Ar J⟩,d,f,Bp _ _ _ _,s,DJ⟩
 case round=>
  clear d f s;obtain⟨c,a,i,j,rfl,ae,ah,o,d,f,m,x,aj⟩:=hrel;have c0:=f.c0;have c1:=f.c1;have f0:=f.f0;by_cases k:c=0
  . subst k;have e:=p.out a o.out;have r0:=d.c0;have r1:=d.c1;have g0:=d.f0;have g1:=d.f1;clear p r;go_wp2;subst e;obtain⟨S,L⟩:=JW (C i (Jb 10000 b).length j) (E false) x (Aa _) d J J (Row.of_owns m O);exact BA (v:=.agg #[C i (Jb 10000 b).length j,E false]) (by simp[results,results93,go_sem,r0,r1]) J ⟨_,J,⟨i,_,j,by rw[show decide ((b:Int)<0)=false from BF O],S⟩,L⟩
  . have ad:((c:Int) != 0)=true:=by rw[B0];omega
    have q:=YH (r.out c a o.out k);go_wp2_with(first
     |(at_builtin;refine BT _ J _ _ 45 J (w.heap.size+1+1) 3 X (.int .i64 0) 1 8 underlying45 P U V W J DP (C i a.length j) a.length (cellsOf .i64 a) J (m.alloc _) ⟨wr.heap.size,0,none⟩ 1 1 [_] J J (Bi _ _ _) (by simp[Value.oneCell']) (by unfold maxLen;omega) O si ?_;intro v' w3 R N ai;obtain⟨g,B,K,y,l,M,T,Q⟩:=Xy (c%10000) O O O x f m R N;have d0:=l.c0;have d1:=l.f0;subst K))
    have A:(a++[c%10000]).length<=100:=q.out.2.2.1;have t:(a++[c%10000]).length=a.length+1:=DJ
    go_roundw
    case rel=>exact⟨c/10000,a++[c%10000],some ⟨g,0,none⟩,B,DJ,O,A,q,(Q _ _ _ _ O d).far DJ _,by rw[t];exact l.set0 _,by rw[t]at y ⊢;exact y,M.setCell DJ _,by simpa[World.setCell]using T⟩
    case measure=>simp[intOf];omega
def Q8(c:Nat):(-(c:Int)).tmod 10000=-((c%10000:Nat):Int):=by
 rw[Int.neg_tmod,Int.tmod_eq_emod_of_nonneg O];rfl
def Q9(c:Nat):(-(c:Int)).tdiv 10000=-((c/10000:Nat):Int):=by
 rw[Int.neg_tdiv,Int.tdiv_eq_ediv_of_nonneg O];rfl
def RA(b:Nat)(h0:1<=b)(hN:b<=9223372036854775808)(w:F):
 Calls H 93 #[.int .i64 (-(b:Int))] w λe W=>∃u,e=.returned u/\Jr W u (-(b:Int))/\I w.heap.size w W:=by
 have ah:0<b:=h0;obtain⟨V,Q,S,T,U⟩:=Bq Tryz.infoInt;have d:=(Ji.new w 47 (C none 0 0) (E false)).alloc (D #[C none 0 0,E true] 47);have f:=Ji.new (w.alloc (D #[C none 0 0,E false] 47)) 47 (C none 0 0) (E true);simp only[A1]at f;have P:=GU w (D #[C none 0 0,E false] 47) (D #[C none 0 0,E true] 47);have M:Hid (∀a,Ed b 0 a->a=Jb 10000 b):=λa h=>h.done;have N:Hid (∀c a,Ed b c a->c≠0->Ed b (c/10000) (a++[c%10000])):=λc a h p=>h.step O p;go_enter func93,ntmps93
 go_wp2;go_loopw [0] (λK wr=>∃(c:Nat) (a:Ja) (i:Zu) (j:Nat),K=.int .i64 (-(c:Int))/\c<=b/\a.length<=100/\Hid (Ed b c a)/\Ji wr w.heap.size 47 (C none 0 0) (E false)/\Ji wr (w.heap.size+1) 47 (C i a.length j) (E true)/\wr.ownsRow (w.heap.size+1+1) 3 1 (C i a.length j) a.length (cellsOf .i64 a)/\I w.heap.size w wr/\w.heap.size+1+1<=wr.heap.size)
  (λK _=>(-(intOf K)).toNat)
 case atStart=>exact⟨b,[],none,0,J,Aa _,DJ,⟨DK.nil _,by simp[val],DJ,Ar J⟩,d,f,Bp _ _ _ _,P,DJ⟩
 case round=>
  clear d f P;obtain⟨c,a,i,j,rfl,aj,ak,L,d,f,n,t,an⟩:=hrel;have c0:=f.c0;have c1:=f.c1;have f0:=f.f0;have ht:=Q8 c;have hd:=Q9 c;by_cases p:c=0
  . subst p;have e:=M.out a L.out;have r0:=d.c0;have r1:=d.c1;have g0:=d.f0;have g1:=d.f1;clear M N ht hd;go_wp2;subst e;obtain⟨hr,ad⟩:=JW (C i (Jb 10000 b).length j) (E true) t (Aa _) d J J (Row.of_owns n O);exact BA (v:=.agg #[C i (Jb 10000 b).length j,E true]) (by simp[results,results93,go_sem,r0,r1]) J ⟨_,J,⟨i,_,j,by rw[show decide (-(b:Int)<0)=true from decide_eq_true O],by rw[Fd];exact hr⟩,ad⟩
  . have ai:((-(c:Int)) != 0)=true:=by rw[B0];omega
    have o:=YH (N.out c a L.out p);by_cases R:c%10000=0
    . have X:(c:Int)%10000=0:=O
      have HM:=YH R;clear R;go_wp2_with(first
       |(at_builtin;refine BT _ J _ _ 45 J (w.heap.size+1+1) 3 V (.int .i64 0) 1 8 underlying45 Q S T U J DP (C i a.length j) a.length (cellsOf .i64 a) J (n.alloc _) ⟨wr.heap.size,0,none⟩ 1 1 [_] J J (Bi _ _ _) (by simp[Value.oneCell']) (by unfold maxLen;omega) O si ?_;intro v' w3 A y ae;obtain⟨g,r,s,m,k,x,B,z⟩:=Xy (c%10000) O O O t f n A y;have d0:=k.c0;have d1:=k.f0;subst s))
      have q:(a++[c%10000]).length<=100:=o.out.2.2.1;have l:(a++[c%10000]).length=a.length+1:=DJ
      go_roundw
      case rel=>exact⟨c/10000,a++[c%10000],some ⟨g,0,none⟩,r,DJ,O,q,o,(z _ _ _ _ O d).far DJ _,by rw[l];exact k.set0 _,by rw[l]at m ⊢;exact m,x.setCell DJ _,by simpa[World.setCell]using B⟩
      case measure=>simp[intOf];omega
    . have X:0<(c:Int)%10000:=O
      go_wp2_with(first
       |(at_builtin;refine BT _ J _ _ 45 J (w.heap.size+1+1) 3 V (.int .i64 0) 1 8 underlying45 Q S T U J DP (C i a.length j) a.length (cellsOf .i64 a) J (n.alloc _) ⟨wr.heap.size,0,none⟩ 1 1 [_] J J (Bi _ _ _) (by simp[Value.oneCell']) (by unfold maxLen;omega) O si ?_;intro v' w3 A y ae;obtain⟨g,r,s,m,k,x,B,z⟩:=Xy (c%10000) O O O t f n A y;have d0:=k.c0;have d1:=k.f0;subst s))
      have q:(a++[c%10000]).length<=100:=o.out.2.2.1;have l:(a++[c%10000]).length=a.length+1:=DJ
      go_roundw
      case rel=>exact⟨c/10000,a++[c%10000],some ⟨g,0,none⟩,r,DJ,O,q,o,(z _ _ _ _ O d).far DJ _,by rw[l];exact k.set0 _,by rw[l]at m ⊢;exact m,x.setCell DJ _,by simpa[World.setCell]using B⟩
      case measure=>simp[intOf];omega
def FB(n:Int)(b:-9223372036854775808<=n)(c:n<=9223372036854775807)(w:F):
 Calls H 93 #[.int .i64 n] w λe a=>∃u,e=.returned u/\Jr a u n/\I w.heap.size w a:=by
 by_cases h:n<0
 . have e:n=-(n.natAbs:Int):=O
   rw[e];exact RA n.natAbs O O w
 . have e:n=(n.natAbs:Int):=O
   rw[e];exact Q7 n.natAbs O w
