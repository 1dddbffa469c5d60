import Derived.Test.YtcahodpphikgnaaGreatDoorU02
import Derived.Deep.RegionHeld3
set_option linter.all false
open Go.Value renaming slice->C,bool->E
open Go.Obj renaming cells->D
open Go renaming World->F,Value->G
open Go.Proofs.Tryz renaming prog->H
open Go.RowKit renaming Below->I
set_option maxRecDepth 99999
set_option maxHeartbeats 0
namespace Go.Proofs.YtcahodpphikgnaaGreatDoor
open Proofs.Tryz
open Go.RowKit Go.Shelf
def BS:=@beq_eq_false_iff_ne
def Jd(W:F)(B:Nat)(t:TypeId)(x y:G):Prop:=W.heap[B]?=some (D #[x,y] t (0,0))
variable{k:IntKind}{f:Ja}{B c i n:Nat}{t:TypeId}{r v x y:G}{W W' j w:F}
def Jd.lt(h:Jd W B t x y):B<W.heap.size:=(Ac.1 h).1
def Jd.c0(h:Jd W B t x y):W.cell? ⟨B,0,none⟩=some x:=by simp[World.cell?,show W.heap[B]?=_ from h]
def Jd.c1(h:Jd W B t x y):W.cell? ⟨B,1,none⟩=some y:=by simp[World.cell?,show W.heap[B]?=_ from h]
def Jd.cp(h:Jd W B t x y):type_of% (And.intro h.c0 h.c1):=⟨h.c0,h.c1⟩
def Jd.f0(h:Jd W B t x y):W.frozen? ⟨B,0,none⟩=false:=by simp[World.frozen?,show W.heap[B]?=_ from h]
def Jd.f1(h:Jd W B t x y):W.frozen? ⟨B,1,none⟩=false:=by simp[World.frozen?,show W.heap[B]?=_ from h]
def Jd.fp(h:Jd W B t x y):type_of% (And.intro h.f0 h.f1):=⟨h.f0,h.f1⟩
def Jd.new(W:F)(t:TypeId)(x y:G):Jd (W.alloc (D #[x,y] t)) W.heap.size t x y:=BD W _
def Jd.below(h:Jd W B t x y)(a:I W.heap.size W W'):Jd W' B t x y:=(a.block B h.lt).trans h
def Jd.alloc{W:F}{B:Nat}{t:TypeId}{x y:G}(h:Jd W B t x y)(o:Obj):Jd (W.alloc o) B t x y:=h.below ((BC _ W).alloc (Aa _) o)
def Jd.drew{W:F}{B:Nat}{t:TypeId}{x y:G}(h:Jd W B t x y):Jd W.drew B t x y:=h
def Jd.set0(h:Jd W B t x y)(u:G):Jd (W.setCell ⟨B,0,none⟩ u) B t u y:=by
 obtain⟨b,a⟩:=Ac.1 h;show(W.heap.modify B _)[B]?=_;rw[Array.getElem?_eq_getElem (by rw[Array.size_modify];exact b),Array.getElem_modify_self,a];rfl
def Jd.set1(h:Jd W B t x y)(u:G):Jd (W.setCell ⟨B,1,none⟩ u) B t x u:=by
 obtain⟨b,a⟩:=Ac.1 h;show(W.heap.modify B _)[B]?=_;rw[Array.getElem?_eq_getElem (by rw[Array.size_modify];exact b),Array.getElem_modify_self,a];rfl
def Jd.far(h:Jd W B t x y){p:Addr}(hp:B≠p.block)(u:G):Jd (W.setCell p u) B t x y:=(BQ W p u B hp).trans h
def Below.then{w W a:F}(h:I w.heap.size w W)(k:I W.heap.size W a):I w.heap.size w a:=h.trans (k.mono h.size)
def Bt:=@Below.then
theorem Ju{b o a:Nat}{u:G}(h:b≠i):(w.setCell ⟨i,a,none⟩ u).cell? ⟨b,o,none⟩=w.cell? ⟨b,o,none⟩:=
 World.cell?_of_block (w:=w) (BQ w ⟨i,a,none⟩ u b h)
def JH:G->Bool|.int _ _=>false|_=>true
theorem Row.set{k:IntKind}{W:F}{v:G}{ds:Ja}(h:Row k W v ds){p:Addr}{u0:G}(hp:W.cell? p=some u0)(q:JH u0=true)(u:G):Row k (W.setCell p u) v ds:=by
 obtain⟨a,cap,e,f,g,i,c⟩:=h;refine⟨a,cap,e,f,g,i,?_⟩;rcases c with c|⟨b,m,d,l,n⟩
 . exact Aq c
 . refine AK ⟨b,m,d,l.set p u,λj o=>?_⟩;grind[JH,World.cell?_setCell_other]
def JE{u0 u1:G}(x0 x1:G){ds:Ja}(b:I w.heap.size w j)(a:w.heap.size<=i)(q:Jd j i t u0 u1)(d:JH u0=true)(e:JH u1=true)(c:Row k j v ds):
 Row k ((j.setCell ⟨i,0,none⟩ x0).setCell ⟨i,1,none⟩ x1) v ds/\I w.heap.size w ((j.setCell ⟨i,0,none⟩ x0).setCell ⟨i,1,none⟩ x1):=
 ⟨Row.set (Row.set c q.c0 d _) (u0:=u1) (q.set0 x0).c1 e _,(b.setCell a _).setCell a _⟩
def RN.below{W W':F}{v:G}{n:Nat}(h:RN W v n)(a:I W.heap.size W W'):RN W' v n:=Row.below h a
def RN.form(h:RN W v n):∃a cap,v=C a (Jb 10000 n).length cap:=by
 obtain⟨a,cap,e,_⟩:=h;exact⟨a,cap,e⟩
def Dm{a b c:TypeId}{x1 d f e g:G}(h:((w.alloc (D #[x1,r] a)).alloc (D #[d,f] b)).alloc (D #[e,g] c)=W):I w.heap.size w W/\Jd W w.heap.size a x1 r/\Jd W (w.heap.size+1) b d f/\Jd W (w.heap.size+1+1) c e g:=by
 subst h;have i:=(Jd.new (w.alloc (D #[x1,r] a)) b d f).alloc (D #[e,g] c);have j:=Jd.new ((w.alloc (D #[x1,r] a)).alloc (D #[d,f] b)) c e g;rw[BA]at i;rw[BA,BA]at j;exact⟨(((BC _ w).alloc (Aa _) _).alloc Bq _).alloc si _,((Jd.new w _ _ _).alloc _).alloc _,i,j⟩
def FO(a b:G)(m n:Nat)(w:F)(c:RN w a m)(d:RN w b n):
 Calls H 99 #[a,b] w λe f=>e=.returned (.int .i64 (J3 m n))/\I w.heap.size w f:=by
 have h:=EP 10000 Y a b _ _ w c d (Jf Y m) (Jf Y n) (JJ Y m) (JJ Y n);rw[Je Y,Je Y]at h;exact h
def YM(w:F)(a b c:Obj):I w.heap.size w (((w.alloc a).alloc b).alloc c):=
 (((BC _ w).alloc (Aa _) _).alloc Bq _).alloc si _
def FP{m:Nat}(h:n<=m):0<=J3 m n:=by
 rcases AG n m with g|g
 . rw[XJ g];omega
 . have:m=n:=Y
   rw[this,EH];omega
def Hh(a b:MD)(k lb i j m n:Nat)(s:Bool)(w:F)(N:RN w (C a k i) m)(P:RN w (C b lb j) n)(y:(Jb 10000 m).length<=400000000000)(z:(Jb 10000 n).length<=400000000000):
 Calls H 66 #[.agg #[C a k i,E s],.agg #[C b lb j,E s]] w λe l=>∃c r t,e=.returned (.agg #[C c r t,E (s&&decide (0<r))])/\RN l (C c r t) (m+n)/\I w.heap.size w l:=by
 have Q:¬(w.heap.size=w.heap.size+1+1):=Y
 go_enter func66,ntmps66
 go_wp2_with fail
 have f:=YM w (D #[C a k i,E s] 32) (D #[C b lb j,E s] 32) (D #[C none 0 0,E false] 32);have b0:=((Jd.new w 32 (C a k i) (E s)).alloc (D #[C b lb j,E s] 32)).alloc (D #[C none 0 0,E false] 32);have g:=(Jd.new (w.alloc (D #[C a k i,E s] 32)) 32 (C b lb j) (E s)).alloc (D #[C none 0 0,E false] 32);have d:=Jd.new ((w.alloc (D #[C a k i,E s] 32)).alloc (D #[C b lb j,E s] 32)) 32 (C none 0 0) (E false);simp only[BA]at g d;go_region_held3 (λl=>l.cell? ⟨w.heap.size,0,none⟩=some (C a k i)/\l.cell? ⟨w.heap.size+1,0,none⟩=some (C b lb j)/\l.cell? ⟨w.heap.size,1,none⟩=some (E s)) (refine⟨?_,?_,?_⟩<;>(first|(go_keep;done)|((repeat rw[Ju Y]);simp[*];done)))
  (first
   |(go_at_call 98;refine(Hc _ _ m n _ ?_ ?_ y z).mono ?_;exact N.below f.drew;exact P.below f.drew;rintro e R ⟨u,rfl,q,p⟩;obtain⟨v,c',rfl⟩:=q.form;have b0:=b0.drew.below p;have g:=g.drew.below p;have d:=d.drew.below p;have f:=Below.then f.drew p;have B:=b0.c0;have K:=b0.c1;have L:=g.c0)
   |(go_at_call 93;refine(XY _ _ _ _ _).mono ?_;rintro e S ⟨rfl,o⟩;have q:=Row.below q o;have b0:=b0.below o;have g:=g.below o;have d:=d.below o;have f:=Below.then f o;have B:=b0.c0;have K:=b0.c1;have L:=g.c0;have r0:=d.c0;have M:=d.c1;have f0:=d.f0;have f1:=d.f1))
 all_goals go_wp2_with fail
 obtain⟨A,x⟩:=JE (C v (Jb 10000 (m+n)).length c') (E (s&&decide (0<(Jb 10000 (m+n)).length))) f Y d J J q;exact BB (by simp[results,results66,go_sem,r0,M]) J ⟨_,_,_,J,A,x⟩
def Hi(a b:MD)(k lb i j m n:Nat)(s:Bool)(w:F)(B:RN w (C a k i) m)(K:RN w (C b lb j) n)(P:(Jb 10000 m).length<=400000000000)(t:n<=m):
 Calls H 66 #[.agg #[C a k i,E s],.agg #[C b lb j,E (!s)]] w λe l=>∃c v x,e=.returned (.agg #[C c v x,E (s&&decide (0<v))])/\RN l (C c v x) (m-n)/\I w.heap.size w l:=by
 have T:¬(w.heap.size=w.heap.size+1+1):=Y
 have hs:(s == !s)=false:=by cases s<;>rfl
 have S:=FP t;have L:Hid (n<=m):=t;clear t;have f:=YM w (D #[C a k i,E s] 32) (D #[C b lb j,E (!s)] 32) (D #[C none 0 0,E false] 32);have b0:=((Jd.new w 32 (C a k i) (E s)).alloc (D #[C b lb j,E (!s)] 32)).alloc (D #[C none 0 0,E false] 32);have g:=(Jd.new (w.alloc (D #[C a k i,E s] 32)) 32 (C b lb j) (E (!s))).alloc (D #[C none 0 0,E false] 32);have d:=Jd.new ((w.alloc (D #[C a k i,E s] 32)).alloc (D #[C b lb j,E (!s)] 32)) 32 (C none 0 0) (E false);simp only[BA]at g d;go_enter func66,ntmps66
 go_wp2_with(first
  |(go_at_call 99;refine(FO _ _ m n _ ?_ ?_).mono ?_;exact B.below f;exact K.below f;rintro e w0 ⟨rfl,p⟩;have b0:=b0.below p;have g:=g.below p;have d:=d.below p;have f:=Below.then f p;have y:=b0.c0;have z:=b0.c1;have A:=g.c0))
 go_region_held3 (λl=>l.cell? ⟨w.heap.size,0,none⟩=some (C a k i)/\l.cell? ⟨w.heap.size+1,0,none⟩=some (C b lb j)/\l.cell? ⟨w.heap.size,1,none⟩=some (E s)) (refine⟨?_,?_,?_⟩<;>(first|(go_keep;done)|((repeat rw[Ju Y]);simp[*];done)))
  (first
   |(go_at_call 94;refine(Dl _ _ m n _ ?_ ?_ (Cc (Nat.lt_succ_of_le L.out)) P).mono ?_;exact B.below f.drew;exact K.below f.drew;rintro e U ⟨u,rfl,r,q⟩;obtain⟨M,c',rfl⟩:=r.form;have b0:=b0.drew.below q;have g:=g.drew.below q;have d:=d.drew.below q;have f:=Below.then f.drew q;have y:=b0.c0;have z:=b0.c1;have A:=g.c0)
   |(go_at_call 93;refine(XY _ _ _ _ _).mono ?_;rintro e V ⟨rfl,o⟩;have r:=Row.below r o;have b0:=b0.below o;have g:=g.below o;have d:=d.below o;have f:=Below.then f o;have y:=b0.c0;have z:=b0.c1;have A:=g.c0;have r0:=d.c0;have R:=d.c1;have f0:=d.f0;have f1:=d.f1))
 all_goals go_wp2_with fail
 obtain⟨Q,N⟩:=JE (C M (Jb 10000 (m-n)).length c') (E (s&&decide (0<(Jb 10000 (m-n)).length))) f Y d J J r;exact BB (by simp[results,results66,go_sem,r0,R]) J ⟨_,_,_,J,Q,N⟩
def Hj(a b:MD)(k lb i j m n:Nat)(s:Bool)(w:F)(B:RN w (C a k i) m)(K:RN w (C b lb j) n)(P:(Jb 10000 n).length<=400000000000)(t:m<n):
 Calls H 66 #[.agg #[C a k i,E s],.agg #[C b lb j,E (!s)]] w λe l=>∃c v x,e=.returned (.agg #[C c v x,E ((!s)&&decide (0<v))])/\RN l (C c v x) (n-m)/\I w.heap.size w l:=by
 have T:¬(w.heap.size=w.heap.size+1+1):=Y
 have hs:(s == !s)=false:=by cases s<;>rfl
 have S:J3 m n<0:=by rw[YB t];omega
 have L:Hid (m<n):=t;clear t;have g:=YM w (D #[C a k i,E s] 32) (D #[C b lb j,E (!s)] 32) (D #[C none 0 0,E false] 32);have b0:=((Jd.new w 32 (C a k i) (E s)).alloc (D #[C b lb j,E (!s)] 32)).alloc (D #[C none 0 0,E false] 32);have d:=(Jd.new (w.alloc (D #[C a k i,E s] 32)) 32 (C b lb j) (E (!s))).alloc (D #[C none 0 0,E false] 32);have f:=Jd.new ((w.alloc (D #[C a k i,E s] 32)).alloc (D #[C b lb j,E (!s)] 32)) 32 (C none 0 0) (E false);simp only[BA]at d f;go_enter func66,ntmps66
 go_wp2_with(first
  |(go_at_call 99;refine(FO _ _ m n _ ?_ ?_).mono ?_;exact B.below g;exact K.below g;rintro e w0 ⟨rfl,p⟩;have b0:=b0.below p;have d:=d.below p;have f:=f.below p;have g:=Below.then g p;have y:=b0.c0;have z:=d.c1;have A:=d.c0))
 go_region_held3 (λl=>l.cell? ⟨w.heap.size,0,none⟩=some (C a k i)/\l.cell? ⟨w.heap.size+1,0,none⟩=some (C b lb j)/\l.cell? ⟨w.heap.size+1,1,none⟩=some (E (!s))) (refine⟨?_,?_,?_⟩<;>(first|(go_keep;done)|((repeat rw[Ju Y]);simp[*];done)))
  (first
   |(go_at_call 94;refine(Dl _ _ n m _ ?_ ?_ (Cc (Nat.lt_succ_of_le (Nat.le_of_lt L.out))) P).mono ?_;exact K.below g.drew;exact B.below g.drew;rintro e U ⟨u,rfl,r,q⟩;obtain⟨M,c',rfl⟩:=r.form;have b0:=b0.drew.below q;have d:=d.drew.below q;have f:=f.drew.below q;have g:=Below.then g.drew q;have y:=b0.c0;have z:=d.c1;have A:=d.c0)
   |(go_at_call 93;refine(XY _ _ _ _ _).mono ?_;rintro e V ⟨rfl,o⟩;have r:=Row.below r o;have b0:=b0.below o;have d:=d.below o;have f:=f.below o;have g:=Below.then g o;have y:=b0.c0;have z:=d.c1;have A:=d.c0;have r0:=f.c0;have R:=f.c1;have f0:=f.f0;have f1:=f.f1))
 all_goals go_wp2_with fail
 obtain⟨Q,N⟩:=JE (C M (Jb 10000 (n-m)).length c') (E ((!s)&&decide (0<(Jb 10000 (n-m)).length))) g Y f J J r;exact BB (by simp[results,results66,go_sem,r0,R]) J ⟨_,_,_,J,Q,N⟩
def RN.len{a:MD}{l:Nat}(h:RN W (C a l c) n):l=(Jb 10000 n).length:=by
 obtain⟨b,cap,e,_⟩:=h;cases e;rfl
def Dn{d:G}{p q:Bool}(h:p=q):Value.agg #[d,E p]=.agg #[d,E q]:=by rw[h]
def Jl(W:F)(v:G)(z:Int):Prop:=∃a l cap,v=.agg #[C a l cap,E (decide (z<0))]/\RN W (C a l cap) z.natAbs
def Jl.below{W W':F}{v:G}{z:Int}(h:Jl W v z)(b:I W.heap.size W W'):Jl W' v z:=by
 obtain⟨a,l,cap,e,c⟩:=h;exact⟨a,l,cap,e,c.below b⟩
def CZ(z:Int):Nat:=(Jb 10000 z.natAbs).length
def YI:0<(Jb 10000 n).length↔n≠0:=by
 rw[Cy,Ne,Jo Y]
def FQ(s t:G)(x y:Int)(w:F)(z:Jl w s x)(A:Jl w t y)(n:CZ x<=400000000000)(o:CZ y<=400000000000):
 Calls H 66 #[s,t] w λe k=>∃u,e=.returned u/\Jl k u (x+y)/\I w.heap.size w k:=by
 obtain⟨a,p,l,rfl,q⟩:=z;obtain⟨b,lb,m,rfl,r⟩:=A;unfold CZ at n o;by_cases hs:decide (x<0)=decide (y<0)
 . rw[<-hs];refine(Hh a b p lb l m _ _ _ w q r n o).mono ?_;rintro e k ⟨c,j,f,rfl,d,i⟩;have hl:=d.len;have g:x.natAbs+y.natAbs=(x+y).natAbs:=by
    have:(x<0↔y<0):=by simpa using hs
    omega
   rw[g]at d hl;refine⟨_,J,⟨c,j,f,?_,d⟩,i⟩;refine Dn ?_;rw[Cf];simp only[AV,BU];rw[hl,YI]
   have:(x<0↔y<0):=by simpa using hs
   omega
 . have v:decide (y<0)=!decide (x<0):=by
    cases K:decide (x<0)<;>cases L:decide (y<0)<;>simp_all
   have M:¬(x<0↔y<0):=by simpa using hs
   rw[v];by_cases B:y.natAbs<=x.natAbs
   . refine(Hi a b p lb l m _ _ _ w q r n B).mono ?_;rintro e k ⟨c,j,f,rfl,d,i⟩;have hl:=d.len;have g:x.natAbs-y.natAbs=(x+y).natAbs:=Y
     rw[g]at d hl;refine⟨_,J,⟨c,j,f,?_,d⟩,i⟩;refine Dn ?_;rw[Cf];simp only[AV,BU];rw[hl,YI];omega
   . refine(Hj a b p lb l m _ _ _ w q r o Y).mono ?_;rintro e k ⟨c,j,f,rfl,d,i⟩;have hl:=d.len;have g:y.natAbs-x.natAbs=(x+y).natAbs:=Y
     rw[g]at d hl;refine⟨_,J,⟨c,j,f,?_,d⟩,i⟩;refine Dn ?_;rw[Cf];simp only[AV,BU,A5,BZ];rw[hl,YI];omega
def XL(w:F)(a b:Obj):I w.heap.size w ((w.alloc a).alloc b):=
 ((BC _ w).alloc (Aa _) _).alloc Bq _
def Hk(a:MD)(b d m:Nat)(s:Bool)(w:F)(n:RN w (C a b d) m):
 Calls H 62 #[.agg #[C a b d,E s]] w λe i=>e=.returned (.agg #[C a b d,E (!s&&decide (0<b))])/\RN i (C a b d) m/\I w.heap.size w i:=by
 have f:=XL w (D #[C a b d,E s] 32) (D #[C none 0 0,E false] 32);have c:=Jd.new (w.alloc (D #[C a b d,E s] 32)) 32 (C none 0 0) (E false);simp only[BA]at c;go_enter func62,ntmps62
 go_wp2_with(first
  |(go_at_call 93;refine(XY _ _ _ _ _).mono ?_;rintro e o ⟨rfl,g⟩;have c:=c.below g;have f:=Below.then f g;have r0:=c.c0;have l:=c.c1;have f0:=c.f0;have f1:=c.f1))
 obtain⟨k,j⟩:=JE (C a b d) (E (!s&&decide (0<b))) f Y c J J (n.below f);exact BB (by simp[results,results62,go_sem,r0,l]) J ⟨J,k,j⟩
def FR(g:G)(x:Int)(w:F)(j:Jl w g x):
 Calls H 62 #[g] w λe c=>∃u,e=.returned u/\Jl c u (-x)/\I w.heap.size w c:=by
 obtain⟨a,f,d,rfl,k⟩:=j;refine(Hk a f d _ _ w k).mono ?_;rintro e c ⟨rfl,b,i⟩;have hl:=b.len;rw[show x.natAbs=(-x).natAbs from by omega]at b hl;refine⟨_,J,⟨a,f,d,?_,b⟩,i⟩;refine Dn ?_;rw[Cf];simp only[AV,BU,A5,BZ];rw[hl,YI];omega
theorem Do(c:UInt8)(l:List UInt8):(⟨#[c]⟩:ByteArray)++⟨l.toArray⟩=⟨(c::l).toArray⟩:=by
 apply CI;simp[ByteArray.data_append]
def Fqq(c:UInt8)(s:ByteArray):((⟨#[c]⟩:ByteArray)++s).size=1+s.size:=by
 rw[ByteArray.size_append];rfl
def FT(w:F)(n:Nat):(convert 71 9 (C (some ⟨w.heap.size,0,none⟩) 1 1)).run H (w.alloc (D #[.int .u8 (48+(n:Int)%10)] 5))=.ok (.string ⟨#[C6 (n%10)]⟩) (w.alloc (D #[.int .u8 (48+(n:Int)%10)] 5)):=by
 have h:=run_convert_bytes_back (P:=H) (w.alloc (D #[.int .u8 (48+(n:Int)%10)] 5)) 71 9 5 ⟨w.heap.size,0,none⟩ 1 [C6 (n%10)] underlying71 underlying5 underlying9 (by
  intro j b
  have:j=0:=by simp at b;omega
  subst this;have e:(((C6 (n%10)).toNat:Nat):Int)=48+(n:Int)%10:=by
   have a:(C6 (n%10)).toNat=48+n%10:=by
    unfold C6;rw[UInt8.toNat_ofNat'];omega
   rw[a];omega
  simp only[List.getElem_cons_zero,e];go_simp)
 exact h
def Hl(w:F):(convert 71 9 (C (some ⟨w.heap.size,0,none⟩) 1 1)).run H (w.alloc (D #[.int .u8 48] 5))=.ok (.string ⟨#[C6 0]⟩) (w.alloc (D #[.int .u8 48] 5)):=FT w 0
def Hm(a:MD)(l o m:Nat)(s:Bool)(w:F)(Q:RN w (C a l o) m)(A:m≠0)(hl:l<=400000000000):
 Calls H 14 #[.agg #[C a l o,E s]] w λe w'=>e=.returned (.string ⟨(if s then 45::C1 (Jb 10 m)else C1 (Jb 10 m)).toArray⟩)/\I w.heap.size w w':=by
 have U:=Q.len;have aj:l≠0:=by rw[U];have:=(YI (n:=m)).2 A;omega
 obtain⟨a',ae,e0,hle,ag,_,HA⟩:=Row.open Q;have S:=Jf (B:=10000) Y m;have T:Hid (∀i k D,Yn (Jb 10000 m) i k 0 D->i+1=(Jb 10000 m).length->D=Jb 10 m):=λi k D h y=>by
  have:=(h.last y).2.2.2;rw[Je Y]at this;exact this A (JJ Y m)
 have HX:Hid (∀i n D,Yn (Jb 10000 m) i 4 n D->D.length=4*(i+1)/\Br 10 D/\val 10 D=val 10000 ((Jb 10000 m).take (i+1))):=λi n D h=>h.next S;cases e0;clear Q A;generalize Jb 10000 m=ds at *;generalize Jb 10 m=q at *;have ak:((ds.length:Int)==0)=false:=BS.2 Y;clear U;have c:=Jd.new w 32 (C a ds.length o) (E s);go_enter func14,ntmps14
 go_wp2;go_loopw [3,4] (λR M wr=>∃(i:Nat) (D:Ja) (d:ByteArray),M=.int .i64 i/\R=.string d/\i<=ds.length/\d.size<=4*i/\Hid (d=⟨(C1 D).toArray⟩)/\Hid ((i<ds.length/\D.length=4*i/\Br 10 D/\val 10 D=val 10000 (ds.take i))\/(i=ds.length/\D=q))/\Jd wr w.heap.size 32 (C a ds.length o) (E s)/\I w.heap.size w wr)
  (λ_ M _=>ds.length-(intOf M).toNat)
 case atStart=>exact⟨0,[],⟨#[]⟩,J,J,Y,by show 0<=_;omega,J,Aq ⟨Y,J,Br.nil _,by simp[val]⟩,c,(BC _ _).alloc (Aa _) _⟩
 case round=>
  obtain⟨i,D,d,rfl,rfl,hi,K,j,t,c,f⟩:=hrel;have c0:=c.c0;have c1:=c.c1;by_cases ad:i<ds.length
  . obtain⟨b,P,rfl,hb,W⟩:=HA.out i ad;have hq:wr.cell? ⟨b,P+i,none⟩=some (.int .i64 (ds[i]?.getD 0:Nat)):=(f.cell (p:=⟨b,P+i,none⟩) hb).trans W;clear W;have r:Yn ds i 0 (ds[i]?.getD 0) D:=by
     rcases t.out with⟨_,V,y,h3⟩|⟨V,_⟩
     . exact Yn.start V y h3
     . omega
    have g:=Yb r;clear r t;have L:=S.getD Y i;generalize ds[i]?.getD 0=x at hq g L;go_wp2;go_loopw [3,5,6] (λR nv N wr=>∃(k n:Nat) (D:Ja) (d:ByteArray),N=.int .i64 k/\nv=.int .i64 n/\R=.string d/\k<=4/\n<10000/\d.size<=4*i+k/\Hid (d=⟨(C1 D).toArray⟩)/\Hid (Yn ds i k n D)/\Jd wr w.heap.size 32 (C (some ⟨b,P,none⟩) ds.length o) (E s)/\I w.heap.size w wr)
     (λ_ _ N _=>4-(intOf N).toNat)
    case atStart=>exact⟨0,x,D,d,J,J,J,Y,L,Y,j,g,c,f⟩
    case round=>
     clear c c0 c1 f j g hq K L;obtain⟨k,n,D,d,rfl,rfl,rfl,ah,am,K,j,g,c,f⟩:=hrel;have c0:=c.c0;have c1:=c.c1;by_cases X:k<4
     . have ai:(k:Int)<4:=Y
       by_cases aa:0<n
       . have Qd:=FT wr n;go_wp2;refine⟨⟨k+1,n/10,D++[n%10],_,Bq,Bq,J,Y,Y,by rw[Fqq];omega,?_,g.out.step X (Aq aa),c.alloc _,f.alloc f.size _⟩,by simp[intOf];omega⟩;show _=_;rw[j.out,Do,EJ]
       . by_cases z:i+1<ds.length
         . have v:n=0:=Y
           subst v;have Qd:=Hl wr;have Qe:(i:Int)+1<ds.length:=Y
           go_wp2;refine⟨⟨k+1,0/10,D++[0%10],_,Bq,Bq,J,Y,Y,by rw[Fqq];omega,?_,g.out.step X (AK z),c.alloc _,f.alloc f.size _⟩,by simp[intOf];omega⟩;show _=_;rw[j.out,Do,EJ]
         . have v:n=0:=Y
           subst v;have Qe:decide ((i:Int)+1<ds.length)=false:=decide_eq_false Y;have u:=Yb (T.out i k D g.out Y);go_wp2;go_roundw
           case rel=>exact⟨i+1,D,d,Bq,J,Y,Y,j,AK ⟨Y,u.out⟩,c,f⟩
           case measure=>simp[intOf];omega
     . have Qc:k=4:=Y
       subst Qc;have u:Hid ((i+1<ds.length/\D.length=4*(i+1)/\Br 10 D/\val 10 D=val 10000 (ds.take (i+1)))\/(i+1=ds.length/\D=q)):=by
        by_cases z:i+1<ds.length
        . exact Aq ⟨z,HX.out i n D g.out⟩
        . have r:=g.out;have h0:n=0:=by
           have h4:=r.2.2.2.1;rw[h4];exact AC (by have:=S.getD Y i;simpa using this)
          subst h0;exact AK ⟨Y,T.out i 4 D r Y⟩
       go_wp2;go_roundw
       case rel=>exact⟨i+1,D,d,Bq,J,Y,Y,j,u,c,f⟩
       case measure=>simp[intOf];omega
  . have e:d=⟨(C1 q).toArray⟩:=by
     rcases t.out with⟨h,_⟩|⟨_,h⟩
     . omega
     . rw[j.out,h]
    subst e;cases s
    . go_wp2;go_ret;exact⟨J,f⟩
    . have hz:(C1 q).length<=4*i:=K;go_wp2;go_ret;refine⟨?_,f⟩;show Ending.returned (.string (⟨#[45]⟩++⟨(C1 q).toArray⟩))=_;rw[Do]
def Dp(v:G)(z:Int)(w:F)(h:Jl w v z)(hl:CZ z<=400000000000):
 Calls H 14 #[v] w λe g=>e=.returned (.string ⟨(Ya z).toArray⟩)/\I w.heap.size w g:=by
 obtain⟨a,l,cap,rfl,b⟩:=h;by_cases f:z.natAbs=0
 . have i:z=0:=Y
   subst i;have c:=b.len;have j:l=0:=by rw[c];simp[Jn]
   subst j;clear b c hl;go_enter func14,ntmps14
   go_wp2;go_ret;exact⟨J,(BC _ _).alloc (Aa _) _⟩
 . refine(Hm a l cap _ _ w b f (by rw[b.len];exact hl)).mono ?_;rintro e g ⟨rfl,k⟩;refine⟨?_,k⟩;unfold Ya;rw[X8 f];by_cases d:z<0
   . simp[d]
   . simp[d]
def Jd.kept{row:Option Nat}(h:Jd W B t x y)(a:W.grownBy W' row)(b:some B≠row):Jd W' B t x y:=(a.block B h.lt b).trans h
def C9(b c:Nat)(a:Ja):Prop:=Br 10000 a/\val 10000 a+10000^a.length*c=b/\a.length<=100/\(a=[]\/c≠0\/10000^(a.length-1)<=val 10000 a)
theorem C9.step(h:C9 i c f)(j:i<=9223372036854775808)(k:c≠0):C9 i (c/10000) (f++[c%10000]):=by
 obtain⟨a,b,d,e⟩:=h;refine⟨a.append (Br.cons (Ar _ Y) (Br.nil _)),?_,?_,?_⟩
 . grind[JN,AR,AZ,Nat.mod_add_div]
 . grind
 . right
   by_cases g:c/10000=0
   . right
     rw[AM,List.length_singleton,Nat.add_sub_cancel,JN]
     have:c%10000≠0:=Y
     have:=Ai (10000^f.length) (show 1<=c%10000 by omega);omega
   . exact Aq g
theorem C9.done(h:C9 i 0 f):f=Jb 10000 i:=by
 obtain⟨a,b,c,d⟩:=h;rw[AQ,AJ]at b;rw[<-b];refine(Yd Y a (XX Y a ?_)).symm;grind
theorem Yw{wr:F}{e:TypeId}{o:Obj}{D:Int}(d:Nat)(N:D=(d:Nat))(U:w.heap.size<=B)(s:B<i)(p:I w.heap.size w wr)(M:Jd wr B t v y)(P:wr.ownsRow i e 1 v f.length (cellsOf k f))
(A:j.ownsRow i e 1 r (f.length+1) (cellsOf k f++[.int k D]))(u:(wr.alloc o).grownBy j v.ownBlock):
 ∃g n,r=C (some ⟨g,0,none⟩) (f++[d]).length n/\(j.setCell ⟨B,0,none⟩ r).ownsRow i e 1 r (f++[d]).length (cellsOf k (f++[d]))/\Jd j B t v y/\I w.heap.size w j/\i<=j.heap.size/\(∀a c l m,a<i->Jd wr a c l m->Jd j a c l m):=by
 obtain⟨g,n,L⟩:=ownsRow_succ A;subst N;have X:∀q,v.ownBlock=some q->i<=q/\q<wr.heap.size:=λq K=>P.lt q K;have x:∀a c l m,a<i->Jd wr a c l m->Jd j a c l m:=λa c l m h b=>(b.alloc o).kept u (λS=>by grind);have z:j.ownsRow i e 1 r (f++[d]).length (cellsOf k (f++[d])):=by rw[Xg];simpa using A
 refine⟨g,n,by rw[L];simp,ownsRow_setCell_below z s r,x _ _ _ _ s M,?_,?_,x⟩
 . exact(p.alloc p.size _).grown u (by simp;have:=p.size;omega) (λq K=>by grind)
 . rcases z.2 with⟨h,_⟩|⟨T,Q,R,_,W,V,_⟩
   . rw[L]at h;cases h
   grind
def Hn(b:Nat)(hN:b<=9223372036854775807)(w:F):
 Calls H 46 #[.int .i64 b] w λe z=>∃u,e=.returned u/\Jl z u b/\I w.heap.size w z:=by
 obtain⟨X,P,U,V,W⟩:=Bg Tryz.infoInt;have d:=(Jd.new w 32 (C none 0 0) (E false)).alloc (D #[C none 0 0,E false] 32);have i:=Jd.new (w.alloc (D #[C none 0 0,E false] 32)) 32 (C none 0 0) (E false);simp only[BA]at i;have s:=XL w (D #[C none 0 0,E false] 32) (D #[C none 0 0,E false] 32);have p:Hid (∀a,C9 b 0 a->a=Jb 10000 b):=λa h=>h.done;have r:Hid (∀c a,C9 b c a->c≠0->C9 b (c/10000) (a++[c%10000])):=λc a h k=>h.step Y k;go_enter func46,ntmps46
 go_wp2;go_loopw [0] (λn wr=>∃(c:Nat) (a:Ja) (f:MD) (j:Nat),n=.int .i64 c/\c<=b/\a.length<=100/\Hid (C9 b c a)/\Jd wr w.heap.size 32 (C none 0 0) (E false)/\Jd wr (w.heap.size+1) 32 (C f a.length j) (E false)/\wr.ownsRow (w.heap.size+1+1) 3 1 (C f a.length j) a.length (cellsOf .i64 a)/\I w.heap.size w wr/\w.heap.size+1+1<=wr.heap.size)
  (λn _=>(intOf n).toNat)
 case atStart=>exact⟨b,[],none,0,J,Aa _,Bq,⟨Br.nil _,by simp[val],Bq,Aq J⟩,d,i,Bb _ _ _ _,s,Bq⟩
 case round=>
  clear d i s;obtain⟨c,a,f,j,rfl,ad,ae,o,d,i,m,x,ah⟩:=hrel;have c0:=i.c0;have c1:=i.c1;by_cases k:c=0
  . subst k;have e:=p.out a o.out;have r0:=d.c0;have r1:=d.c1;have g0:=d.f0;have g1:=d.f1;clear p r;go_wp2;subst e;obtain⟨S,L⟩:=JE (C f (Jb 10000 b).length j) (E false) x (Aa _) d J J (Row.of_owns m Y);exact BB (v:=.agg #[C f (Jb 10000 b).length j,E false]) (by simp[results,results46,go_sem,r0,r1]) J ⟨_,J,⟨f,_,j,by rw[show decide ((b:Int)<0)=false from decide_eq_false Y],S⟩,L⟩
  . have aa:((c:Int) != 0)=true:=by rw[Bi];omega
    have q:=Yb (r.out c a o.out k);go_wp2_with(first
     |(at_builtin;refine BJ _ J _ _ 30 J (w.heap.size+1+1) 3 X (.int .i64 0) 1 8 underlying30 P U V W J Bz (C f a.length j) a.length (cellsOf .i64 a) J (m.alloc _) ⟨wr.heap.size,0,none⟩ 1 1 [_] J J (BR _ _ _) (by simp[Value.oneCell']) (by unfold maxLen;omega) Y si ?_;intro v' w3 R N ag;obtain⟨g,B,K,y,l,M,T,Q⟩:=Yw (c%10000) Y Y Y x i m R N;have d0:=l.c0;have d1:=l.f0;subst K))
    have A:(a++[c%10000]).length<=100:=q.out.2.2.1;have t:(a++[c%10000]).length=a.length+1:=Bq
    go_roundw
    case rel=>exact⟨c/10000,a++[c%10000],some ⟨g,0,none⟩,B,Bq,Y,A,q,(Q _ _ _ _ Y d).far Bq _,by rw[t];exact l.set0 _,by rw[t]at y ⊢;exact y,M.setCell Bq _,by simpa[World.setCell]using T⟩
    case measure=>simp[intOf];omega
def Ho(c:Nat):(-(c:Int)).tmod 10000=-((c%10000:Nat):Int):=by
 rw[Int.neg_tmod,Int.tmod_eq_emod_of_nonneg Y];rfl
def Hp(c:Nat):(-(c:Int)).tdiv 10000=-((c/10000:Nat):Int):=by
 rw[Int.neg_tdiv,Int.tdiv_eq_ediv_of_nonneg Y];rfl
def Hq(b:Nat)(X:1<=b)(hN:b<=9223372036854775808)(w:F):
 Calls H 46 #[.int .i64 (-(b:Int))] w λe V=>∃u,e=.returned u/\Jl V u (-(b:Int))/\I w.heap.size w V:=by
 have ae:0<b:=X;obtain⟨U,Q,R,S,T⟩:=Bg Tryz.infoInt;have d:=(Jd.new w 32 (C none 0 0) (E false)).alloc (D #[C none 0 0,E true] 32);have i:=Jd.new (w.alloc (D #[C none 0 0,E false] 32)) 32 (C none 0 0) (E true);simp only[BA]at i;have P:=XL w (D #[C none 0 0,E false] 32) (D #[C none 0 0,E true] 32);have M:Hid (∀a,C9 b 0 a->a=Jb 10000 b):=λa h=>h.done;have N:Hid (∀c a,C9 b c a->c≠0->C9 b (c/10000) (a++[c%10000])):=λc a h p=>h.step Y p;go_enter func46,ntmps46
 go_wp2;go_loopw [0] (λK wr=>∃(c:Nat) (a:Ja) (f:MD) (j:Nat),K=.int .i64 (-(c:Int))/\c<=b/\a.length<=100/\Hid (C9 b c a)/\Jd wr w.heap.size 32 (C none 0 0) (E false)/\Jd wr (w.heap.size+1) 32 (C f a.length j) (E true)/\wr.ownsRow (w.heap.size+1+1) 3 1 (C f a.length j) a.length (cellsOf .i64 a)/\I w.heap.size w wr/\w.heap.size+1+1<=wr.heap.size)
  (λK _=>(-(intOf K)).toNat)
 case atStart=>exact⟨b,[],none,0,J,Aa _,Bq,⟨Br.nil _,by simp[val],Bq,Aq J⟩,d,i,Bb _ _ _ _,P,Bq⟩
 case round=>
  clear d i P;obtain⟨c,a,f,j,rfl,ah,ai,L,d,i,n,t,aj⟩:=hrel;have c0:=i.c0;have c1:=i.c1;have ht:=Ho c;have hd:=Hp c;by_cases p:c=0
  . subst p;have e:=M.out a L.out;have r0:=d.c0;have r1:=d.c1;have g0:=d.f0;have g1:=d.f1;clear M N ht hd;go_wp2;subst e;obtain⟨hr,aa⟩:=JE (C f (Jb 10000 b).length j) (E true) t (Aa _) d J J (Row.of_owns n Y);exact BB (v:=.agg #[C f (Jb 10000 b).length j,E true]) (by simp[results,results46,go_sem,r0,r1]) J ⟨_,J,⟨f,_,j,by rw[show decide (-(b:Int)<0)=true from decide_eq_true Y],by rw[CP];exact hr⟩,aa⟩
  . have ag:((-(c:Int)) != 0)=true:=by rw[Bi];omega
    have o:=Yb (N.out c a L.out p);by_cases hm:c%10000=0
    . have W:(c:Int)%10000=0:=Y
      clear hm;go_wp2_with(first
       |(at_builtin;refine BJ _ J _ _ 30 J (w.heap.size+1+1) 3 U (.int .i64 0) 1 8 underlying30 Q R S T J Bz (C f a.length j) a.length (cellsOf .i64 a) J (n.alloc _) ⟨wr.heap.size,0,none⟩ 1 1 [_] J J (BR _ _ _) (by simp[Value.oneCell']) (by unfold maxLen;omega) Y si ?_;intro v' w3 A y ad;obtain⟨g,r,s,m,k,x,B,z⟩:=Yw (c%10000) Y Y Y t i n A y;have d0:=k.c0;have d1:=k.f0;subst s))
      have q:(a++[c%10000]).length<=100:=o.out.2.2.1;have l:(a++[c%10000]).length=a.length+1:=Bq
      go_roundw
      case rel=>exact⟨c/10000,a++[c%10000],some ⟨g,0,none⟩,r,Bq,Y,q,o,(z _ _ _ _ Y d).far Bq _,by rw[l];exact k.set0 _,by rw[l]at m ⊢;exact m,x.setCell Bq _,by simpa[World.setCell]using B⟩
      case measure=>simp[intOf];omega
    . have W:0<(c:Int)%10000:=Y
      go_wp2_with(first
       |(at_builtin;refine BJ _ J _ _ 30 J (w.heap.size+1+1) 3 U (.int .i64 0) 1 8 underlying30 Q R S T J Bz (C f a.length j) a.length (cellsOf .i64 a) J (n.alloc _) ⟨wr.heap.size,0,none⟩ 1 1 [_] J J (BR _ _ _) (by simp[Value.oneCell']) (by unfold maxLen;omega) Y si ?_;intro v' w3 A y ad;obtain⟨g,r,s,m,k,x,B,z⟩:=Yw (c%10000) Y Y Y t i n A y;have d0:=k.c0;have d1:=k.f0;subst s))
      have q:(a++[c%10000]).length<=100:=o.out.2.2.1;have l:(a++[c%10000]).length=a.length+1:=Bq
      go_roundw
      case rel=>exact⟨c/10000,a++[c%10000],some ⟨g,0,none⟩,r,Bq,Y,q,o,(z _ _ _ _ Y d).far Bq _,by rw[l];exact k.set0 _,by rw[l]at m ⊢;exact m,x.setCell Bq _,by simpa[World.setCell]using B⟩
      case measure=>simp[intOf];omega
def ER(n:Int)(b:-9223372036854775808<=n)(c:n<=9223372036854775807)(w:F):
 Calls H 46 #[.int .i64 n] w λe a=>∃u,e=.returned u/\Jl a u n/\I w.heap.size w a:=by
 by_cases h:n<0
 . have e:n=-(n.natAbs:Int):=Y
   rw[e];exact Hq n.natAbs Y Y w
 . have e:n=(n.natAbs:Int):=Y
   rw[e];exact Hn n.natAbs Y w
