import Derived.Test.YtcahodpphikgnaaGreatDoorV02
import Derived.Deep.RegionHeld3
set_option linter.all false
open Go.Value renaming slice->C,bool->E
open Go.Obj renaming cells->D
open Go renaming World->F,Value->G
open Go.Proofs.Tryz renaming prog->H
open Go.RowKit renaming Below->I
set_option maxRecDepth 99999
set_option maxHeartbeats 0
namespace Go.Proofs.YtcahodpphikgnaaGreatDoor
open Proofs.Tryz
open Go.RowKit Go.Shelf
def BQ:=@beq_eq_false_iff_ne
def Jd(W:F)(B:Nat)(t:TypeId)(x y:G):Prop:=W.heap[B]?=some (D #[x,y] t (0,0))
variable{k:IntKind}{f:Ja}{B c i n:Nat}{t:TypeId}{r v x y:G}{W W' j w:F}
def Jd.lt(h:Jd W B t x y):B<W.heap.size:=(Ac.1 h).1
def Jd.c0(h:Jd W B t x y):W.cell? ⟨B,0,none⟩=some x:=by simp[World.cell?,show W.heap[B]?=_ from h]
def Jd.c1(h:Jd W B t x y):W.cell? ⟨B,1,none⟩=some y:=by simp[World.cell?,show W.heap[B]?=_ from h]
def Jd.cp(h:Jd W B t x y):type_of% (And.intro h.c0 h.c1):=⟨h.c0,h.c1⟩
def Jd.f0(h:Jd W B t x y):W.frozen? ⟨B,0,none⟩=false:=by simp[World.frozen?,show W.heap[B]?=_ from h]
def Jd.f1(h:Jd W B t x y):W.frozen? ⟨B,1,none⟩=false:=by simp[World.frozen?,show W.heap[B]?=_ from h]
def Jd.fp(h:Jd W B t x y):type_of% (And.intro h.f0 h.f1):=⟨h.f0,h.f1⟩
def Jd.new(W:F)(t:TypeId)(x y:G):Jd (W.alloc (D #[x,y] t)) W.heap.size t x y:=BD W _
def Jd.below(h:Jd W B t x y)(a:I W.heap.size W W'):Jd W' B t x y:=(a.block B h.lt).trans h
def Jd.alloc{W:F}{B:Nat}{t:TypeId}{x y:G}(h:Jd W B t x y)(o:Obj):Jd (W.alloc o) B t x y:=h.below ((BC _ W).alloc (Aa _) o)
def Jd.drew{W:F}{B:Nat}{t:TypeId}{x y:G}(h:Jd W B t x y):Jd W.drew B t x y:=h
def Jd.set0(h:Jd W B t x y)(u:G):Jd (W.setCell ⟨B,0,none⟩ u) B t u y:=by
 obtain⟨b,a⟩:=Ac.1 h;show(W.heap.modify B _)[B]?=_;rw[Ck (by rw[Array.size_modify];exact b),Array.getElem_modify_self,a];rfl
def Jd.set1(h:Jd W B t x y)(u:G):Jd (W.setCell ⟨B,1,none⟩ u) B t x u:=by
 obtain⟨b,a⟩:=Ac.1 h;show(W.heap.modify B _)[B]?=_;rw[Ck (by rw[Array.size_modify];exact b),Array.getElem_modify_self,a];rfl
def Jd.far(h:Jd W B t x y){p:Addr}(hp:B≠p.block)(u:G):Jd (W.setCell p u) B t x y:=(BT W p u B hp).trans h
def Below.then{w W a:F}(h:I w.heap.size w W)(k:I W.heap.size W a):I w.heap.size w a:=h.trans (k.mono h.size)
def Bt:=@Below.then
theorem Jn{b o a:Nat}{u:G}(h:b≠i):(w.setCell ⟨i,a,none⟩ u).cell? ⟨b,o,none⟩=w.cell? ⟨b,o,none⟩:=
 World.cell?_of_block (w:=w) (BT w ⟨i,a,none⟩ u b h)
def JJ:G->Bool|.int _ _=>false|_=>true
theorem Row.set{k:IntKind}{W:F}{v:G}{ds:Ja}(h:Row k W v ds){p:Addr}{u0:G}(hp:W.cell? p=some u0)(q:JJ u0=true)(u:G):Row k (W.setCell p u) v ds:=by
 obtain⟨a,cap,e,f,g,i,c⟩:=h;refine⟨a,cap,e,f,g,i,?_⟩;rcases c with c|⟨b,m,d,l,n⟩
 . exact Ar c
 . refine AL ⟨b,m,d,l.set p u,λj o=>?_⟩;grind[JJ,World.cell?_setCell_other]
def JH{u0 u1:G}(x0 x1:G){ds:Ja}(b:I w.heap.size w j)(a:w.heap.size<=i)(q:Jd j i t u0 u1)(d:JJ u0=true)(e:JJ u1=true)(c:Row k j v ds):
 Row k ((j.setCell ⟨i,0,none⟩ x0).setCell ⟨i,1,none⟩ x1) v ds/\I w.heap.size w ((j.setCell ⟨i,0,none⟩ x0).setCell ⟨i,1,none⟩ x1):=
 ⟨Row.set (Row.set c q.c0 d _) (u0:=u1) (q.set0 x0).c1 e _,(b.setCell a _).setCell a _⟩
def RN.below{W W':F}{v:G}{n:Nat}(h:RN W v n)(a:I W.heap.size W W'):RN W' v n:=Row.below h a
def RN.form(h:RN W v n):∃a cap,v=C a (Jb 10000 n).length cap:=by
 obtain⟨a,cap,e,_⟩:=h;exact⟨a,cap,e⟩
def Ec{a b c:TypeId}{x1 d f e g:G}(h:((w.alloc (D #[x1,r] a)).alloc (D #[d,f] b)).alloc (D #[e,g] c)=W):I w.heap.size w W/\Jd W w.heap.size a x1 r/\Jd W (w.heap.size+1) b d f/\Jd W (w.heap.size+1+1) c e g:=by
 subst h;have i:=(Jd.new (w.alloc (D #[x1,r] a)) b d f).alloc (D #[e,g] c);have j:=Jd.new ((w.alloc (D #[x1,r] a)).alloc (D #[d,f] b)) c e g;rw[BA]at i;rw[BA,BA]at j;exact⟨(((BC _ w).alloc (Aa _) _).alloc Br _).alloc si _,((Jd.new w _ _ _).alloc _).alloc _,i,j⟩
def Gd(a b:G)(m n:Nat)(w:F)(c:RN w a m)(d:RN w b n):
 Calls H 99 #[a,b] w λe f=>e=.returned (.int .i64 (J6 m n))/\I w.heap.size w f:=by
 have h:=FN 10000 Y a b _ _ w c d (Jf Y m) (Jf Y n) (JM Y m) (JM Y n);rw[Je Y,Je Y]at h;exact h
def YX(w:F)(a b c:Obj):I w.heap.size w (((w.alloc a).alloc b).alloc c):=
 (((BC _ w).alloc (Aa _) _).alloc Br _).alloc si _
def Ge{m:Nat}(h:n<=m):0<=J6 m n:=by
 rcases As n m with g|g
 . rw[XT g];omega
 . have:m=n:=Y
   rw[this,FF];omega
def KS(a b:N8)(k lb i j m n:Nat)(s:Bool)(w:F)(N:RN w (C a k i) m)(P:RN w (C b lb j) n)(y:(Jb 10000 m).length<=400000000000)(z:(Jb 10000 n).length<=400000000000):
 Calls H 66 #[.agg #[C a k i,E s],.agg #[C b lb j,E s]] w λe l=>∃c r t,e=.returned (.agg #[C c r t,E (s&&decide (0<r))])/\RN l (C c r t) (m+n)/\I w.heap.size w l:=by
 have Q:¬(w.heap.size=w.heap.size+1+1):=Y
 go_enter func66,ntmps66
 go_wp2_with fail
 have f:=YX w (D #[C a k i,E s] 32) (D #[C b lb j,E s] 32) (D #[C none 0 0,E false] 32);have b0:=((Jd.new w 32 (C a k i) (E s)).alloc (D #[C b lb j,E s] 32)).alloc (D #[C none 0 0,E false] 32);have g:=(Jd.new (w.alloc (D #[C a k i,E s] 32)) 32 (C b lb j) (E s)).alloc (D #[C none 0 0,E false] 32);have d:=Jd.new ((w.alloc (D #[C a k i,E s] 32)).alloc (D #[C b lb j,E s] 32)) 32 (C none 0 0) (E false);simp only[BA]at g d;go_region_held3 (λl=>l.cell? ⟨w.heap.size,0,none⟩=some (C a k i)/\l.cell? ⟨w.heap.size+1,0,none⟩=some (C b lb j)/\l.cell? ⟨w.heap.size,1,none⟩=some (E s)) (refine⟨?_,?_,?_⟩<;>(first|(go_keep;done)|((repeat rw[Jn Y]);simp[*];done)))
  (first
   |(go_at_call 98;refine(KN _ _ m n _ ?_ ?_ y z).mono ?_;exact N.below f.drew;exact P.below f.drew;rintro e R ⟨u,rfl,q,p⟩;obtain⟨v,c',rfl⟩:=q.form;have b0:=b0.drew.below p;have g:=g.drew.below p;have d:=d.drew.below p;have f:=Below.then f.drew p;have B:=b0.c0;have K:=b0.c1;have L:=g.c0)
   |(go_at_call 93;refine(Dj _ _ _ _ _).mono ?_;rintro e S ⟨rfl,o⟩;have q:=Row.below q o;have b0:=b0.below o;have g:=g.below o;have d:=d.below o;have f:=Below.then f o;have B:=b0.c0;have K:=b0.c1;have L:=g.c0;have r0:=d.c0;have M:=d.c1;have f0:=d.f0;have f1:=d.f1))
 all_goals go_wp2_with fail
 obtain⟨A,x⟩:=JH (C v (Jb 10000 (m+n)).length c') (E (s&&decide (0<(Jb 10000 (m+n)).length))) f Y d J J q;exact BB (by simp[results,results66,go_sem,r0,M]) J ⟨_,_,_,J,A,x⟩
def KT(a b:N8)(k lb i j m n:Nat)(s:Bool)(w:F)(B:RN w (C a k i) m)(K:RN w (C b lb j) n)(P:(Jb 10000 m).length<=400000000000)(t:n<=m):
 Calls H 66 #[.agg #[C a k i,E s],.agg #[C b lb j,E (!s)]] w λe l=>∃c v x,e=.returned (.agg #[C c v x,E (s&&decide (0<v))])/\RN l (C c v x) (m-n)/\I w.heap.size w l:=by
 have T:¬(w.heap.size=w.heap.size+1+1):=Y
 have hs:(s == !s)=false:=by cases s<;>rfl
 have S:=Ge t;have L:Hid (n<=m):=t;clear t;have f:=YX w (D #[C a k i,E s] 32) (D #[C b lb j,E (!s)] 32) (D #[C none 0 0,E false] 32);have b0:=((Jd.new w 32 (C a k i) (E s)).alloc (D #[C b lb j,E (!s)] 32)).alloc (D #[C none 0 0,E false] 32);have g:=(Jd.new (w.alloc (D #[C a k i,E s] 32)) 32 (C b lb j) (E (!s))).alloc (D #[C none 0 0,E false] 32);have d:=Jd.new ((w.alloc (D #[C a k i,E s] 32)).alloc (D #[C b lb j,E (!s)] 32)) 32 (C none 0 0) (E false);simp only[BA]at g d;go_enter func66,ntmps66
 go_wp2_with(first
  |(go_at_call 99;refine(Gd _ _ m n _ ?_ ?_).mono ?_;exact B.below f;exact K.below f;rintro e w0 ⟨rfl,p⟩;have b0:=b0.below p;have g:=g.below p;have d:=d.below p;have f:=Below.then f p;have y:=b0.c0;have z:=b0.c1;have A:=g.c0))
 go_region_held3 (λl=>l.cell? ⟨w.heap.size,0,none⟩=some (C a k i)/\l.cell? ⟨w.heap.size+1,0,none⟩=some (C b lb j)/\l.cell? ⟨w.heap.size,1,none⟩=some (E s)) (refine⟨?_,?_,?_⟩<;>(first|(go_keep;done)|((repeat rw[Jn Y]);simp[*];done)))
  (first
   |(go_at_call 94;refine(Eb _ _ m n _ ?_ ?_ (Cf (Nat.lt_succ_of_le L.out)) P).mono ?_;exact B.below f.drew;exact K.below f.drew;rintro e U ⟨u,rfl,r,q⟩;obtain⟨M,c',rfl⟩:=r.form;have b0:=b0.drew.below q;have g:=g.drew.below q;have d:=d.drew.below q;have f:=Below.then f.drew q;have y:=b0.c0;have z:=b0.c1;have A:=g.c0)
   |(go_at_call 93;refine(Dj _ _ _ _ _).mono ?_;rintro e V ⟨rfl,o⟩;have r:=Row.below r o;have b0:=b0.below o;have g:=g.below o;have d:=d.below o;have f:=Below.then f o;have y:=b0.c0;have z:=b0.c1;have A:=g.c0;have r0:=d.c0;have R:=d.c1;have f0:=d.f0;have f1:=d.f1))
 all_goals go_wp2_with fail
 obtain⟨Q,N⟩:=JH (C M (Jb 10000 (m-n)).length c') (E (s&&decide (0<(Jb 10000 (m-n)).length))) f Y d J J r;exact BB (by simp[results,results66,go_sem,r0,R]) J ⟨_,_,_,J,Q,N⟩
def KU(a b:N8)(k lb i j m n:Nat)(s:Bool)(w:F)(B:RN w (C a k i) m)(K:RN w (C b lb j) n)(P:(Jb 10000 n).length<=400000000000)(t:m<n):
 Calls H 66 #[.agg #[C a k i,E s],.agg #[C b lb j,E (!s)]] w λe l=>∃c v x,e=.returned (.agg #[C c v x,E ((!s)&&decide (0<v))])/\RN l (C c v x) (n-m)/\I w.heap.size w l:=by
 have T:¬(w.heap.size=w.heap.size+1+1):=Y
 have hs:(s == !s)=false:=by cases s<;>rfl
 have S:J6 m n<0:=by rw[YM t];omega
 have L:Hid (m<n):=t;clear t;have g:=YX w (D #[C a k i,E s] 32) (D #[C b lb j,E (!s)] 32) (D #[C none 0 0,E false] 32);have b0:=((Jd.new w 32 (C a k i) (E s)).alloc (D #[C b lb j,E (!s)] 32)).alloc (D #[C none 0 0,E false] 32);have d:=(Jd.new (w.alloc (D #[C a k i,E s] 32)) 32 (C b lb j) (E (!s))).alloc (D #[C none 0 0,E false] 32);have f:=Jd.new ((w.alloc (D #[C a k i,E s] 32)).alloc (D #[C b lb j,E (!s)] 32)) 32 (C none 0 0) (E false);simp only[BA]at d f;go_enter func66,ntmps66
 go_wp2_with(first
  |(go_at_call 99;refine(Gd _ _ m n _ ?_ ?_).mono ?_;exact B.below g;exact K.below g;rintro e w0 ⟨rfl,p⟩;have b0:=b0.below p;have d:=d.below p;have f:=f.below p;have g:=Below.then g p;have y:=b0.c0;have z:=d.c1;have A:=d.c0))
 go_region_held3 (λl=>l.cell? ⟨w.heap.size,0,none⟩=some (C a k i)/\l.cell? ⟨w.heap.size+1,0,none⟩=some (C b lb j)/\l.cell? ⟨w.heap.size+1,1,none⟩=some (E (!s))) (refine⟨?_,?_,?_⟩<;>(first|(go_keep;done)|((repeat rw[Jn Y]);simp[*];done)))
  (first
   |(go_at_call 94;refine(Eb _ _ n m _ ?_ ?_ (Cf (Nat.lt_succ_of_le (Nat.le_of_lt L.out))) P).mono ?_;exact K.below g.drew;exact B.below g.drew;rintro e U ⟨u,rfl,r,q⟩;obtain⟨M,c',rfl⟩:=r.form;have b0:=b0.drew.below q;have d:=d.drew.below q;have f:=f.drew.below q;have g:=Below.then g.drew q;have y:=b0.c0;have z:=d.c1;have A:=d.c0)
   |(go_at_call 93;refine(Dj _ _ _ _ _).mono ?_;rintro e V ⟨rfl,o⟩;have r:=Row.below r o;have b0:=b0.below o;have d:=d.below o;have f:=f.below o;have g:=Below.then g o;have y:=b0.c0;have z:=d.c1;have A:=d.c0;have r0:=f.c0;have R:=f.c1;have f0:=f.f0;have f1:=f.f1))
 all_goals go_wp2_with fail
 obtain⟨Q,N⟩:=JH (C M (Jb 10000 (n-m)).length c') (E ((!s)&&decide (0<(Jb 10000 (n-m)).length))) g Y f J J r;exact BB (by simp[results,results66,go_sem,r0,R]) J ⟨_,_,_,J,Q,N⟩
def RN.len{a:N8}{l:Nat}(h:RN W (C a l c) n):l=(Jb 10000 n).length:=by
 obtain⟨b,cap,e,_⟩:=h;cases e;rfl
def Ed{d:G}{p q:Bool}(h:p=q):Value.agg #[d,E p]=.agg #[d,E q]:=by rw[h]
def Jk(W:F)(v:G)(z:Int):Prop:=∃a l cap,v=.agg #[C a l cap,E (decide (z<0))]/\RN W (C a l cap) z.natAbs
def Jk.below{W W':F}{v:G}{z:Int}(h:Jk W v z)(b:I W.heap.size W W'):Jk W' v z:=by
 obtain⟨a,l,cap,e,c⟩:=h;exact⟨a,l,cap,e,c.below b⟩
def C8(z:Int):Nat:=(Jb 10000 z.natAbs).length
def YT:0<(Jb 10000 n).length↔n≠0:=by
 rw[Cz,Ne,Js Y]
def FP(s t:G)(x y:Int)(w:F)(z:Jk w s x)(A:Jk w t y)(n:C8 x<=400000000000)(o:C8 y<=400000000000):
 Calls H 66 #[s,t] w λe k=>∃u,e=.returned u/\Jk k u (x+y)/\I w.heap.size w k:=by
 obtain⟨a,p,l,rfl,q⟩:=z;obtain⟨b,lb,m,rfl,r⟩:=A;unfold C8 at n o;by_cases hs:decide (x<0)=decide (y<0)
 . rw[<-hs];refine(KS a b p lb l m _ _ _ w q r n o).mono ?_;rintro e k ⟨c,j,f,rfl,d,i⟩;have hl:=d.len;have g:x.natAbs+y.natAbs=(x+y).natAbs:=by
    have:(x<0↔y<0):=by simpa using hs
    omega
   rw[g]at d hl;refine⟨_,J,⟨c,j,f,?_,d⟩,i⟩;refine Ed ?_;rw[Cb];simp only[AP,BS];rw[hl,YT]
   have:(x<0↔y<0):=by simpa using hs
   omega
 . have v:decide (y<0)=!decide (x<0):=by
    cases K:decide (x<0)<;>cases L:decide (y<0)<;>simp_all
   have M:¬(x<0↔y<0):=by simpa using hs
   rw[v];by_cases B:y.natAbs<=x.natAbs
   . refine(KT a b p lb l m _ _ _ w q r n B).mono ?_;rintro e k ⟨c,j,f,rfl,d,i⟩;have hl:=d.len;have g:x.natAbs-y.natAbs=(x+y).natAbs:=Y
     rw[g]at d hl;refine⟨_,J,⟨c,j,f,?_,d⟩,i⟩;refine Ed ?_;rw[Cb];simp only[AP,BS];rw[hl,YT];omega
   . refine(KU a b p lb l m _ _ _ w q r o Y).mono ?_;rintro e k ⟨c,j,f,rfl,d,i⟩;have hl:=d.len;have g:y.natAbs-x.natAbs=(x+y).natAbs:=Y
     rw[g]at d hl;refine⟨_,J,⟨c,j,f,?_,d⟩,i⟩;refine Ed ?_;rw[Cb];simp only[AP,BS,A7,Bc];rw[hl,YT];omega
def Xu(w:F)(a b:Obj):I w.heap.size w ((w.alloc a).alloc b):=
 ((BC _ w).alloc (Aa _) _).alloc Br _
def KV(a:N8)(b d m:Nat)(s:Bool)(w:F)(n:RN w (C a b d) m):
 Calls H 62 #[.agg #[C a b d,E s]] w λe i=>e=.returned (.agg #[C a b d,E (!s&&decide (0<b))])/\RN i (C a b d) m/\I w.heap.size w i:=by
 have f:=Xu w (D #[C a b d,E s] 32) (D #[C none 0 0,E false] 32);have c:=Jd.new (w.alloc (D #[C a b d,E s] 32)) 32 (C none 0 0) (E false);simp only[BA]at c;go_enter func62,ntmps62
 go_wp2_with(first
  |(go_at_call 93;refine(Dj _ _ _ _ _).mono ?_;rintro e o ⟨rfl,g⟩;have c:=c.below g;have f:=Below.then f g;have r0:=c.c0;have l:=c.c1;have f0:=c.f0;have f1:=c.f1))
 obtain⟨k,j⟩:=JH (C a b d) (E (!s&&decide (0<b))) f Y c J J (n.below f);exact BB (by simp[results,results62,go_sem,r0,l]) J ⟨J,k,j⟩
def FQ(g:G)(x:Int)(w:F)(j:Jk w g x):
 Calls H 62 #[g] w λe c=>∃u,e=.returned u/\Jk c u (-x)/\I w.heap.size w c:=by
 obtain⟨a,f,d,rfl,k⟩:=j;refine(KV a f d _ _ w k).mono ?_;rintro e c ⟨rfl,b,i⟩;have hl:=b.len;rw[show x.natAbs=(-x).natAbs from by omega]at b hl;refine⟨_,J,⟨a,f,d,?_,b⟩,i⟩;refine Ed ?_;rw[Cb];simp only[AP,BS,A7,Bc];rw[hl,YT];omega
theorem Ee(c:UInt8)(l:List UInt8):(⟨#[c]⟩:ByteArray)++⟨l.toArray⟩=⟨(c::l).toArray⟩:=by
 apply CL;simp[ByteArray.data_append]
def Gf(c:UInt8)(s:ByteArray):((⟨#[c]⟩:ByteArray)++s).size=1+s.size:=by
 rw[ByteArray.size_append];rfl
def Gg(w:F)(n:Nat):(convert 71 9 (C (some ⟨w.heap.size,0,none⟩) 1 1)).run H (w.alloc (D #[.int .u8 (48+(n:Int)%10)] 5))=.ok (.string ⟨#[DG (n%10)]⟩) (w.alloc (D #[.int .u8 (48+(n:Int)%10)] 5)):=by
 have h:=run_convert_bytes_back (P:=H) (w.alloc (D #[.int .u8 (48+(n:Int)%10)] 5)) 71 9 5 ⟨w.heap.size,0,none⟩ 1 [DG (n%10)] underlying71 underlying5 underlying9 (by
  intro j b
  have:j=0:=by simp at b;omega
  subst this;have e:(((DG (n%10)).toNat:Nat):Int)=48+(n:Int)%10:=by
   have a:(DG (n%10)).toNat=48+n%10:=by
    unfold DG;rw[UInt8.toNat_ofNat'];omega
   rw[a];omega
  simp only[List.getElem_cons_zero,e];go_simp)
 exact h
def KW(w:F):(convert 71 9 (C (some ⟨w.heap.size,0,none⟩) 1 1)).run H (w.alloc (D #[.int .u8 48] 5))=.ok (.string ⟨#[DG 0]⟩) (w.alloc (D #[.int .u8 48] 5)):=Gg w 0
def KX(a:N8)(l o m:Nat)(s:Bool)(w:F)(Q:RN w (C a l o) m)(A:m≠0)(hl:l<=400000000000):
 Calls H 14 #[.agg #[C a l o,E s]] w λe w'=>e=.returned (.string ⟨(if s then 45::DA (Jb 10 m)else DA (Jb 10 m)).toArray⟩)/\I w.heap.size w w':=by
 have U:=Q.len;have ak:l≠0:=by rw[U];have:=(YT (n:=m)).2 A;omega
 obtain⟨a',ae,e0,hle,ah,_,HA⟩:=Row.open Q;have S:=Jf (B:=10000) Y m;have T:Hid (∀i k D,Yx (Jb 10000 m) i k 0 D->i+1=(Jb 10000 m).length->D=Jb 10 m):=λi k D h y=>by
  have:=(h.last y).2.2.2;rw[Je Y]at this;exact this A (JM Y m)
 have HX:Hid (∀i n D,Yx (Jb 10000 m) i 4 n D->D.length=4*(i+1)/\Bs 10 D/\val 10 D=val 10000 ((Jb 10000 m).take (i+1))):=λi n D h=>h.next S;cases e0;clear Q A;generalize Jb 10000 m=ds at *;generalize Jb 10 m=q at *;have am:((ds.length:Int)==0)=false:=BQ.2 Y;clear U;have c:=Jd.new w 32 (C a ds.length o) (E s);go_enter func14,ntmps14
 go_wp2;go_loopw [3,4] (λR M wr=>∃(i:Nat) (D:Ja) (d:ByteArray),M=.int .i64 i/\R=.string d/\i<=ds.length/\d.size<=4*i/\Hid (d=⟨(DA D).toArray⟩)/\Hid ((i<ds.length/\D.length=4*i/\Bs 10 D/\val 10 D=val 10000 (ds.take i))\/(i=ds.length/\D=q))/\Jd wr w.heap.size 32 (C a ds.length o) (E s)/\I w.heap.size w wr)
  (λ_ M _=>ds.length-(intOf M).toNat)
 case atStart=>exact⟨0,[],⟨#[]⟩,J,J,Y,by show 0<=_;omega,J,Ar ⟨Y,J,Bs.nil _,by simp[val]⟩,c,(BC _ _).alloc (Aa _) _⟩
 case round=>
  obtain⟨i,D,d,rfl,rfl,hi,K,j,t,c,f⟩:=hrel;have c0:=c.c0;have c1:=c.c1;by_cases ad:i<ds.length
  . obtain⟨b,P,rfl,hb,W⟩:=HA.out i ad;have hq:wr.cell? ⟨b,P+i,none⟩=some (.int .i64 (ds[i]?.getD 0:Nat)):=(f.cell (p:=⟨b,P+i,none⟩) hb).trans W;clear W;have r:Yx ds i 0 (ds[i]?.getD 0) D:=by
     rcases t.out with⟨_,V,y,h3⟩|⟨V,_⟩
     . exact Yx.start V y h3
     . omega
    have g:=Yi r;clear r t;have L:=S.getD Y i;generalize ds[i]?.getD 0=x at hq g L;go_wp2;go_loopw [3,5,6] (λR nv N wr=>∃(k n:Nat) (D:Ja) (d:ByteArray),N=.int .i64 k/\nv=.int .i64 n/\R=.string d/\k<=4/\n<10000/\d.size<=4*i+k/\Hid (d=⟨(DA D).toArray⟩)/\Hid (Yx ds i k n D)/\Jd wr w.heap.size 32 (C (some ⟨b,P,none⟩) ds.length o) (E s)/\I w.heap.size w wr)
     (λ_ _ N _=>4-(intOf N).toNat)
    case atStart=>exact⟨0,x,D,d,J,J,J,Y,L,Y,j,g,c,f⟩
    case round=>
     clear c c0 c1 f j g hq K L;obtain⟨k,n,D,d,rfl,rfl,rfl,ai,an,K,j,g,c,f⟩:=hrel;have c0:=c.c0;have c1:=c.c1;by_cases X:k<4
     . have aj:(k:Int)<4:=Y
       by_cases aa:0<n
       . have Qd:=Gg wr n;go_wp2;refine⟨⟨k+1,n/10,D++[n%10],_,Br,Br,J,Y,Y,by rw[Gf];omega,?_,g.out.step X (Ar aa),c.alloc _,f.alloc f.size _⟩,by simp[intOf];omega⟩;show _=_;rw[j.out,Ee,FH]
       . by_cases z:i+1<ds.length
         . have v:n=0:=Y
           subst v;have Qd:=KW wr;have Qe:(i:Int)+1<ds.length:=Y
           go_wp2;refine⟨⟨k+1,0/10,D++[0%10],_,Br,Br,J,Y,Y,by rw[Gf];omega,?_,g.out.step X (AL z),c.alloc _,f.alloc f.size _⟩,by simp[intOf];omega⟩;show _=_;rw[j.out,Ee,FH]
         . have v:n=0:=Y
           subst v;have Qe:decide ((i:Int)+1<ds.length)=false:=decide_eq_false Y;have u:=Yi (T.out i k D g.out Y);go_wp2;go_roundw
           case rel=>exact⟨i+1,D,d,Br,J,Y,Y,j,AL ⟨Y,u.out⟩,c,f⟩
           case measure=>simp[intOf];omega
     . have Qc:k=4:=Y
       subst Qc;have u:Hid ((i+1<ds.length/\D.length=4*(i+1)/\Bs 10 D/\val 10 D=val 10000 (ds.take (i+1)))\/(i+1=ds.length/\D=q)):=by
        by_cases z:i+1<ds.length
        . exact Ar ⟨z,HX.out i n D g.out⟩
        . have r:=g.out;have h0:n=0:=by
           have h4:=r.2.2.2.1;rw[h4];exact AE (by have:=S.getD Y i;simpa using this)
          subst h0;exact AL ⟨Y,T.out i 4 D r Y⟩
       go_wp2;go_roundw
       case rel=>exact⟨i+1,D,d,Br,J,Y,Y,j,u,c,f⟩
       case measure=>simp[intOf];omega
  . have e:d=⟨(DA q).toArray⟩:=by
     rcases t.out with⟨h,_⟩|⟨_,h⟩
     . omega
     . rw[j.out,h]
    subst e;cases s
    . go_wp2;go_ret;exact⟨J,f⟩
    . have hz:(DA q).length<=4*i:=K;go_wp2;go_ret;refine⟨?_,f⟩;show Ending.returned (.string (⟨#[45]⟩++⟨(DA q).toArray⟩))=_;rw[Ee]
def Ef(v:G)(z:Int)(w:F)(h:Jk w v z)(hl:C8 z<=400000000000):
 Calls H 14 #[v] w λe g=>e=.returned (.string ⟨(Yg z).toArray⟩)/\I w.heap.size w g:=by
 obtain⟨a,l,cap,rfl,b⟩:=h;by_cases f:z.natAbs=0
 . have i:z=0:=Y
   subst i;have c:=b.len;have j:l=0:=by rw[c];simp[Jq]
   subst j;clear b c hl;go_enter func14,ntmps14
   go_wp2;go_ret;exact⟨J,(BC _ _).alloc (Aa _) _⟩
 . refine(KX a l cap _ _ w b f (by rw[b.len];exact hl)).mono ?_;rintro e g ⟨rfl,k⟩;refine⟨?_,k⟩;unfold Yg;rw[EY f];by_cases d:z<0
   . simp[d]
   . simp[d]
def Jd.kept{row:Option Nat}(h:Jd W B t x y)(a:W.grownBy W' row)(b:some B≠row):Jd W' B t x y:=(a.block B h.lt b).trans h
def DK(b c:Nat)(a:Ja):Prop:=Bs 10000 a/\val 10000 a+10000^a.length*c=b/\a.length<=100/\(a=[]\/c≠0\/10000^(a.length-1)<=val 10000 a)
theorem DK.step(h:DK i c f)(j:i<=9223372036854775808)(k:c≠0):DK i (c/10000) (f++[c%10000]):=by
 obtain⟨a,b,d,e⟩:=h;refine⟨a.append (Bs.cons (At _ Y) (Bs.nil _)),?_,?_,?_⟩
 . grind[JP,AV,A0,Nat.mod_add_div]
 . grind
 . right
   by_cases g:c/10000=0
   . right
     rw[AN,List.length_singleton,Nat.add_sub_cancel,JP]
     have:c%10000≠0:=Y
     have:=Ai (10000^f.length) (show 1<=c%10000 by omega);omega
   . exact Ar g
theorem DK.done(h:DK i 0 f):f=Jb 10000 i:=by
 obtain⟨a,b,c,d⟩:=h;rw[AU,AK]at b;rw[<-b];refine(Yk Y a (X9 Y a ?_)).symm;grind
theorem YH{wr:F}{e:TypeId}{o:Obj}{D:Int}(d:Nat)(N:D=(d:Nat))(U:w.heap.size<=B)(s:B<i)(p:I w.heap.size w wr)(M:Jd wr B t v y)(P:wr.ownsRow i e 1 v f.length (cellsOf k f))
(A:j.ownsRow i e 1 r (f.length+1) (cellsOf k f++[.int k D]))(u:(wr.alloc o).grownBy j v.ownBlock):
 ∃g n,r=C (some ⟨g,0,none⟩) (f++[d]).length n/\(j.setCell ⟨B,0,none⟩ r).ownsRow i e 1 r (f++[d]).length (cellsOf k (f++[d]))/\Jd j B t v y/\I w.heap.size w j/\i<=j.heap.size/\(∀a c l m,a<i->Jd wr a c l m->Jd j a c l m):=by
 obtain⟨g,n,L⟩:=ownsRow_succ A;subst N;have X:∀q,v.ownBlock=some q->i<=q/\q<wr.heap.size:=λq K=>P.lt q K;have x:∀a c l m,a<i->Jd wr a c l m->Jd j a c l m:=λa c l m h b=>(b.alloc o).kept u (λS=>by grind);have z:j.ownsRow i e 1 r (f++[d]).length (cellsOf k (f++[d])):=by rw[Xt];simpa using A
 refine⟨g,n,by rw[L];simp,ownsRow_setCell_below z s r,x _ _ _ _ s M,?_,?_,x⟩
 . exact(p.alloc p.size _).grown u (by simp;have:=p.size;omega) (λq K=>by grind)
 . rcases z.2 with⟨h,_⟩|⟨T,Q,R,_,W,V,_⟩
   . rw[L]at h;cases h
   grind
def KY(b:Nat)(hN:b<=9223372036854775807)(w:F):
 Calls H 46 #[.int .i64 b] w λe z=>∃u,e=.returned u/\Jk z u b/\I w.heap.size w z:=by
 obtain⟨X,P,U,V,W⟩:=Bg Tryz.infoInt;have d:=(Jd.new w 32 (C none 0 0) (E false)).alloc (D #[C none 0 0,E false] 32);have i:=Jd.new (w.alloc (D #[C none 0 0,E false] 32)) 32 (C none 0 0) (E false);simp only[BA]at i;have s:=Xu w (D #[C none 0 0,E false] 32) (D #[C none 0 0,E false] 32);have p:Hid (∀a,DK b 0 a->a=Jb 10000 b):=λa h=>h.done;have r:Hid (∀c a,DK b c a->c≠0->DK b (c/10000) (a++[c%10000])):=λc a h k=>h.step Y k;go_enter func46,ntmps46
 go_wp2;go_loopw [0] (λn wr=>∃(c:Nat) (a:Ja) (f:N8) (j:Nat),n=.int .i64 c/\c<=b/\a.length<=100/\Hid (DK b c a)/\Jd wr w.heap.size 32 (C none 0 0) (E false)/\Jd wr (w.heap.size+1) 32 (C f a.length j) (E false)/\wr.ownsRow (w.heap.size+1+1) 3 1 (C f a.length j) a.length (cellsOf .i64 a)/\I w.heap.size w wr/\w.heap.size+1+1<=wr.heap.size)
  (λn _=>(intOf n).toNat)
 case atStart=>exact⟨b,[],none,0,J,Aa _,Br,⟨Bs.nil _,by simp[val],Br,Ar J⟩,d,i,Bd _ _ _ _,s,Br⟩
 case round=>
  clear d i s;obtain⟨c,a,f,j,rfl,ad,ae,o,d,i,m,x,ai⟩:=hrel;have c0:=i.c0;have c1:=i.c1;by_cases k:c=0
  . subst k;have e:=p.out a o.out;have r0:=d.c0;have r1:=d.c1;have g0:=d.f0;have g1:=d.f1;clear p r;go_wp2;subst e;obtain⟨S,L⟩:=JH (C f (Jb 10000 b).length j) (E false) x (Aa _) d J J (Row.of_owns m Y);exact BB (v:=.agg #[C f (Jb 10000 b).length j,E false]) (by simp[results,results46,go_sem,r0,r1]) J ⟨_,J,⟨f,_,j,by rw[show decide ((b:Int)<0)=false from decide_eq_false Y],S⟩,L⟩
  . have aa:((c:Int) != 0)=true:=by rw[Bi];omega
    have q:=Yi (r.out c a o.out k);go_wp2_with(first
     |(at_builtin;refine BJ _ J _ _ 30 J (w.heap.size+1+1) 3 X (.int .i64 0) 1 8 underlying30 P U V W J Bw (C f a.length j) a.length (cellsOf .i64 a) J (m.alloc _) ⟨wr.heap.size,0,none⟩ 1 1 [_] J J (BU _ _ _) (by simp[Value.oneCell']) (by unfold maxLen;omega) Y si ?_;intro v' w3 R N ah;obtain⟨g,B,K,y,l,M,T,Q⟩:=YH (c%10000) Y Y Y x i m R N;have d0:=l.c0;have d1:=l.f0;subst K))
    have A:(a++[c%10000]).length<=100:=q.out.2.2.1;have t:(a++[c%10000]).length=a.length+1:=Br
    go_roundw
    case rel=>exact⟨c/10000,a++[c%10000],some ⟨g,0,none⟩,B,Br,Y,A,q,(Q _ _ _ _ Y d).far Br _,by rw[t];exact l.set0 _,by rw[t]at y ⊢;exact y,M.setCell Br _,by simpa[World.setCell]using T⟩
    case measure=>simp[intOf];omega
def KZ(c:Nat):(-(c:Int)).tmod 10000=-((c%10000:Nat):Int):=by
 rw[Int.neg_tmod,Int.tmod_eq_emod_of_nonneg Y];rfl
def Ka(c:Nat):(-(c:Int)).tdiv 10000=-((c/10000:Nat):Int):=by
 rw[Int.neg_tdiv,Int.tdiv_eq_ediv_of_nonneg Y];rfl
def Kb(b:Nat)(X:1<=b)(hN:b<=9223372036854775808)(w:F):
 Calls H 46 #[.int .i64 (-(b:Int))] w λe V=>∃u,e=.returned u/\Jk V u (-(b:Int))/\I w.heap.size w V:=by
 have ae:0<b:=X;obtain⟨U,Q,R,S,T⟩:=Bg Tryz.infoInt;have d:=(Jd.new w 32 (C none 0 0) (E false)).alloc (D #[C none 0 0,E true] 32);have i:=Jd.new (w.alloc (D #[C none 0 0,E false] 32)) 32 (C none 0 0) (E true);simp only[BA]at i;have P:=Xu w (D #[C none 0 0,E false] 32) (D #[C none 0 0,E true] 32);have M:Hid (∀a,DK b 0 a->a=Jb 10000 b):=λa h=>h.done;have N:Hid (∀c a,DK b c a->c≠0->DK b (c/10000) (a++[c%10000])):=λc a h p=>h.step Y p;go_enter func46,ntmps46
 go_wp2;go_loopw [0] (λK wr=>∃(c:Nat) (a:Ja) (f:N8) (j:Nat),K=.int .i64 (-(c:Int))/\c<=b/\a.length<=100/\Hid (DK b c a)/\Jd wr w.heap.size 32 (C none 0 0) (E false)/\Jd wr (w.heap.size+1) 32 (C f a.length j) (E true)/\wr.ownsRow (w.heap.size+1+1) 3 1 (C f a.length j) a.length (cellsOf .i64 a)/\I w.heap.size w wr/\w.heap.size+1+1<=wr.heap.size)
  (λK _=>(-(intOf K)).toNat)
 case atStart=>exact⟨b,[],none,0,J,Aa _,Br,⟨Bs.nil _,by simp[val],Br,Ar J⟩,d,i,Bd _ _ _ _,P,Br⟩
 case round=>
  clear d i P;obtain⟨c,a,f,j,rfl,ai,aj,L,d,i,n,t,ak⟩:=hrel;have c0:=i.c0;have c1:=i.c1;have ht:=KZ c;have hd:=Ka c;by_cases p:c=0
  . subst p;have e:=M.out a L.out;have r0:=d.c0;have r1:=d.c1;have g0:=d.f0;have g1:=d.f1;clear M N ht hd;go_wp2;subst e;obtain⟨hr,aa⟩:=JH (C f (Jb 10000 b).length j) (E true) t (Aa _) d J J (Row.of_owns n Y);exact BB (v:=.agg #[C f (Jb 10000 b).length j,E true]) (by simp[results,results46,go_sem,r0,r1]) J ⟨_,J,⟨f,_,j,by rw[show decide (-(b:Int)<0)=true from decide_eq_true Y],by rw[CU];exact hr⟩,aa⟩
  . have ah:((-(c:Int)) != 0)=true:=by rw[Bi];omega
    have o:=Yi (N.out c a L.out p);by_cases hm:c%10000=0
    . have W:(c:Int)%10000=0:=Y
      clear hm;go_wp2_with(first
       |(at_builtin;refine BJ _ J _ _ 30 J (w.heap.size+1+1) 3 U (.int .i64 0) 1 8 underlying30 Q R S T J Bw (C f a.length j) a.length (cellsOf .i64 a) J (n.alloc _) ⟨wr.heap.size,0,none⟩ 1 1 [_] J J (BU _ _ _) (by simp[Value.oneCell']) (by unfold maxLen;omega) Y si ?_;intro v' w3 A y ad;obtain⟨g,r,s,m,k,x,B,z⟩:=YH (c%10000) Y Y Y t i n A y;have d0:=k.c0;have d1:=k.f0;subst s))
      have q:(a++[c%10000]).length<=100:=o.out.2.2.1;have l:(a++[c%10000]).length=a.length+1:=Br
      go_roundw
      case rel=>exact⟨c/10000,a++[c%10000],some ⟨g,0,none⟩,r,Br,Y,q,o,(z _ _ _ _ Y d).far Br _,by rw[l];exact k.set0 _,by rw[l]at m ⊢;exact m,x.setCell Br _,by simpa[World.setCell]using B⟩
      case measure=>simp[intOf];omega
    . have W:0<(c:Int)%10000:=Y
      go_wp2_with(first
       |(at_builtin;refine BJ _ J _ _ 30 J (w.heap.size+1+1) 3 U (.int .i64 0) 1 8 underlying30 Q R S T J Bw (C f a.length j) a.length (cellsOf .i64 a) J (n.alloc _) ⟨wr.heap.size,0,none⟩ 1 1 [_] J J (BU _ _ _) (by simp[Value.oneCell']) (by unfold maxLen;omega) Y si ?_;intro v' w3 A y ad;obtain⟨g,r,s,m,k,x,B,z⟩:=YH (c%10000) Y Y Y t i n A y;have d0:=k.c0;have d1:=k.f0;subst s))
      have q:(a++[c%10000]).length<=100:=o.out.2.2.1;have l:(a++[c%10000]).length=a.length+1:=Br
      go_roundw
      case rel=>exact⟨c/10000,a++[c%10000],some ⟨g,0,none⟩,r,Br,Y,q,o,(z _ _ _ _ Y d).far Br _,by rw[l];exact k.set0 _,by rw[l]at m ⊢;exact m,x.setCell Br _,by simpa[World.setCell]using B⟩
      case measure=>simp[intOf];omega
def Dv(n:Int)(b:-9223372036854775808<=n)(c:n<=9223372036854775807)(w:F):
 Calls H 46 #[.int .i64 n] w λe a=>∃u,e=.returned u/\Jk a u n/\I w.heap.size w a:=by
 by_cases h:n<0
 . have e:n=-(n.natAbs:Int):=Y
   rw[e];exact Kb n.natAbs Y Y w
 . have e:n=(n.natAbs:Int):=Y
   rw[e];exact KY n.natAbs Y w
