import Derived.Test.YtcahejkcdcjjgaaGreatDoorU03
import Derived.Deep.RegionHeld3
set_option linter.all false
open Go.Value renaming slice->C,bool->B
open Go.Obj renaming cells->D
open Go renaming World->E,Value->F
open Go.RowKit renaming Below->G
set_option maxRecDepth 99999
set_option maxHeartbeats 0
namespace Go.Proofs.YtcahejkcdcjjgaaGreatDoor
open Proofs.Tryz
open Go.RowKit Go.Shelf
def Jg(W:E)(B:Nat)(t:TypeId)(x y:F):Prop:=W.heap[B]?=some (D #[x,y] t (0,0))
variable{k:IntKind}{f:Ta}{c i n:Nat}{t:TypeId}{r v x y:F}{W W' j w:E}
def Jg.lt{B:Nat}(h:Jg W B t x y):B<W.heap.size:=(Ab.1 h).1
def Jg.c0{B:Nat}(h:Jg W B t x y):W.cell? ⟨B,0,none⟩=some x:=by simp[World.cell?,show W.heap[B]?=_ from h]
def Jg.c1{B:Nat}(h:Jg W B t x y):W.cell? ⟨B,1,none⟩=some y:=by simp[World.cell?,show W.heap[B]?=_ from h]
def Jg.cp{B:Nat}(h:Jg W B t x y):type_of% (And.intro h.c0 h.c1):=⟨h.c0,h.c1⟩
def Jg.f0{B:Nat}(h:Jg W B t x y):W.frozen? ⟨B,0,none⟩=false:=by simp[World.frozen?,show W.heap[B]?=_ from h]
def Jg.f1{B:Nat}(h:Jg W B t x y):W.frozen? ⟨B,1,none⟩=false:=by simp[World.frozen?,show W.heap[B]?=_ from h]
def Jg.fp{B:Nat}(h:Jg W B t x y):type_of% (And.intro h.f0 h.f1):=⟨h.f0,h.f1⟩
def Jg.new(W:E)(t:TypeId)(x y:F):Jg (W.alloc (D #[x,y] t)) W.heap.size t x y:=BC W _
def Jg.below{B:Nat}(h:Jg W B t x y)(a:G W.heap.size W W'):Jg W' B t x y:=(a.block B h.lt).trans h
def Jg.alloc{W:E}{B:Nat}{t:TypeId}{x y:F}(h:Jg W B t x y)(o:Obj):Jg (W.alloc o) B t x y:=h.below ((BB _ W).alloc (Aa _) o)
def Jg.drew{W:E}{B:Nat}{t:TypeId}{x y:F}(h:Jg W B t x y):Jg W.drew B t x y:=h
def Jg.set0{B:Nat}(h:Jg W B t x y)(u:F):Jg (W.setCell ⟨B,0,none⟩ u) B t u y:=by
 obtain⟨b,a⟩:=Ab.1 h;show(W.heap.modify B _)[B]?=_;rw[Array.getElem?_eq_getElem (by rw[Array.size_modify];exact b),Array.getElem_modify_self,a];rfl
def Jg.set1{B:Nat}(h:Jg W B t x y)(u:F):Jg (W.setCell ⟨B,1,none⟩ u) B t x u:=by
 obtain⟨b,a⟩:=Ab.1 h;show(W.heap.modify B _)[B]?=_;rw[Array.getElem?_eq_getElem (by rw[Array.size_modify];exact b),Array.getElem_modify_self,a];rfl
def Jg.far{B:Nat}(h:Jg W B t x y){p:Addr}(hp:B≠p.block)(u:F):Jg (W.setCell p u) B t x y:=(BF W p u B hp).trans h
def Below.then{w W a:E}(h:G w.heap.size w W)(k:G W.heap.size W a):G w.heap.size w a:=h.trans (k.mono h.size)
def Bt:=@Below.then
theorem JB{b o a:Nat}{u:F}(h:b≠i):(w.setCell ⟨i,a,none⟩ u).cell? ⟨b,o,none⟩=w.cell? ⟨b,o,none⟩:=
 World.cell?_of_block (w:=w) (BF w ⟨i,a,none⟩ u b h)
def JA:F->Bool|.int _ _=>false|_=>true
theorem Row.set{k:IntKind}{W:E}{v:F}{ds:Ta}(h:Row k W v ds){p:Addr}{u0:F}(hp:W.cell? p=some u0)(q:JA u0=true)(u:F):Row k (W.setCell p u) v ds:=by
 obtain⟨a,cap,e,f,g,i,c⟩:=h;refine⟨a,cap,e,f,g,i,?_⟩;rcases c with c|⟨b,m,d,l,n⟩
 . exact Ao c
 . refine Ax ⟨b,m,d,l.set p u,λj o=>?_⟩;grind[JA,World.cell?_setCell_other]
def Yg{R:Nat}{u0 u1:F}(x0 x1:F){ds:Ta}(b:G w.heap.size w j)(a:w.heap.size<=R)(q:Jg j R t u0 u1)(d:JA u0=true)(e:JA u1=true)(c:Row k j v ds):
 Row k ((j.setCell ⟨R,0,none⟩ x0).setCell ⟨R,1,none⟩ x1) v ds/\G w.heap.size w ((j.setCell ⟨R,0,none⟩ x0).setCell ⟨R,1,none⟩ x1):=
 ⟨Row.set (Row.set c q.c0 d _) (u0:=u1) (q.set0 x0).c1 e _,(b.setCell a _).setCell a _⟩
def RN.below{W W':E}{v:F}{n:Nat}(h:RN W v n)(a:G W.heap.size W W'):RN W' v n:=Row.below h a
def RN.form(h:RN W v n):∃a cap,v=C a (Jb 10000 n).length cap:=by
 obtain⟨a,cap,e,_⟩:=h;exact⟨a,cap,e⟩
def GR{a b c:TypeId}{x1 d f e g:F}(h:((w.alloc (D #[x1,r] a)).alloc (D #[d,f] b)).alloc (D #[e,g] c)=W):G w.heap.size w W/\Jg W w.heap.size a x1 r/\Jg W (w.heap.size+1) b d f/\Jg W (w.heap.size+1+1) c e g:=by
 subst h;have i:=(Jg.new (w.alloc (D #[x1,r] a)) b d f).alloc (D #[e,g] c);have j:=Jg.new ((w.alloc (D #[x1,r] a)).alloc (D #[d,f] b)) c e g;rw[A1]at i;rw[A1,A1]at j;exact⟨(((BB _ w).alloc (Aa _) _).alloc B5 _).alloc si _,((Jg.new w _ _ _).alloc _).alloc _,i,j⟩
def Kz(a b:F)(m n:Nat)(w:E)(c:RN w a m)(d:RN w b n):
 Calls Tryz.prog 143 #[a,b] w λe f=>e=.returned (.int .i64 (Yt m n))/\G w.heap.size w f:=by
 have h:=Hp 10000 Y a b _ _ w c d (Ji Y m) (Ji Y n) (JY Y m) (JY Y n);rw[Jj Y,Jj Y]at h;exact h
def Xt(w:E)(a b c:Obj):G w.heap.size w (((w.alloc a).alloc b).alloc c):=
 (((BB _ w).alloc (Aa _) _).alloc B5 _).alloc si _
def K0{m:Nat}(h:n<=m):0<=Yt m n:=by
 rcases AH n m with g|g
 . rw[FQ g];omega
 . have:m=n:=Y
   rw[this,Hb];omega
def OE(a b:Tb)(k lb i j m n:Nat)(s:Bool)(w:E)(M:RN w (C a k i) m)(N:RN w (C b lb j) n)(y:(Jb 10000 m).length<=400000000000)(z:(Jb 10000 n).length<=400000000000):
 Calls Tryz.prog 108 #[.agg #[C a k i,B s],.agg #[C b lb j,B s]] w λe l=>∃c r t,e=.returned (.agg #[C c r t,B (s&&decide (0<r))])/\RN l (C c r t) (m+n)/\G w.heap.size w l:=by
 have P:¬(w.heap.size=w.heap.size+1+1):=Y
 go_enter func108,ntmps108
 go_wp2_with fail
 have f:=Xt w (D #[C a k i,B s] 47) (D #[C b lb j,B s] 47) (D #[C none 0 0,B false] 47);have b0:=((Jg.new w 47 (C a k i) (B s)).alloc (D #[C b lb j,B s] 47)).alloc (D #[C none 0 0,B false] 47);have g:=(Jg.new (w.alloc (D #[C a k i,B s] 47)) 47 (C b lb j) (B s)).alloc (D #[C none 0 0,B false] 47);have d:=Jg.new ((w.alloc (D #[C a k i,B s] 47)).alloc (D #[C b lb j,B s] 47)) 47 (C none 0 0) (B false);simp only[A1]at g d;go_region_held3 (λl=>l.cell? ⟨w.heap.size,0,none⟩=some (C a k i)/\l.cell? ⟨w.heap.size+1,0,none⟩=some (C b lb j)/\l.cell? ⟨w.heap.size,1,none⟩=some (B s)) (refine⟨?_,?_,?_⟩<;>(first|(go_keep;done)|((repeat rw[JB Y]);simp[*];done)))
  (first
   |(go_at_call 142;refine(N9 _ _ m n _ ?_ ?_ y z).mono ?_;exact M.below f.drew;exact N.below f.drew;rintro e Q ⟨u,rfl,q,p⟩;obtain⟨v,c',rfl⟩:=q.form;have b0:=b0.drew.below p;have g:=g.drew.below p;have d:=d.drew.below p;have f:=Below.then f.drew p;have H:=b0.c0;have I:=b0.c1;have K:=g.c0)
   |(go_at_call 141;refine(Ev _ _ _ _ _).mono ?_;rintro e R ⟨rfl,o⟩;have q:=Row.below q o;have b0:=b0.below o;have g:=g.below o;have d:=d.below o;have f:=Below.then f o;have H:=b0.c0;have I:=b0.c1;have K:=g.c0;have r0:=d.c0;have L:=d.c1;have f0:=d.f0;have f1:=d.f1))
 all_goals go_wp2_with fail
 obtain⟨A,x⟩:=Yg (C v (Jb 10000 (m+n)).length c') (B (s&&decide (0<(Jb 10000 (m+n)).length))) f Y d J J q;exact BA (by simp[results,results108,go_sem,r0,L]) J ⟨_,_,_,J,A,x⟩
def OG(a b:Tb)(k lb i j m n:Nat)(s:Bool)(w:E)(H:RN w (C a k i) m)(I:RN w (C b lb j) n)(N:(Jb 10000 m).length<=400000000000)(t:n<=m):
 Calls Tryz.prog 108 #[.agg #[C a k i,B s],.agg #[C b lb j,B (!s)]] w λe l=>∃c v x,e=.returned (.agg #[C c v x,B (s&&decide (0<v))])/\RN l (C c v x) (m-n)/\G w.heap.size w l:=by
 have S:¬(w.heap.size=w.heap.size+1+1):=Y
 have hs:(s == !s)=false:=by cases s<;>rfl
 have R:=K0 t;have K:Hid (n<=m):=t;clear t;have f:=Xt w (D #[C a k i,B s] 47) (D #[C b lb j,B (!s)] 47) (D #[C none 0 0,B false] 47);have b0:=((Jg.new w 47 (C a k i) (B s)).alloc (D #[C b lb j,B (!s)] 47)).alloc (D #[C none 0 0,B false] 47);have g:=(Jg.new (w.alloc (D #[C a k i,B s] 47)) 47 (C b lb j) (B (!s))).alloc (D #[C none 0 0,B false] 47);have d:=Jg.new ((w.alloc (D #[C a k i,B s] 47)).alloc (D #[C b lb j,B (!s)] 47)) 47 (C none 0 0) (B false);simp only[A1]at g d;go_enter func108,ntmps108
 go_wp2_with(first
  |(go_at_call 143;refine(Kz _ _ m n _ ?_ ?_).mono ?_;exact H.below f;exact I.below f;rintro e w0 ⟨rfl,p⟩;have b0:=b0.below p;have g:=g.below p;have d:=d.below p;have f:=Below.then f p;have y:=b0.c0;have z:=b0.c1;have A:=g.c0))
 go_region_held3 (λl=>l.cell? ⟨w.heap.size,0,none⟩=some (C a k i)/\l.cell? ⟨w.heap.size+1,0,none⟩=some (C b lb j)/\l.cell? ⟨w.heap.size,1,none⟩=some (B s)) (refine⟨?_,?_,?_⟩<;>(first|(go_keep;done)|((repeat rw[JB Y]);simp[*];done)))
  (first
   |(go_at_call 144;refine(GP _ _ m n _ ?_ ?_ (Ct (Nat.lt_succ_of_le K.out)) N).mono ?_;exact H.below f.drew;exact I.below f.drew;rintro e T ⟨u,rfl,r,q⟩;obtain⟨L,c',rfl⟩:=r.form;have b0:=b0.drew.below q;have g:=g.drew.below q;have d:=d.drew.below q;have f:=Below.then f.drew q;have y:=b0.c0;have z:=b0.c1;have A:=g.c0)
   |(go_at_call 141;refine(Ev _ _ _ _ _).mono ?_;rintro e U ⟨rfl,o⟩;have r:=Row.below r o;have b0:=b0.below o;have g:=g.below o;have d:=d.below o;have f:=Below.then f o;have y:=b0.c0;have z:=b0.c1;have A:=g.c0;have r0:=d.c0;have Q:=d.c1;have f0:=d.f0;have f1:=d.f1))
 all_goals go_wp2_with fail
 obtain⟨P,M⟩:=Yg (C L (Jb 10000 (m-n)).length c') (B (s&&decide (0<(Jb 10000 (m-n)).length))) f Y d J J r;exact BA (by simp[results,results108,go_sem,r0,Q]) J ⟨_,_,_,J,P,M⟩
def OH(a b:Tb)(k lb i j m n:Nat)(s:Bool)(w:E)(H:RN w (C a k i) m)(I:RN w (C b lb j) n)(N:(Jb 10000 n).length<=400000000000)(t:m<n):
 Calls Tryz.prog 108 #[.agg #[C a k i,B s],.agg #[C b lb j,B (!s)]] w λe l=>∃c v x,e=.returned (.agg #[C c v x,B ((!s)&&decide (0<v))])/\RN l (C c v x) (n-m)/\G w.heap.size w l:=by
 have S:¬(w.heap.size=w.heap.size+1+1):=Y
 have hs:(s == !s)=false:=by cases s<;>rfl
 have R:Yt m n<0:=by rw[Xg t];omega
 have K:Hid (m<n):=t;clear t;have g:=Xt w (D #[C a k i,B s] 47) (D #[C b lb j,B (!s)] 47) (D #[C none 0 0,B false] 47);have b0:=((Jg.new w 47 (C a k i) (B s)).alloc (D #[C b lb j,B (!s)] 47)).alloc (D #[C none 0 0,B false] 47);have d:=(Jg.new (w.alloc (D #[C a k i,B s] 47)) 47 (C b lb j) (B (!s))).alloc (D #[C none 0 0,B false] 47);have f:=Jg.new ((w.alloc (D #[C a k i,B s] 47)).alloc (D #[C b lb j,B (!s)] 47)) 47 (C none 0 0) (B false);simp only[A1]at d f;go_enter func108,ntmps108
 go_wp2_with(first
  |(go_at_call 143;refine(Kz _ _ m n _ ?_ ?_).mono ?_;exact H.below g;exact I.below g;rintro e w0 ⟨rfl,p⟩;have b0:=b0.below p;have d:=d.below p;have f:=f.below p;have g:=Below.then g p;have y:=b0.c0;have z:=d.c1;have A:=d.c0))
 go_region_held3 (λl=>l.cell? ⟨w.heap.size,0,none⟩=some (C a k i)/\l.cell? ⟨w.heap.size+1,0,none⟩=some (C b lb j)/\l.cell? ⟨w.heap.size+1,1,none⟩=some (B (!s))) (refine⟨?_,?_,?_⟩<;>(first|(go_keep;done)|((repeat rw[JB Y]);simp[*];done)))
  (first
   |(go_at_call 144;refine(GP _ _ n m _ ?_ ?_ (Ct (Nat.lt_succ_of_le (Nat.le_of_lt K.out))) N).mono ?_;exact I.below g.drew;exact H.below g.drew;rintro e T ⟨u,rfl,r,q⟩;obtain⟨L,c',rfl⟩:=r.form;have b0:=b0.drew.below q;have d:=d.drew.below q;have f:=f.drew.below q;have g:=Below.then g.drew q;have y:=b0.c0;have z:=d.c1;have A:=d.c0)
   |(go_at_call 141;refine(Ev _ _ _ _ _).mono ?_;rintro e U ⟨rfl,o⟩;have r:=Row.below r o;have b0:=b0.below o;have d:=d.below o;have f:=f.below o;have g:=Below.then g o;have y:=b0.c0;have z:=d.c1;have A:=d.c0;have r0:=f.c0;have Q:=f.c1;have f0:=f.f0;have f1:=f.f1))
 all_goals go_wp2_with fail
 obtain⟨P,M⟩:=Yg (C L (Jb 10000 (n-m)).length c') (B ((!s)&&decide (0<(Jb 10000 (n-m)).length))) g Y f J J r;exact BA (by simp[results,results108,go_sem,r0,Q]) J ⟨_,_,_,J,P,M⟩
def RN.len{a:Tb}{l:Nat}(h:RN W (C a l c) n):l=(Jb 10000 n).length:=by
 obtain⟨b,cap,e,_⟩:=h;cases e;rfl
def GS{d:F}{p q:Bool}(h:p=q):Value.agg #[d,B p]=.agg #[d,B q]:=by rw[h]
def Jo(W:E)(v:F)(z:Int):Prop:=∃a l cap,v=.agg #[C a l cap,B (decide (z<0))]/\RN W (C a l cap) z.natAbs
def Jo.below{W W':E}{v:F}{z:Int}(h:Jo W v z)(b:G W.heap.size W W'):Jo W' v z:=by
 obtain⟨a,l,cap,e,c⟩:=h;exact⟨a,l,cap,e,c.below b⟩
def DY(z:Int):Nat:=(Jb 10000 z.natAbs).length
def XL:0<(Jb 10000 n).length↔n≠0:=by
 rw[Cf,Ne,Jw Y]
def Hq(s t:F)(x y:Int)(w:E)(z:Jo w s x)(A:Jo w t y)(n:DY x<=400000000000)(o:DY y<=400000000000):
 Calls Tryz.prog 108 #[s,t] w λe k=>∃u,e=.returned u/\Jo k u (x+y)/\G w.heap.size w k:=by
 obtain⟨a,p,l,rfl,q⟩:=z;obtain⟨b,lb,m,rfl,r⟩:=A;unfold DY at n o;by_cases hs:decide (x<0)=decide (y<0)
 . rw[<-hs];refine(OE a b p lb l m _ _ _ w q r n o).mono ?_;rintro e k ⟨c,j,f,rfl,d,i⟩;have hl:=d.len;have g:x.natAbs+y.natAbs=(x+y).natAbs:=by
    have:(x<0↔y<0):=by simpa using hs
    omega
   rw[g]at d hl;refine⟨_,J,⟨c,j,f,?_,d⟩,i⟩;refine GS ?_;rw[Cc];simp only[AF,BV];rw[hl,XL]
   have:(x<0↔y<0):=by simpa using hs
   omega
 . have v:decide (y<0)=!decide (x<0):=by
    cases I:decide (x<0)<;>cases K:decide (y<0)<;>simp_all
   have L:¬(x<0↔y<0):=by simpa using hs
   rw[v];by_cases H:y.natAbs<=x.natAbs
   . refine(OG a b p lb l m _ _ _ w q r n H).mono ?_;rintro e k ⟨c,j,f,rfl,d,i⟩;have hl:=d.len;have g:x.natAbs-y.natAbs=(x+y).natAbs:=Y
     rw[g]at d hl;refine⟨_,J,⟨c,j,f,?_,d⟩,i⟩;refine GS ?_;rw[Cc];simp only[AF,BV];rw[hl,XL];omega
   . refine(OH a b p lb l m _ _ _ w q r o Y).mono ?_;rintro e k ⟨c,j,f,rfl,d,i⟩;have hl:=d.len;have g:y.natAbs-x.natAbs=(x+y).natAbs:=Y
     rw[g]at d hl;refine⟨_,J,⟨c,j,f,?_,d⟩,i⟩;refine GS ?_;rw[Cc];simp only[AF,BV,Cl,Bg];rw[hl,XL];omega
def Hr(w:E)(a b:Obj):G w.heap.size w ((w.alloc a).alloc b):=
 ((BB _ w).alloc (Aa _) _).alloc B5 _
def OI(a:Tb)(b d m:Nat)(s:Bool)(w:E)(n:RN w (C a b d) m):
 Calls Tryz.prog 126 #[.agg #[C a b d,B s]] w λe i=>e=.returned (.agg #[C a b d,B (!s&&decide (0<b))])/\RN i (C a b d) m/\G w.heap.size w i:=by
 have f:=Hr w (D #[C a b d,B s] 47) (D #[C none 0 0,B false] 47);have c:=Jg.new (w.alloc (D #[C a b d,B s] 47)) 47 (C none 0 0) (B false);simp only[A1]at c;go_enter func126,ntmps126
 go_wp2_with(first
  |(go_at_call 141;refine(Ev _ _ _ _ _).mono ?_;rintro e o ⟨rfl,g⟩;have c:=c.below g;have f:=Below.then f g;have r0:=c.c0;have l:=c.c1;have f0:=c.f0;have f1:=c.f1))
 obtain⟨k,j⟩:=Yg (C a b d) (B (!s&&decide (0<b))) f Y c J J (n.below f);exact BA (by simp[results,results126,go_sem,r0,l]) J ⟨J,k,j⟩
def K1(g:F)(x:Int)(w:E)(j:Jo w g x):
 Calls Tryz.prog 126 #[g] w λe c=>∃u,e=.returned u/\Jo c u (-x)/\G w.heap.size w c:=by
 obtain⟨a,f,d,rfl,k⟩:=j;refine(OI a f d _ _ w k).mono ?_;rintro e c ⟨rfl,b,i⟩;have hl:=b.len;rw[show x.natAbs=(-x).natAbs from by omega]at b hl;refine⟨_,J,⟨a,f,d,?_,b⟩,i⟩;refine GS ?_;rw[Cc];simp only[AF,BV,Cl,Bg];rw[hl,XL];omega
theorem OJ(c:UInt8)(l:List UInt8):(⟨#[c]⟩:ByteArray)++⟨l.toArray⟩=⟨(c::l).toArray⟩:=by
 apply ByteArray.ext;simp[ByteArray.data_append]
def Jg.kept{row:Option Nat}{B:Nat}(h:Jg W B t x y)(hg:W.grownBy W' row)(a:some B≠row):Jg W' B t x y:=(hg.block B h.lt a).trans h
def Dx(b c:Nat)(a:Ta):Prop:=B7 10000 a/\val 10000 a+10000^a.length*c=b/\a.length<=100/\(a=[]\/c≠0\/10000^(a.length-1)<=val 10000 a)
theorem Dx.step(h:Dx i c f)(j:i<=9223372036854775808)(k:c≠0):Dx i (c/10000) (f++[c%10000]):=by
 obtain⟨a,b,d,e⟩:=h;refine⟨a.append (B7.cons (AJ _ Y) (B7.nil _)),?_,?_,?_⟩
 . grind[J1,A9,Ce,Nat.mod_add_div]
 . grind
 . right
   by_cases g:c/10000=0
   . right
     rw[As,List.length_singleton,Nat.add_sub_cancel,J1]
     have:c%10000≠0:=Y
     have:=Aq (10000^f.length) (show 1<=c%10000 by omega);omega
   . exact Ao g
theorem Dx.done(h:Dx i 0 f):f=Jb 10000 i:=by
 obtain⟨a,b,c,d⟩:=h;rw[A8,AV]at b;rw[<-b];refine(YH Y a (Hd Y a ?_)).symm;grind
theorem Ht{wr:E}{B:Nat}{e:TypeId}{o:Obj}{D:Int}(d:Nat)(L:D=(d:Nat))(S:w.heap.size<=B)(s:B<i)(p:G w.heap.size w wr)(K:Jg wr B t v y)(M:wr.ownsRow i e 1 v f.length (cellsOf k f))
(A:j.ownsRow i e 1 r (f.length+1) (cellsOf k f++[.int k D]))(u:(wr.alloc o).grownBy j v.ownBlock):
 ∃g n,r=C (some ⟨g,0,none⟩) (f++[d]).length n/\(j.setCell ⟨B,0,none⟩ r).ownsRow i e 1 r (f++[d]).length (cellsOf k (f++[d]))/\Jg j B t v y/\G w.heap.size w j/\i<=j.heap.size/\(∀a c l m,a<i->Jg wr a c l m->Jg j a c l m):=by
 obtain⟨g,n,I⟩:=ownsRow_succ A;subst L;have V:∀q,v.ownBlock=some q->i<=q/\q<wr.heap.size:=λq H=>M.lt q H;have x:∀a c l m,a<i->Jg wr a c l m->Jg j a c l m:=λa c l m h b=>(b.alloc o).kept u (λQ=>by grind);have z:j.ownsRow i e 1 r (f++[d]).length (cellsOf k (f++[d])):=by rw[Hn];simpa using A
 refine⟨g,n,by rw[I];simp,ownsRow_setCell_below z s r,x _ _ _ _ s K,?_,?_,x⟩
 . exact(p.alloc p.size _).grown u (by simp;have:=p.size;omega) (λq H=>by grind)
 . rcases z.2 with⟨h,_⟩|⟨R,N,P,_,U,T,_⟩
   . rw[I]at h;cases h
   grind
def OK(b:Nat)(hN:b<=9223372036854775807)(w:E):
 Calls Tryz.prog 93 #[.int .i64 b] w λe z=>∃u,e=.returned u/\Jo z u b/\G w.heap.size w z:=by
 obtain⟨W,N,T,U,V⟩:=Bk Tryz.infoInt;have d:=(Jg.new w 47 (C none 0 0) (B false)).alloc (D #[C none 0 0,B false] 47);have f:=Jg.new (w.alloc (D #[C none 0 0,B false] 47)) 47 (C none 0 0) (B false);simp only[A1]at f;have s:=Hr w (D #[C none 0 0,B false] 47) (D #[C none 0 0,B false] 47);have p:Hid (∀a,Dx b 0 a->a=Jb 10000 b):=λa h=>h.done;have r:Hid (∀c a,Dx b c a->c≠0->Dx b (c/10000) (a++[c%10000])):=λc a h k=>h.step Y k;go_enter func93,ntmps93
 go_wp2;go_loopw [0] (λn wr=>∃(c:Nat) (a:Ta) (i:Tb) (j:Nat),n=.int .i64 c/\c<=b/\a.length<=100/\Hid (Dx b c a)/\Jg wr w.heap.size 47 (C none 0 0) (B false)/\Jg wr (w.heap.size+1) 47 (C i a.length j) (B false)/\wr.ownsRow (w.heap.size+1+1) 3 1 (C i a.length j) a.length (cellsOf .i64 a)/\G w.heap.size w wr/\w.heap.size+1+1<=wr.heap.size)
  (λn _=>(intOf n).toNat)
 case atStart=>exact⟨b,[],none,0,J,Aa _,B5,⟨B7.nil _,by simp[val],B5,Ao J⟩,d,f,World.ownsRow_nil _ _ _ _,s,B5⟩
 case round=>
  clear d f s;obtain⟨c,a,i,j,rfl,ae,ah,o,d,f,m,x,aj⟩:=hrel;have c0:=f.c0;have c1:=f.c1;have f0:=f.f0;by_cases k:c=0
  . subst k;have e:=p.out a o.out;have r0:=d.c0;have X:=d.c1;have g0:=d.f0;have g1:=d.f1;clear p r;go_wp2;subst e;obtain⟨R,K⟩:=Yg (C i (Jb 10000 b).length j) (B false) x (Aa _) d J J (Row.of_owns m Y);exact BA (v:=.agg #[C i (Jb 10000 b).length j,B false]) (by simp[results,results93,go_sem,r0,X]) J ⟨_,J,⟨i,_,j,by rw[show decide ((b:Int)<0)=false from BD Y],R⟩,K⟩
  . have ad:((c:Int) != 0)=true:=by rw[Br];omega
    have q:=EP (r.out c a o.out k);go_wp2_with(first
     |(at_builtin;refine BW _ J _ _ 45 J (w.heap.size+1+1) 3 W (.int .i64 0) 1 8 underlying45 N T U V J DB (C i a.length j) a.length (cellsOf .i64 a) J (m.alloc _) ⟨wr.heap.size,0,none⟩ 1 1 [_] J J (Be _ _ _) (by simp[Value.oneCell']) (by unfold maxLen;omega) Y si ?_;intro v' w3 Q M ai;obtain⟨g,H,I,y,l,L,S,P⟩:=Ht (c%10000) Y Y Y x f m Q M;have d0:=l.c0;have d1:=l.f0;subst I))
    have A:(a++[c%10000]).length<=100:=q.out.2.2.1;have t:(a++[c%10000]).length=a.length+1:=B5
    go_roundw
    case rel=>exact⟨c/10000,a++[c%10000],some ⟨g,0,none⟩,H,B5,Y,A,q,(P _ _ _ _ Y d).far B5 _,by rw[t];exact l.set0 _,by rw[t]at y ⊢;exact y,L.setCell B5 _,by simpa[World.setCell]using S⟩
    case measure=>simp[intOf];omega
def OL(c:Nat):(-(c:Int)).tmod 10000=-((c%10000:Nat):Int):=by
 rw[Int.neg_tmod,Int.tmod_eq_emod_of_nonneg Y];rfl
def OM(c:Nat):(-(c:Int)).tdiv 10000=-((c/10000:Nat):Int):=by
 rw[Int.neg_tdiv,Int.tdiv_eq_ediv_of_nonneg Y];rfl
def ON(b:Nat)(X:1<=b)(hN:b<=9223372036854775808)(w:E):
 Calls Tryz.prog 93 #[.int .i64 (-(b:Int))] w λe V=>∃u,e=.returned u/\Jo V u (-(b:Int))/\G w.heap.size w V:=by
 have ah:0<b:=X;obtain⟨U,P,R,S,T⟩:=Bk Tryz.infoInt;have d:=(Jg.new w 47 (C none 0 0) (B false)).alloc (D #[C none 0 0,B true] 47);have f:=Jg.new (w.alloc (D #[C none 0 0,B false] 47)) 47 (C none 0 0) (B true);simp only[A1]at f;have N:=Hr w (D #[C none 0 0,B false] 47) (D #[C none 0 0,B true] 47);have L:Hid (∀a,Dx b 0 a->a=Jb 10000 b):=λa h=>h.done;have M:Hid (∀c a,Dx b c a->c≠0->Dx b (c/10000) (a++[c%10000])):=λc a h p=>h.step Y p;go_enter func93,ntmps93
 go_wp2;go_loopw [0] (λI wr=>∃(c:Nat) (a:Ta) (i:Tb) (j:Nat),I=.int .i64 (-(c:Int))/\c<=b/\a.length<=100/\Hid (Dx b c a)/\Jg wr w.heap.size 47 (C none 0 0) (B false)/\Jg wr (w.heap.size+1) 47 (C i a.length j) (B true)/\wr.ownsRow (w.heap.size+1+1) 3 1 (C i a.length j) a.length (cellsOf .i64 a)/\G w.heap.size w wr/\w.heap.size+1+1<=wr.heap.size)
  (λI _=>(-(intOf I)).toNat)
 case atStart=>exact⟨b,[],none,0,J,Aa _,B5,⟨B7.nil _,by simp[val],B5,Ao J⟩,d,f,World.ownsRow_nil _ _ _ _,N,B5⟩
 case round=>
  clear d f N;obtain⟨c,a,i,j,rfl,aj,ak,K,d,f,n,t,am⟩:=hrel;have c0:=f.c0;have c1:=f.c1;have f0:=f.f0;have ht:=OL c;have hd:=OM c;by_cases p:c=0
  . subst p;have e:=L.out a K.out;have r0:=d.c0;have r1:=d.c1;have g0:=d.f0;have g1:=d.f1;clear L M ht hd;go_wp2;subst e;obtain⟨hr,ad⟩:=Yg (C i (Jb 10000 b).length j) (B true) t (Aa _) d J J (Row.of_owns n Y);exact BA (v:=.agg #[C i (Jb 10000 b).length j,B true]) (by simp[results,results93,go_sem,r0,r1]) J ⟨_,J,⟨i,_,j,by rw[show decide (-(b:Int)<0)=true from decide_eq_true Y],by rw[C4];exact hr⟩,ad⟩
  . have ai:((-(c:Int)) != 0)=true:=by rw[Br];omega
    have o:=EP (M.out c a K.out p);by_cases Q:c%10000=0
    . have W:(c:Int)%10000=0:=Y
      have HM:=EP Q;clear Q;go_wp2_with(first
       |(at_builtin;refine BW _ J _ _ 45 J (w.heap.size+1+1) 3 U (.int .i64 0) 1 8 underlying45 P R S T J DB (C i a.length j) a.length (cellsOf .i64 a) J (n.alloc _) ⟨wr.heap.size,0,none⟩ 1 1 [_] J J (Be _ _ _) (by simp[Value.oneCell']) (by unfold maxLen;omega) Y si ?_;intro v' w3 A y ae;obtain⟨g,r,s,m,k,x,H,z⟩:=Ht (c%10000) Y Y Y t f n A y;have d0:=k.c0;have d1:=k.f0;subst s))
      have q:(a++[c%10000]).length<=100:=o.out.2.2.1;have l:(a++[c%10000]).length=a.length+1:=B5
      go_roundw
      case rel=>exact⟨c/10000,a++[c%10000],some ⟨g,0,none⟩,r,B5,Y,q,o,(z _ _ _ _ Y d).far B5 _,by rw[l];exact k.set0 _,by rw[l]at m ⊢;exact m,x.setCell B5 _,by simpa[World.setCell]using H⟩
      case measure=>simp[intOf];omega
    . have W:0<(c:Int)%10000:=Y
      go_wp2_with(first
       |(at_builtin;refine BW _ J _ _ 45 J (w.heap.size+1+1) 3 U (.int .i64 0) 1 8 underlying45 P R S T J DB (C i a.length j) a.length (cellsOf .i64 a) J (n.alloc _) ⟨wr.heap.size,0,none⟩ 1 1 [_] J J (Be _ _ _) (by simp[Value.oneCell']) (by unfold maxLen;omega) Y si ?_;intro v' w3 A y ae;obtain⟨g,r,s,m,k,x,H,z⟩:=Ht (c%10000) Y Y Y t f n A y;have d0:=k.c0;have d1:=k.f0;subst s))
      have q:(a++[c%10000]).length<=100:=o.out.2.2.1;have l:(a++[c%10000]).length=a.length+1:=B5
      go_roundw
      case rel=>exact⟨c/10000,a++[c%10000],some ⟨g,0,none⟩,r,B5,Y,q,o,(z _ _ _ _ Y d).far B5 _,by rw[l];exact k.set0 _,by rw[l]at m ⊢;exact m,x.setCell B5 _,by simpa[World.setCell]using H⟩
      case measure=>simp[intOf];omega
def EQ(n:Int)(b:-9223372036854775808<=n)(c:n<=9223372036854775807)(w:E):
 Calls Tryz.prog 93 #[.int .i64 n] w λe a=>∃u,e=.returned u/\Jo a u n/\G w.heap.size w a:=by
 by_cases h:n<0
 . have e:n=-(n.natAbs:Int):=Y
   rw[e];exact ON n.natAbs Y Y w
 . have e:n=(n.natAbs:Int):=Y
   rw[e];exact OK n.natAbs Y w
