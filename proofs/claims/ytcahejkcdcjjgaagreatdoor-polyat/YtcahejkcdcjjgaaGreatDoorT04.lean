import Derived.Test.YtcahejkcdcjjgaaGreatDoorT03
import Derived.Deep.RegionHeld3
open Go.Value renaming slice->C,bool->E
open Go.Obj renaming cells->D
open Go renaming World->F,Value->G
open Go.Proofs.Tryz renaming prog->H
open Go.RowKit renaming Below->I
set_option maxRecDepth 100000
set_option maxHeartbeats 16000000
namespace Go.Proofs.YtcahejkcdcjjgaaGreatDoor
open Go.RowKit Go.Shelf
theorem BJ:type_of% @decide_eq_true:=@decide_eq_true
def Jj(W:F)(B:Nat)(t:TypeId)(x y:G):Prop:=W.heap[B]?=some (D #[x,y] t (0,0))
variable{k:IntKind}{f:List Nat}{B c i n:Nat}{t:TypeId}{v x y:G}{W W' j w:F}
theorem Jj.lt(h:Jj W B t x y):B<W.heap.size:=(Ac.1 h).1
theorem Jj.c0(h:Jj W B t x y):W.cell? ⟨B,0,none⟩=some x:=by simp[World.cell?,show W.heap[B]?=_ from h]
theorem Jj.c1(h:Jj W B t x y):W.cell? ⟨B,1,none⟩=some y:=by simp[World.cell?,show W.heap[B]?=_ from h]
theorem Jj.cp(h:Jj W B t x y):type_of% (And.intro h.c0 h.c1):=⟨h.c0,h.c1⟩
theorem Jj.f0(h:Jj W B t x y):W.frozen? ⟨B,0,none⟩=false:=by simp[World.frozen?,show W.heap[B]?=_ from h]
theorem Jj.f1(h:Jj W B t x y):W.frozen? ⟨B,1,none⟩=false:=by simp[World.frozen?,show W.heap[B]?=_ from h]
theorem Jj.fp(h:Jj W B t x y):type_of% (And.intro h.f0 h.f1):=⟨h.f0,h.f1⟩
theorem Jj.new(W:F)(t:TypeId)(x y:G):Jj (W.alloc (D #[x,y] t)) W.heap.size t x y:=BC W _
theorem Jj.below(h:Jj W B t x y)(a:I W.heap.size W W'):Jj W' B t x y:=(a.block B h.lt).trans h
theorem Jj.alloc{W:F}{B:Nat}{t:TypeId}{x y:G}(h:Jj W B t x y)(o:Obj):Jj (W.alloc o) B t x y:=h.below ((BB _ W).alloc (Aa _) o)
theorem Jj.drew{W:F}{B:Nat}{t:TypeId}{x y:G}(h:Jj W B t x y):Jj W.drew B t x y:=h
theorem Jj.set0(h:Jj W B t x y)(u:G):Jj (W.setCell ⟨B,0,none⟩ u) B t u y:=by
 obtain⟨b,a⟩:=Ac.1 h;show(W.heap.modify B _)[B]?=_;rw[AZ (by rw[Cz];exact b),Ce,a];rfl
theorem Jj.set1(h:Jj W B t x y)(u:G):Jj (W.setCell ⟨B,1,none⟩ u) B t x u:=by
 obtain⟨b,a⟩:=Ac.1 h;show(W.heap.modify B _)[B]?=_;rw[AZ (by rw[Cz];exact b),Ce,a];rfl
theorem Jj.far(h:Jj W B t x y){p:Addr}(a:B≠p.block)(u:G):Jj (W.setCell p u) B t x y:=(BG W p u B a).trans h
theorem Below.then{w W a:F}(h:I w.heap.size w W)(k:I W.heap.size W a):I w.heap.size w a:=h.trans (k.mono h.size)
theorem Bt:type_of% @Below.then:=@Below.then
theorem JH{b o a:Nat}{u:G}(h:b≠i):(w.setCell ⟨i,a,none⟩ u).cell? ⟨b,o,none⟩=w.cell? ⟨b,o,none⟩:=
 World.cell?_of_block (w:=w) (BG w ⟨i,a,none⟩ u b h)
def Jw:G->Bool|.int _ _=>false|_=>true
theorem Row.set{k:IntKind}{W:F}{v:G}{ds:List Nat}(h:Row k W v ds){p:Addr}{u0:G}(m:W.cell? p=some u0)(r:Jw u0=true)(u:G):Row k (W.setCell p u) v ds:=by
 obtain⟨a,cap,e,q,s,i,c⟩:=h;refine⟨a,cap,e,q,s,i,?_⟩;rcases c with c|⟨b,off,t,o,n⟩
 . exact Or.inl c
 . refine Or.inr ⟨b,off,t,o.set p u,λj l=>?_⟩;have d:=n j l;have g:p≠⟨b,off+j,none⟩:=by
    intro f;rw[<-f,m]at d;cases d;simp[Jw]at r
   exact(World.cell?_setCell_other (h:=g) ..).trans d
theorem J5{R:Nat}{u0 u1:G}(x0 x1:G){ds:List Nat}(d:I w.heap.size w j)(a:w.heap.size<=R)(q:Jj j R t u0 u1)(c:Jw u0=true)(b:Jw u1=true)(e:Row k j v ds):
 Row k ((j.setCell ⟨R,0,none⟩ x0).setCell ⟨R,1,none⟩ x1) v ds/\I w.heap.size w ((j.setCell ⟨R,0,none⟩ x0).setCell ⟨R,1,none⟩ x1):=
 ⟨Row.set (Row.set e q.c0 c _) (u0:=u1) (q.set0 x0).c1 b _,(d.setCell a _).setCell a _⟩
theorem RN.below{W W':F}{v:G}{n:Nat}(h:RN W v n)(a:I W.heap.size W W'):RN W' v n:=Row.below h a
theorem RN.form(h:RN W v n):∃a cap,v=C a (Jc 10000 n).length cap:=by
 obtain⟨a,cap,e,_⟩:=h;exact⟨a,cap,e⟩
theorem NT(a b:G)(m n:Nat)(w:F)(d:RN w a m)(f:RN w b n):
 Calls H 143 #[a,b] w λe c=>e=.returned (.int .i64 (YT m n))/\I w.heap.size w c:=by
 have h:=LX 10000 om a b _ _ w d f (Jo om m) (Jo om n) (Yf om m) (Yf om n);rw[Jm om,Jm om]at h;exact h
theorem Y6(w:F)(c a b:Obj):I w.heap.size w (((w.alloc c).alloc a).alloc b):=
 (((BB _ w).alloc (Aa _) _).alloc DO _).alloc si _
theorem NU{m:Nat}(h:n<=m):0<=YT m n:=by
 rcases AB n m with g|g
 . rw[GT g];omega
 . have:m=n:=om
   rw[this,LM];omega
theorem RL(a b:Option Addr)(k lb g f m n:Nat)(s:Bool)(w:F)(O:RN w (C a k g) m)(A:RN w (C b lb f) n)(y:(Jc 10000 m).length<=1000000000)(M:(Jc 10000 n).length<=1000000000):
 Calls H 108 #[.agg #[C a k g,E s],.agg #[C b lb f,E s]] w λe l=>∃c r x,e=.returned (.agg #[C c r x,E (s&&decide (0<r))])/\RN l (C c r x) (m+n)/\I w.heap.size w l:=by
 have Q:¬(w.heap.size=w.heap.size+1+1):=om
 go_enter Tryz.func108,Tryz.ntmps108
 go_wp2_with fail
 have j:=Y6 w (D #[C a k g,E s] 47) (D #[C b lb f,E s] 47) (D #[C none 0 0,E false] 47);have b0:=((Jj.new w 47 (C a k g) (E s)).alloc (D #[C b lb f,E s] 47)).alloc (D #[C none 0 0,E false] 47);have i:=(Jj.new (w.alloc (D #[C a k g,E s] 47)) 47 (C b lb f) (E s)).alloc (D #[C none 0 0,E false] 47);have d:=Jj.new ((w.alloc (D #[C a k g,E s] 47)).alloc (D #[C b lb f,E s] 47)) 47 (C none 0 0) (E false);simp only[A1]at i d;go_region_held3 (λl=>l.cell? ⟨w.heap.size,0,none⟩=some (C a k g)/\l.cell? ⟨w.heap.size+1,0,none⟩=some (C b lb f)/\l.cell? ⟨w.heap.size,1,none⟩=some (E s)) (refine⟨?_,?_,?_⟩<;>(first|(go_keep;done)|((repeat rw[JH om]);simp[*];done)))
  (first
   |(go_at_call 142;refine(RG _ _ m n _ ?_ ?_ y M).mono ?_;exact O.below j.drew;exact A.below j.drew;rintro e R ⟨u,rfl,p,q⟩;obtain⟨t,c',rfl⟩:=p.form;have b0:=b0.drew.below q;have i:=i.drew.below q;have d:=d.drew.below q;have j:=Below.then j.drew q;have N:=b0.c0;have J:=b0.c1;have B:=i.c0)
   |(go_at_call 141;refine(GV _ _ _ _ _).mono ?_;rintro e P ⟨rfl,o⟩;have p:=Row.below p o;have b0:=b0.below o;have i:=i.below o;have d:=d.below o;have j:=Below.then j o;have N:=b0.c0;have J:=b0.c1;have B:=i.c0;have r0:=d.c0;have L:=d.c1;have f0:=d.f0;have f1:=d.f1))
 all_goals go_wp2_with fail
 obtain⟨K,z⟩:=J5 (C t (Jc 10000 (m+n)).length c') (E (s&&decide (0<(Jc 10000 (m+n)).length))) j om d rfl rfl p;exact BA (v:=.agg #[C t (Jc 10000 (m+n)).length c',E (s&&decide (0<(Jc 10000 (m+n)).length))]) (by simp[results,Tryz.results108,go_sem,r0,L]) rfl ⟨_,_,_,rfl,K,z⟩
theorem RM(a b:Option Addr)(k lb j i m n:Nat)(s:Bool)(w:F)(K:RN w (C a k j) m)(z:RN w (C b lb i) n)(M:(Jc 10000 m).length<=1000000000)(t:n<=m):
 Calls H 108 #[.agg #[C a k j,E s],.agg #[C b lb i,E (!s)]] w λe l=>∃c x L,e=.returned (.agg #[C c x L,E (s&&decide (0<x))])/\RN l (C c x L) (m-n)/\I w.heap.size w l:=by
 have T:¬(w.heap.size=w.heap.size+1+1):=om
 have hs:(s == !s)=false:=by cases s<;>rfl
 have R:=NU t;have O:Hid (n<=m):=t;clear t;have f:=Y6 w (D #[C a k j,E s] 47) (D #[C b lb i,E (!s)] 47) (D #[C none 0 0,E false] 47);have b0:=((Jj.new w 47 (C a k j) (E s)).alloc (D #[C b lb i,E (!s)] 47)).alloc (D #[C none 0 0,E false] 47);have g:=(Jj.new (w.alloc (D #[C a k j,E s] 47)) 47 (C b lb i) (E (!s))).alloc (D #[C none 0 0,E false] 47);have d:=Jj.new ((w.alloc (D #[C a k j,E s] 47)).alloc (D #[C b lb i,E (!s)] 47)) 47 (C none 0 0) (E false);simp only[A1]at g d;go_enter Tryz.func108,Tryz.ntmps108
 go_wp2_with(first
  |(go_at_call 143;refine(NT _ _ m n _ ?_ ?_).mono ?_;exact K.below f;exact z.below f;rintro e w0 ⟨rfl,p⟩;have b0:=b0.below p;have g:=g.below p;have d:=d.below p;have f:=Below.then f p;have J:=b0.c0;have A:=b0.c1;have B:=g.c0))
 go_region_held3 (λl=>l.cell? ⟨w.heap.size,0,none⟩=some (C a k j)/\l.cell? ⟨w.heap.size+1,0,none⟩=some (C b lb i)/\l.cell? ⟨w.heap.size,1,none⟩=some (E s)) (refine⟨?_,?_,?_⟩<;>(first|(go_keep;done)|((repeat rw[JH om]);simp[*];done)))
  (first
   |(go_at_call 144;refine(KG _ _ m n _ ?_ ?_ (CQ (Nat.lt_succ_of_le O.out)) M).mono ?_;exact K.below f.drew;exact z.below f.drew;rintro e U ⟨u,rfl,q,r⟩;obtain⟨y,c',rfl⟩:=q.form;have b0:=b0.drew.below r;have g:=g.drew.below r;have d:=d.drew.below r;have f:=Below.then f.drew r;have J:=b0.c0;have A:=b0.c1;have B:=g.c0)
   |(go_at_call 141;refine(GV _ _ _ _ _).mono ?_;rintro e S ⟨rfl,o⟩;have q:=Row.below q o;have b0:=b0.below o;have g:=g.below o;have d:=d.below o;have f:=Below.then f o;have J:=b0.c0;have A:=b0.c1;have B:=g.c0;have r0:=d.c0;have Q:=d.c1;have f0:=d.f0;have f1:=d.f1))
 all_goals go_wp2_with fail
 obtain⟨P,N⟩:=J5 (C y (Jc 10000 (m-n)).length c') (E (s&&decide (0<(Jc 10000 (m-n)).length))) f om d rfl rfl q;exact BA (v:=.agg #[C y (Jc 10000 (m-n)).length c',E (s&&decide (0<(Jc 10000 (m-n)).length))]) (by simp[results,Tryz.results108,go_sem,r0,Q]) rfl ⟨_,_,_,rfl,P,N⟩
theorem RO(a b:Option Addr)(k lb j i m n:Nat)(s:Bool)(w:F)(K:RN w (C a k j) m)(z:RN w (C b lb i) n)(M:(Jc 10000 n).length<=1000000000)(t:m<n):
 Calls H 108 #[.agg #[C a k j,E s],.agg #[C b lb i,E (!s)]] w λe l=>∃c x L,e=.returned (.agg #[C c x L,E ((!s)&&decide (0<x))])/\RN l (C c x L) (n-m)/\I w.heap.size w l:=by
 have T:¬(w.heap.size=w.heap.size+1+1):=om
 have hs:(s == !s)=false:=by cases s<;>rfl
 have R:YT m n<0:=by rw[Xu t];omega
 have O:Hid (m<n):=t;clear t;have g:=Y6 w (D #[C a k j,E s] 47) (D #[C b lb i,E (!s)] 47) (D #[C none 0 0,E false] 47);have b0:=((Jj.new w 47 (C a k j) (E s)).alloc (D #[C b lb i,E (!s)] 47)).alloc (D #[C none 0 0,E false] 47);have d:=(Jj.new (w.alloc (D #[C a k j,E s] 47)) 47 (C b lb i) (E (!s))).alloc (D #[C none 0 0,E false] 47);have f:=Jj.new ((w.alloc (D #[C a k j,E s] 47)).alloc (D #[C b lb i,E (!s)] 47)) 47 (C none 0 0) (E false);simp only[A1]at d f;go_enter Tryz.func108,Tryz.ntmps108
 go_wp2_with(first
  |(go_at_call 143;refine(NT _ _ m n _ ?_ ?_).mono ?_;exact K.below g;exact z.below g;rintro e w0 ⟨rfl,p⟩;have b0:=b0.below p;have d:=d.below p;have f:=f.below p;have g:=Below.then g p;have J:=b0.c0;have A:=d.c1;have B:=d.c0))
 go_region_held3 (λl=>l.cell? ⟨w.heap.size,0,none⟩=some (C a k j)/\l.cell? ⟨w.heap.size+1,0,none⟩=some (C b lb i)/\l.cell? ⟨w.heap.size+1,1,none⟩=some (E (!s))) (refine⟨?_,?_,?_⟩<;>(first|(go_keep;done)|((repeat rw[JH om]);simp[*];done)))
  (first
   |(go_at_call 144;refine(KG _ _ n m _ ?_ ?_ (CQ (Nat.lt_succ_of_le (Fw O.out))) M).mono ?_;exact z.below g.drew;exact K.below g.drew;rintro e U ⟨u,rfl,q,r⟩;obtain⟨y,c',rfl⟩:=q.form;have b0:=b0.drew.below r;have d:=d.drew.below r;have f:=f.drew.below r;have g:=Below.then g.drew r;have J:=b0.c0;have A:=d.c1;have B:=d.c0)
   |(go_at_call 141;refine(GV _ _ _ _ _).mono ?_;rintro e S ⟨rfl,o⟩;have q:=Row.below q o;have b0:=b0.below o;have d:=d.below o;have f:=f.below o;have g:=Below.then g o;have J:=b0.c0;have A:=d.c1;have B:=d.c0;have r0:=f.c0;have Q:=f.c1;have f0:=f.f0;have f1:=f.f1))
 all_goals go_wp2_with fail
 obtain⟨P,N⟩:=J5 (C y (Jc 10000 (n-m)).length c') (E ((!s)&&decide (0<(Jc 10000 (n-m)).length))) g om f rfl rfl q;exact BA (v:=.agg #[C y (Jc 10000 (n-m)).length c',E ((!s)&&decide (0<(Jc 10000 (n-m)).length))]) (by simp[results,Tryz.results108,go_sem,r0,Q]) rfl ⟨_,_,_,rfl,P,N⟩
theorem RN.len{a:Option Addr}{l:Nat}(h:RN W (C a l c) n):l=(Jc 10000 n).length:=by
 obtain⟨b,cap,e,_⟩:=h;cases e;rfl
theorem KJ{d:G}{p q:Bool}(h:p=q):Value.agg #[d,E p]=.agg #[d,E q]:=by rw[h]
def Jr(W:F)(v:G)(z:Int):Prop:=∃a l cap,v=.agg #[C a l cap,E (decide (z<0))]/\RN W (C a l cap) z.natAbs
theorem Jr.below{W W':F}{v:G}{z:Int}(h:Jr W v z)(c:I W.heap.size W W'):Jr W' v z:=by
 obtain⟨a,l,cap,e,b⟩:=h;exact⟨a,l,cap,e,b.below c⟩
def EA(z:Int):Nat:=(Jc 10000 z.natAbs).length
theorem XW:0<(Jc 10000 n).length↔n≠0:=by
 rw[A3,Ne,JB om]
theorem LY(t s:G)(x y:Int)(w:F)(z:Jr w t x)(v:Jr w s y)(l:EA x<=1000000000)(p:EA y<=1000000000):
 Calls H 108 #[t,s] w λe k=>∃u,e=.returned u/\Jr k u (x+y)/\I w.heap.size w k:=by
 obtain⟨a,r,o,rfl,q⟩:=z;obtain⟨b,lb,m,rfl,n⟩:=v;unfold EA at l p;by_cases hs:decide (x<0)=decide (y<0)
 . rw[<-hs];refine(RL a b r lb o m _ _ _ w q n l p).mono ?_;rintro e k ⟨c,g,i,rfl,d,j⟩;have hl:=d.len;have f:x.natAbs+y.natAbs=(x+y).natAbs:=by
    have:(x<0↔y<0):=by simpa using hs
    omega
   rw[f]at d hl;refine⟨_,rfl,⟨c,g,i,?_,d⟩,j⟩;refine KJ ?_;rw[Cn];simp only[AA,BQ];rw[hl,XW];have:(x<0↔y<0):=by simpa using hs
   omega
 . have B:decide (y<0)=!decide (x<0):=by
    cases J:decide (x<0)<;>cases L:decide (y<0)<;>simp_all
   have K:¬(x<0↔y<0):=by simpa using hs
   rw[B];by_cases A:y.natAbs<=x.natAbs
   . refine(RM a b r lb o m _ _ _ w q n l A).mono ?_;rintro e k ⟨c,g,i,rfl,d,j⟩;have hl:=d.len;have f:x.natAbs-y.natAbs=(x+y).natAbs:=om
     rw[f]at d hl;refine⟨_,rfl,⟨c,g,i,?_,d⟩,j⟩;refine KJ ?_;rw[Cn];simp only[AA,BQ];rw[hl,XW];omega
   . refine(RO a b r lb o m _ _ _ w q n p om).mono ?_;rintro e k ⟨c,g,i,rfl,d,j⟩;have hl:=d.len;have f:y.natAbs-x.natAbs=(x+y).natAbs:=om
     rw[f]at d hl;refine⟨_,rfl,⟨c,g,i,?_,d⟩,j⟩;refine KJ ?_;rw[Cn];simp only[AA,BQ,Cl,Be];rw[hl,XW];omega
theorem He(w:F)(b a:Obj):I w.heap.size w ((w.alloc b).alloc a):=
 ((BB _ w).alloc (Aa _) _).alloc DO _
theorem RP(a:Option Addr)(b c m:Nat)(s:Bool)(w:F)(l:RN w (C a b c) m):
 Calls H 126 #[.agg #[C a b c,E s]] w λe i=>e=.returned (.agg #[C a b c,E (!s&&decide (0<b))])/\RN i (C a b c) m/\I w.heap.size w i:=by
 have f:=He w (D #[C a b c,E s] 47) (D #[C none 0 0,E false] 47);have d:=Jj.new (w.alloc (D #[C a b c,E s] 47)) 47 (C none 0 0) (E false);simp only[A1]at d;go_enter Tryz.func126,Tryz.ntmps126
 go_wp2_with(first
  |(go_at_call 141;refine(GV _ _ _ _ _).mono ?_;rintro e o ⟨rfl,g⟩;have d:=d.below g;have f:=Below.then f g;have r0:=d.c0;have j:=d.c1;have f0:=d.f0;have f1:=d.f1))
 obtain⟨n,k⟩:=J5 (C a b c) (E (!s&&decide (0<b))) f om d rfl rfl (l.below f);exact BA (v:=.agg #[C a b c,E (!s&&decide (0<b))]) (by simp[results,Tryz.results126,go_sem,r0,j]) rfl ⟨rfl,n,k⟩
theorem NW(f:G)(x:Int)(w:F)(i:Jr w f x):
 Calls H 126 #[f] w λe b=>∃u,e=.returned u/\Jr b u (-x)/\I w.heap.size w b:=by
 obtain⟨a,g,d,rfl,j⟩:=i;refine(RP a g d _ _ w j).mono ?_;rintro e b ⟨rfl,c,k⟩;have hl:=c.len;rw[show x.natAbs=(-x).natAbs from by omega]at c hl;refine⟨_,rfl,⟨a,g,d,?_,c⟩,k⟩;refine KJ ?_;rw[Cn];simp only[AA,BQ,Cl,Be];rw[hl,XW];omega
theorem KK(c:UInt8)(l:List UInt8):(⟨#[c]⟩:ByteArray)++⟨l.toArray⟩=⟨(c::l).toArray⟩:=by
 apply Fg;simp[ByteArray.data_append]
theorem NX(c:UInt8)(s:ByteArray):((⟨#[c]⟩:ByteArray)++s).size=1+s.size:=by
 rw[ByteArray.size_append];rfl
theorem NY(w:F)(n:Nat):(convert 87 9 (C (some ⟨w.heap.size,0,none⟩) 1 1)).run H (w.alloc (D #[.int .u8 (48+(n:Int)%10)] 5))=.ok (.string ⟨#[Ea (n%10)]⟩) (w.alloc (D #[.int .u8 (48+(n:Int)%10)] 5)):=by
 have h:=run_convert_bytes_back (P:=H) (w.alloc (D #[.int .u8 (48+(n:Int)%10)] 5)) 87 9 5 ⟨w.heap.size,0,none⟩ 1 [Ea (n%10)] Tryz.underlying87 Tryz.underlying5 Tryz.underlying9 (by
  intro j a;have:j=0:=by simp at a;omega
  subst this;have e:(((Ea (n%10)).toNat:Nat):Int)=48+(n:Int)%10:=by
   have b:(Ea (n%10)).toNat=48+n%10:=by
    unfold Ea;rw[UInt8.toNat_ofNat'];omega
   rw[b];omega
  simp only[List.getElem_cons_zero,e];go_simp)
 exact h
theorem RQ(w:F):(convert 87 9 (C (some ⟨w.heap.size,0,none⟩) 1 1)).run H (w.alloc (D #[.int .u8 48] 5))=.ok (.string ⟨#[Ea 0]⟩) (w.alloc (D #[.int .u8 48] 5)):=NY w 0
theorem RR(a:Option Addr)(l r m:Nat)(s:Bool)(w:F)(L:RN w (C a l r) m)(K:m≠0)(hl:l<=1000000000):
 Calls H 61 #[.agg #[C a l r,E s]] w λe w'=>e=.returned (.string ⟨(if s then 45::EG (Jc 10 m)else EG (Jc 10 m)).toArray⟩)/\I w.heap.size w w':=by
 have V:=L.len;have aq:l≠0:=by rw[V];have:=(XW (n:=m)).2 K;omega
 obtain⟨a',aj,e0,hle,ap,_,HA⟩:=Row.open L;have t:=Jo (B:=10000) om m;have R:Hid (∀i k D,Xv (Jc 10000 m) i k 0 D->i+1=(Jc 10000 m).length->D=Jc 10 m):=λi k D h M=>by
  have:=(h.last M).2.2.2;rw[Jm om]at this;exact this K (Yf om m)
 have W:Hid (∀i n D,Xv (Jc 10000 m) i 4 n D->D.length=4*(i+1)/\DP 10 D/\val 10 D=val 10000 ((Jc 10000 m).take (i+1))):=λi n D h=>h.next t;cases e0;clear L K;generalize Jc 10000 m=ds at *;generalize Jc 10 m=o at *;have an:((ds.length:Int)==0)=false:=beq_eq_false_iff_ne.2 om;clear V;have d:=Jj.new w 47 (C a ds.length r) (E s);go_enter Tryz.func61,Tryz.ntmps61
 go_wp2;go_loopw [3,4] (λu J wr=>∃(i:Nat) (D:List Nat) (c:ByteArray),J=.int .i64 i/\u=.string c/\i<=ds.length/\c.size<=4*i/\Hid (c=⟨(EG D).toArray⟩)/\Hid ((i<ds.length/\D.length=4*i/\DP 10 D/\val 10 D=val 10000 (ds.take i))\/(i=ds.length/\D=o))/\Jj wr w.heap.size 47 (C a ds.length r) (E s)/\I w.heap.size w wr)
  (λ_ J _=>ds.length-(intOf J).toNat)
 case atStart=>exact⟨0,[],⟨#[]⟩,rfl,rfl,om,by show 0<=_;omega,rfl,Or.inl ⟨om,rfl,DP.nil _,by simp[val]⟩,d,(BB _ _).alloc (Aa _) _⟩
 case round=>
  obtain⟨i,D,c,rfl,rfl,hi,v,j,N,d,f⟩:=hrel;have c0:=d.c0;have c1:=d.c1;by_cases ae:i<ds.length
  . obtain⟨b,off,rfl,Z,S⟩:=HA.out i ae;have Q:wr.cell? ⟨b,off+i,none⟩=some (.int .i64 (ds[i]?.getD 0:Nat)):=(f.cell (p:=⟨b,off+i,none⟩) Z).trans S;clear S;have q:Xv ds i 0 (ds[i]?.getD 0) D:=by
     rcases N.out with⟨_,T,M,Y⟩|⟨T,_⟩
     . exact Xv.start T M Y
     . omega
    have g:=YU q;clear q N;have O:=t.getD om i;generalize ds[i]?.getD 0=x at Q g O;go_wp2;go_loopw [3,5,6] (λu nv z wr=>∃(k n:Nat) (D:List Nat) (c:ByteArray),z=.int .i64 k/\nv=.int .i64 n/\u=.string c/\k<=4/\n<10000/\c.size<=4*i+k/\Hid (c=⟨(EG D).toArray⟩)/\Hid (Xv ds i k n D)/\Jj wr w.heap.size 47 (C (some ⟨b,off,none⟩) ds.length r) (E s)/\I w.heap.size w wr)
     (λ_ _ z _=>4-(intOf z).toNat)
    case atStart=>exact⟨0,x,D,c,rfl,rfl,rfl,om,O,om,j,g,d,f⟩
    case round=>
     clear d c0 c1 f j g Q v O;obtain⟨k,n,D,c,rfl,rfl,rfl,af,ak,v,j,g,d,f⟩:=hrel;have c0:=d.c0;have c1:=d.c1;by_cases U:k<4
     . have ah:(k:Int)<4:=om
       by_cases ad:0<n
       . have Qe:=NY wr n;have ai:(0:Int)<n:=om
         go_wp2;refine⟨⟨k+1,n/10,D++[n%10],_,DO,DO,rfl,om,om,by rw[NX];omega,?_,g.out.step U (Or.inl ad),d.alloc _,f.alloc f.size _⟩,by simp[intOf];omega⟩;show _=_;rw[j.out,KK,LO]
       . by_cases P:i+1<ds.length
         . have y:n=0:=om
           subst y;have Qe:=RQ wr;have X:(i:Int)+1<ds.length:=om
           go_wp2;refine⟨⟨k+1,0/10,D++[0%10],_,DO,DO,rfl,om,om,by rw[NX];omega,?_,g.out.step U (Or.inr P),d.alloc _,f.alloc f.size _⟩,by simp[intOf];omega⟩;show _=_;rw[j.out,KK,LO]
         . have y:n=0:=om
           subst y;have X:decide ((i:Int)+1<ds.length)=false:=BF om;have A:=YU (R.out i k D g.out om);go_wp2;go_roundw
           case rel=>exact⟨i+1,D,c,DO,rfl,om,om,j,Or.inr ⟨om,A.out⟩,d,f⟩
           case measure=>simp[intOf];omega
     . have Qc:k=4:=om
       subst Qc;have A:Hid ((i+1<ds.length/\D.length=4*(i+1)/\DP 10 D/\val 10 D=val 10000 (ds.take (i+1)))\/(i+1=ds.length/\D=o)):=by
        by_cases P:i+1<ds.length
        . exact Or.inl ⟨P,W.out i n D g.out⟩
        . have q:=g.out;have h0:n=0:=by
           have h4:=q.2.2.2.1;rw[h4];exact Cj (by have:=t.getD om i;simpa using this)
          subst h0;exact Or.inr ⟨om,R.out i 4 D q om⟩
       go_wp2;go_roundw
       case rel=>exact⟨i+1,D,c,DO,rfl,om,om,j,A,d,f⟩
       case measure=>simp[intOf];omega
  . have e:c=⟨(EG o).toArray⟩:=by
     rcases N.out with⟨h,_⟩|⟨_,h⟩
     . omega
     . rw[j.out,h]
    subst e;cases s
    . go_wp2;go_ret;exact⟨rfl,f⟩
    . have hz:(EG o).length<=4*i:=v;go_wp2;go_ret;refine⟨?_,f⟩;show Ending.returned (.string (⟨#[45]⟩++⟨(EG o).toArray⟩))=_;rw[KK]
theorem KL(v:G)(z:Int)(w:F)(h:Jr w v z)(hl:EA z<=1000000000):
 Calls H 61 #[v] w λe f=>e=.returned (.string ⟨(YI z).toArray⟩)/\I w.heap.size w f:=by
 obtain⟨a,l,cap,rfl,b⟩:=h;by_cases c:z.natAbs=0
 . have j:z=0:=om
   subst j;have d:=b.len;have i:l=0:=by rw[d];simp[Jy]
   subst i;clear b d hl;go_enter Tryz.func61,Tryz.ntmps61
   go_wp2;go_ret;exact⟨rfl,(BB _ _).alloc (Aa _) _⟩
 . refine(RR a l cap _ _ w b c (by rw[b.len];exact hl)).mono ?_;rintro e f ⟨rfl,k⟩;refine⟨?_,k⟩;unfold YI;rw[I9 c];by_cases g:z<0
   . simp[g]
   . simp[g]
theorem Jj.kept{row:Option Nat}(h:Jj W B t x y)(a:W.grownBy W' row)(b:some B≠row):Jj W' B t x y:=(a.block B h.lt b).trans h
def Ey(b c:Nat)(a:List Nat):Prop:=DP 10000 a/\val 10000 a+10000^a.length*c=b/\a.length<=100/\(a=[]\/c≠0\/10000^(a.length-1)<=val 10000 a)
theorem Ey.step(h:Ey i c f)(n:i<=9223372036854775808)(l:c≠0):Ey i (c/10000) (f++[c%10000]):=by
 obtain⟨a,b,e,m⟩:=h;refine⟨a.append (DP.cons (A9 _ om) (DP.nil _)),?_,?_,?_⟩
 . rw[Yl,Al,Fh,AR,Aw,CJ,<-Av,Nat.mod_add_div];exact b
 . rcases AB f.length 20 with h|h
   . simp;omega
   . have k:(10000:Nat)^20<=10000^f.length:=AD om h;have j:10000^f.length*1<=10000^f.length*c:=Az _ om;have d:(10000:Nat)^20=100000000000000000000000000000000000000000000000000000000000000000000000000000000:=DR
     omega
 . right
   by_cases g:c/10000=0
   . right
     rw[Al,Fh,Nat.add_sub_cancel,Yl];have:c%10000≠0:=om
     have:=Az (10000^f.length) (show 1<=c%10000 by omega);omega
   . exact Or.inl g
theorem Ey.done(h:Ey i 0 f):f=Jc 10000 i:=by
 obtain⟨b,a,d,c⟩:=h;rw[Cq,Cd]at a;rw[<-a];refine(YS om b (LN om b ?_)).symm;rcases c with h|h|h
 . exact Or.inl h
 . exact absurd rfl h
 . exact Or.inr h
theorem XL{wr:F}{base:Nat}{e:TypeId}{o:Obj}{m:G}{D:Int}(d:Nat)(L:D=(d:Nat))(Q:w.heap.size<=B)(A:B<base)(r:I w.heap.size w wr)(O:Jj wr B t v y)(M:wr.ownsRow base e 1 v f.length (cellsOf k f))
(J:j.ownsRow base e 1 m (f.length+1) (cellsOf k f++[.int k D]))(u:(wr.alloc o).grownBy j v.ownBlock):
 ∃g p,m=C (some ⟨g,0,none⟩) (f++[d]).length p/\(j.setCell ⟨B,0,none⟩ m).ownsRow base e 1 m (f++[d]).length (cellsOf k (f++[d]))/\Jj j B t v y/\I w.heap.size w j/\base<=j.heap.size/\(∀a i c l,a<base->Jj wr a i c l->Jj j a i c l):=by
 obtain⟨g,p,x⟩:=ownsRow_succ J;subst L;have K:∀q,v.ownBlock=some q->base<=q/\q<wr.heap.size:=λq n=>M.lt q n;have z:∀a i c l,a<base->Jj wr a i c l->Jj j a i c l:=λa i c l h b=>(b.alloc o).kept u (λN=>by have:=(K a N.symm).1;omega);have s:j.ownsRow base e 1 m (f++[d]).length (cellsOf k (f++[d])):=by rw[LW];simpa using J
 refine⟨g,p,by rw[x];simp,ownsRow_setCell_below s A m,z _ _ _ _ A O,?_,?_,z⟩
 . exact(r.alloc r.size _).grown u (by simp;have:=r.size;omega) (λq n=>by have:=(K q n).1;omega)
 . rcases s.2 with⟨h,_⟩|⟨U,T,R,_,S,P,_⟩
   . rw[x]at h;cases h
   . have:=(Ac.1 P).1;omega
theorem RS(b:Nat)(hN:b<=9223372036854775807)(w:F):
 Calls H 93 #[.int .i64 b] w λe y=>∃u,e=.returned u/\Jr y u b/\I w.heap.size w y:=by
 obtain⟨S,P,W,R,J⟩:=Bp Tryz.infoInt;have d:=(Jj.new w 47 (C none 0 0) (E false)).alloc (D #[C none 0 0,E false] 47);have f:=Jj.new (w.alloc (D #[C none 0 0,E false] 47)) 47 (C none 0 0) (E false);simp only[A1]at f;have t:=He w (D #[C none 0 0,E false] 47) (D #[C none 0 0,E false] 47);have r:Hid (∀a,Ey b 0 a->a=Jc 10000 b):=λa h=>h.done;have x:Hid (∀c a,Ey b c a->c≠0->Ey b (c/10000) (a++[c%10000])):=λc a h k=>h.step om k;go_enter Tryz.func93,Tryz.ntmps93
 go_wp2;go_loopw [0] (λm wr=>∃(c:Nat) (a:List Nat) (i:Option Addr) (j:Nat),m=.int .i64 c/\c<=b/\a.length<=100/\Hid (Ey b c a)/\Jj wr w.heap.size 47 (C none 0 0) (E false)/\Jj wr (w.heap.size+1) 47 (C i a.length j) (E false)/\wr.ownsRow (w.heap.size+1+1) 3 1 (C i a.length j) a.length (cellsOf .i64 a)/\I w.heap.size w wr/\w.heap.size+1+1<=wr.heap.size)
  (λm _=>(intOf m).toNat)
 case atStart=>exact⟨b,[],none,0,rfl,Aa _,DO,⟨DP.nil _,by simp[val],DO,Or.inl rfl⟩,d,f,Bo _ _ _ _,t,DO⟩
 case round=>
  clear d f t;obtain⟨c,a,i,j,rfl,af,Z,o,d,f,n,z,X⟩:=hrel;have c0:=f.c0;have c1:=f.c1;have f0:=f.f0;by_cases k:c=0
  . subst k;have e:=r.out a o.out;have r0:=d.c0;have Q:=d.c1;have g0:=d.f0;have g1:=d.f1;clear r x;go_wp2;subst e;obtain⟨O,K⟩:=J5 (C i (Jc 10000 b).length j) (E false) z (Aa _) d rfl rfl (Row.of_owns n om);exact BA (v:=.agg #[C i (Jc 10000 b).length j,E false]) (by simp[results,Tryz.results93,go_sem,r0,Q]) rfl ⟨_,rfl,⟨i,_,j,by rw[show decide ((b:Int)<0)=false from BF om],O⟩,K⟩
  . have ae:((c:Int) != 0)=true:=by rw[DB];omega
    have q:=YU (x.out c a o.out k);go_wp2_with(first
     |(at_builtin;refine BT _ rfl _ _ 45 rfl (w.heap.size+1+1) 3 S (.int .i64 0) 1 8 Tryz.underlying45 P W R J rfl DR (C i a.length j) a.length (cellsOf .i64 a) rfl (n.alloc _) ⟨wr.heap.size,0,none⟩ 1 1 [_] rfl rfl (Bi _ _ _) (by simp[Value.oneCell']) (by unfold maxLen;omega) om si ?_;intro v' Y T L ad;obtain⟨g,M,B,s,l,V,U,N⟩:=XL (c%10000) om om om z f n T L;have d0:=l.c0;have d1:=l.f0;subst B))
    have A:(a++[c%10000]).length<=100:=q.out.2.2.1;have p:(a++[c%10000]).length=a.length+1:=DO
    go_roundw
    case rel=>exact⟨c/10000,a++[c%10000],some ⟨g,0,none⟩,M,DO,om,A,q,(N _ _ _ _ om d).far DO _,by rw[p];exact l.set0 _,by rw[p]at s ⊢;exact s,V.setCell DO _,by simpa[World.setCell]using U⟩
    case measure=>simp[intOf];omega
theorem RT(c:Nat):(-(c:Int)).tmod 10000=-((c%10000:Nat):Int):=by
 rw[Int.neg_tmod,Int.tmod_eq_emod_of_nonneg om];rfl
theorem RU(c:Nat):(-(c:Int)).tdiv 10000=-((c/10000:Nat):Int):=by
 rw[Int.neg_tdiv,Int.tdiv_eq_ediv_of_nonneg om];rfl
theorem RV(b:Nat)(h0:1<=b)(hN:b<=9223372036854775808)(w:F):
 Calls H 93 #[.int .i64 (-(b:Int))] w λe T=>∃u,e=.returned u/\Jr T u (-(b:Int))/\I w.heap.size w T:=by
 have ah:0<b:=h0;obtain⟨R,M,U,O,L⟩:=Bp Tryz.infoInt;have d:=(Jj.new w 47 (C none 0 0) (E false)).alloc (D #[C none 0 0,E true] 47);have f:=Jj.new (w.alloc (D #[C none 0 0,E false] 47)) 47 (C none 0 0) (E true);simp only[A1]at f;have K:=He w (D #[C none 0 0,E false] 47) (D #[C none 0 0,E true] 47);have P:Hid (∀a,Ey b 0 a->a=Jc 10000 b):=λa h=>h.done;have S:Hid (∀c a,Ey b c a->c≠0->Ey b (c/10000) (a++[c%10000])):=λc a h p=>h.step om p;go_enter Tryz.func93,Tryz.ntmps93
 go_wp2;go_loopw [0] (λx wr=>∃(c:Nat) (a:List Nat) (i:Option Addr) (j:Nat),x=.int .i64 (-(c:Int))/\c<=b/\a.length<=100/\Hid (Ey b c a)/\Jj wr w.heap.size 47 (C none 0 0) (E false)/\Jj wr (w.heap.size+1) 47 (C i a.length j) (E true)/\wr.ownsRow (w.heap.size+1+1) 3 1 (C i a.length j) a.length (cellsOf .i64 a)/\I w.heap.size w wr/\w.heap.size+1+1<=wr.heap.size)
  (λx _=>(-(intOf x)).toNat)
 case atStart=>exact⟨b,[],none,0,rfl,Aa _,DO,⟨DP.nil _,by simp[val],DO,Or.inl rfl⟩,d,f,Bo _ _ _ _,K,DO⟩
 case round=>
  clear d f K;obtain⟨c,a,i,j,rfl,aj,af,N,d,f,m,J,ae⟩:=hrel;have c0:=f.c0;have c1:=f.c1;have f0:=f.f0;have ht:=RT c;have Y:=RU c;by_cases p:c=0
  . subst p;have e:=P.out a N.out;have r0:=d.c0;have Z:=d.c1;have g0:=d.f0;have g1:=d.f1;clear P S ht Y;go_wp2;subst e;obtain⟨W,V⟩:=J5 (C i (Jc 10000 b).length j) (E true) J (Aa _) d rfl rfl (Row.of_owns m om);exact BA (v:=.agg #[C i (Jc 10000 b).length j,E true]) (by simp[results,Tryz.results93,go_sem,r0,Z]) rfl ⟨_,rfl,⟨i,_,j,by rw[show decide (-(b:Int)<0)=true from BJ om],by rw[Fa];exact W⟩,V⟩
  . have ai:((-(c:Int)) != 0)=true:=by rw[DB];omega
    have o:=YU (S.out c a N.out p);by_cases Q:c%10000=0
    . have Qc:(c:Int)%10000=0:=om
      have HM:=YU Q;clear Q;go_wp2_with(first
       |(at_builtin;refine BT _ rfl _ _ 45 rfl (w.heap.size+1+1) 3 R (.int .i64 0) 1 8 Tryz.underlying45 M U O L rfl DR (C i a.length j) a.length (cellsOf .i64 a) rfl (m.alloc _) ⟨wr.heap.size,0,none⟩ 1 1 [_] rfl rfl (Bi _ _ _) (by simp[Value.oneCell']) (by unfold maxLen;omega) om si ?_;intro v' X y r ad;obtain⟨g,s,q,n,k,A,z,t⟩:=XL (c%10000) om om om J f m y r;have d0:=k.c0;have d1:=k.f0;subst q))
      have B:(a++[c%10000]).length<=100:=o.out.2.2.1;have l:(a++[c%10000]).length=a.length+1:=DO
      go_roundw
      case rel=>exact⟨c/10000,a++[c%10000],some ⟨g,0,none⟩,s,DO,om,B,o,(t _ _ _ _ om d).far DO _,by rw[l];exact k.set0 _,by rw[l]at n ⊢;exact n,A.setCell DO _,by simpa[World.setCell]using z⟩
      case measure=>simp[intOf];omega
    . have Qc:0<(c:Int)%10000:=om
      go_wp2_with(first
       |(at_builtin;refine BT _ rfl _ _ 45 rfl (w.heap.size+1+1) 3 R (.int .i64 0) 1 8 Tryz.underlying45 M U O L rfl DR (C i a.length j) a.length (cellsOf .i64 a) rfl (m.alloc _) ⟨wr.heap.size,0,none⟩ 1 1 [_] rfl rfl (Bi _ _ _) (by simp[Value.oneCell']) (by unfold maxLen;omega) om si ?_;intro v' X y r ad;obtain⟨g,s,q,n,k,A,z,t⟩:=XL (c%10000) om om om J f m y r;have d0:=k.c0;have d1:=k.f0;subst q))
      have B:(a++[c%10000]).length<=100:=o.out.2.2.1;have l:(a++[c%10000]).length=a.length+1:=DO
      go_roundw
      case rel=>exact⟨c/10000,a++[c%10000],some ⟨g,0,none⟩,s,DO,om,B,o,(t _ _ _ _ om d).far DO _,by rw[l];exact k.set0 _,by rw[l]at n ⊢;exact n,A.setCell DO _,by simpa[World.setCell]using z⟩
      case measure=>simp[intOf];omega
theorem FS(n:Int)(c:-9223372036854775808<=n)(b:n<=9223372036854775807)(w:F):
 Calls H 93 #[.int .i64 n] w λe a=>∃u,e=.returned u/\Jr a u n/\I w.heap.size w a:=by
 by_cases h:n<0
 . have e:n=-(n.natAbs:Int):=om
   rw[e];exact RV n.natAbs om om w
 . have e:n=(n.natAbs:Int):=om
   rw[e];exact RS n.natAbs om w
