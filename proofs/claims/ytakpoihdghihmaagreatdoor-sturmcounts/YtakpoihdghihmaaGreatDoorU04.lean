import Derived.Test.YtakpoihdghihmaaGreatDoorU03
import Derived.Deep.RegionHeld3
set_option linter.all false
open Go.Value renaming slice->C,bool->B
open Go.Obj renaming cells->D
open Go renaming World->E,Value->F
open Go.RowKit renaming Below->G
set_option maxRecDepth 99999
set_option maxHeartbeats 0
namespace Go.Proofs.YtakpoihdghihmaaGreatDoor
open Proofs.Tryz
open Go.RowKit Go.Shelf
def Jp(W:E)(B:Nat)(t:TypeId)(x y:F):Prop:=W.heap[B]?=some (D #[x,y] t (0,0))
variable{k:IntKind}{f:m4}{N c n:Nat}{t:TypeId}{j v x y:F}{W W' i w:E}
def Jp.lt{B:Nat}(h:Jp W B t x y):B<W.heap.size:=(Ab.1 h).1
def Jp.c0{B:Nat}(h:Jp W B t x y):W.cell? ⟨B,0,none⟩=some x:=by simp[World.cell?,show W.heap[B]?=_ from h]
def Jp.c1{B:Nat}(h:Jp W B t x y):W.cell? ⟨B,1,none⟩=some y:=by simp[World.cell?,show W.heap[B]?=_ from h]
def Jp.cp{B:Nat}(h:Jp W B t x y):type_of% (And.intro h.c0 h.c1):=⟨h.c0,h.c1⟩
def Jp.f0{B:Nat}(h:Jp W B t x y):W.frozen? ⟨B,0,none⟩=false:=by simp[World.frozen?,show W.heap[B]?=_ from h]
def Jp.f1{B:Nat}(h:Jp W B t x y):W.frozen? ⟨B,1,none⟩=false:=by simp[World.frozen?,show W.heap[B]?=_ from h]
def Jp.fp{B:Nat}(h:Jp W B t x y):type_of% (And.intro h.f0 h.f1):=⟨h.f0,h.f1⟩
def Jp.new(W:E)(t:TypeId)(x y:F):Jp (W.alloc (D #[x,y] t)) W.heap.size t x y:=BB W _
def Jp.below{B:Nat}(h:Jp W B t x y)(a:G W.heap.size W W'):Jp W' B t x y:=(a.block B h.lt).trans h
def Jp.alloc{W:E}{B:Nat}{t:TypeId}{x y:F}(h:Jp W B t x y)(o:Obj):Jp (W.alloc o) B t x y:=h.below ((BA _ W).alloc (Aa _) o)
def Jp.drew{W:E}{B:Nat}{t:TypeId}{x y:F}(h:Jp W B t x y):Jp W.drew B t x y:=h
def Jp.set0{B:Nat}(h:Jp W B t x y)(u:F):Jp (W.setCell ⟨B,0,none⟩ u) B t u y:=by
 obtain⟨b,a⟩:=Ab.1 h;show(W.heap.modify B _)[B]?=_;rw[C5 (by rw[Array.size_modify];exact b),Array.getElem_modify_self,a];rfl
def Jp.set1{B:Nat}(h:Jp W B t x y)(u:F):Jp (W.setCell ⟨B,1,none⟩ u) B t x u:=by
 obtain⟨b,a⟩:=Ab.1 h;show(W.heap.modify B _)[B]?=_;rw[C5 (by rw[Array.size_modify];exact b),Array.getElem_modify_self,a];rfl
def Jp.far{B:Nat}(h:Jp W B t x y){p:Addr}(hp:B≠p.block)(u:F):Jp (W.setCell p u) B t x y:=(BC W p u B hp).trans h
def Below.then{w W a:E}(h:G w.heap.size w W)(k:G W.heap.size W a):G w.heap.size w a:=h.trans (k.mono h.size)
def Bt:=@Below.then
theorem JF{b o a c:Nat}{u:F}(h:b≠a):(w.setCell ⟨a,c,none⟩ u).cell? ⟨b,o,none⟩=w.cell? ⟨b,o,none⟩:=
 World.cell?_of_block (w:=w) (BC w ⟨a,c,none⟩ u b h)
def JE:F->Bool|.int _ _=>false|_=>true
theorem Row.set{k:IntKind}{W:E}{v:F}{ds:m4}(h:Row k W v ds){p:Addr}{u0:F}(hp:W.cell? p=some u0)(q:JE u0=true)(u:F):Row k (W.setCell p u) v ds:=by
 obtain⟨a,cap,e,f,g,i,c⟩:=h;refine⟨a,cap,e,f,g,i,?_⟩;rcases c with c|⟨b,m,d,l,n⟩
 . exact An c
 . refine Au ⟨b,m,d,l.set p u,λj o=>?_⟩;grind[JE,World.cell?_setCell_other]
def Yj{R:Nat}{u0 u1:F}(x0 x1:F){ds:m4}(b:G w.heap.size w i)(a:w.heap.size<=R)(q:Jp i R t u0 u1)(d:JE u0=true)(e:JE u1=true)(c:Row k i v ds):
 Row k ((i.setCell ⟨R,0,none⟩ x0).setCell ⟨R,1,none⟩ x1) v ds/\G w.heap.size w ((i.setCell ⟨R,0,none⟩ x0).setCell ⟨R,1,none⟩ x1):=
 ⟨Row.set (Row.set c q.c0 d _) (u0:=u1) (q.set0 x0).c1 e _,(b.setCell a _).setCell a _⟩
def RN.below{W W':E}{v:F}{n:Nat}(h:RN W v n)(a:G W.heap.size W W'):RN W' v n:=Row.below h a
def RN.form(h:RN W v n):∃a cap,v=C a (Jd 10000 n).length cap:=by
 obtain⟨a,cap,e,_⟩:=h;exact⟨a,cap,e⟩
def MX{a b c:TypeId}{x1 d f e g:F}(h:((w.alloc (D #[x1,j] a)).alloc (D #[d,f] b)).alloc (D #[e,g] c)=W):G w.heap.size w W/\Jp W w.heap.size a x1 j/\Jp W (w.heap.size+1) b d f/\Jp W (w.heap.size+1+1) c e g:=by
 subst h;have i:=(Jp.new (w.alloc (D #[x1,j] a)) b d f).alloc (D #[e,g] c);have k:=Jp.new ((w.alloc (D #[x1,j] a)).alloc (D #[d,f] b)) c e g;rw[Ax]at i;rw[Ax,Ax]at k;exact⟨(((BA _ w).alloc (Aa _) _).alloc DG _).alloc si _,((Jp.new w _ _ _).alloc _).alloc _,i,k⟩
def Rg(a b:F)(m n:Nat)(w:E)(c:RN w a m)(d:RN w b n):
 Calls Tryz.prog 146 #[a,b] w λe f=>e=.returned (.int .i64 (Xt m n))/\G w.heap.size w f:=by
 have h:=OX 10000 O a b _ _ w c d (Jr O m) (Jr O n) (Y3 O m) (Y3 O n);rw[Jq O,Jq O]at h;exact h
def Hu(w:E)(a b c:Obj):G w.heap.size w (((w.alloc a).alloc b).alloc c):=
 (((BA _ w).alloc (Aa _) _).alloc DG _).alloc si _
def Rh{m:Nat}(h:n<=m):0<=Xt m n:=by
 rcases AQ n m with g|g
 . rw[KT g];omega
 . have:m=n:=O
   rw[this,OL];omega
def ZK(a b:nJ)(la lb ca cb m n:Nat)(s:Bool)(w:E)(A:RN w (C a la ca) m)(H:RN w (C b lb cb) n)(r:(Jd 10000 m).length<=400000000000)(t:(Jd 10000 n).length<=400000000000):
 Calls Tryz.prog 96 #[.agg #[C a la ca,B s],.agg #[C b lb cb,B s]] w λe i=>∃c o p,e=.returned (.agg #[C c o p,B (s&&decide (0<o))])/\RN i (C c o p) (m+n)/\G w.heap.size w i:=by
 have I:¬(w.heap.size=w.heap.size+1+1):=O
 go_enter func96,ntmps96
 go_wp2_with fail
 have f:=Hu w (D #[C a la ca,B s] 45) (D #[C b lb cb,B s] 45) (D #[C none 0 0,B false] 45);have b0:=((Jp.new w 45 (C a la ca) (B s)).alloc (D #[C b lb cb,B s] 45)).alloc (D #[C none 0 0,B false] 45);have g:=(Jp.new (w.alloc (D #[C a la ca,B s] 45)) 45 (C b lb cb) (B s)).alloc (D #[C none 0 0,B false] 45);have d:=Jp.new ((w.alloc (D #[C a la ca,B s] 45)).alloc (D #[C b lb cb,B s] 45)) 45 (C none 0 0) (B false);simp only[Ax]at g d;go_region_held3 (λi=>i.cell? ⟨w.heap.size,0,none⟩=some (C a la ca)/\i.cell? ⟨w.heap.size+1,0,none⟩=some (C b lb cb)/\i.cell? ⟨w.heap.size,1,none⟩=some (B s)) (refine⟨?_,?_,?_⟩<;>(first|(go_keep;done)|((repeat rw[JF O]);simp[*];done)))
  (first
   |(go_at_call 145;refine(ZG _ _ m n _ ?_ ?_ r t).mono ?_;exact A.below f.drew;exact H.below f.drew;rintro e K ⟨u,rfl,l,k⟩;obtain⟨a',c',rfl⟩:=l.form;have b0:=b0.drew.below k;have g:=g.drew.below k;have d:=d.drew.below k;have f:=Below.then f.drew k;have x:=b0.c0;have y:=b0.c1;have z:=g.c0)
   |(go_at_call 144;refine(Iu _ _ _ _ _).mono ?_;rintro e L ⟨rfl,j⟩;have l:=Row.below l j;have b0:=b0.below j;have g:=g.below j;have d:=d.below j;have f:=Below.then f j;have x:=b0.c0;have y:=b0.c1;have z:=g.c0;have r0:=d.c0;have r1:=d.c1;have f0:=d.f0;have f1:=d.f1))
 all_goals go_wp2_with fail
 obtain⟨v,q⟩:=Yj (C a' (Jd 10000 (m+n)).length c') (B (s&&decide (0<(Jd 10000 (m+n)).length))) f O d J J l;exact A0 (by simp[results,results96,go_sem,r0,r1]) J ⟨_,_,_,J,v,q⟩
def ZL(a b:nJ)(la lb ca cb m n:Nat)(s:Bool)(w:E)(y:RN w (C a la ca) m)(z:RN w (C b lb cb) n)(I:(Jd 10000 m).length<=400000000000)(p:n<=m):
 Calls Tryz.prog 96 #[.agg #[C a la ca,B s],.agg #[C b lb cb,B (!s)]] w λe i=>∃c q r,e=.returned (.agg #[C c q r,B (s&&decide (0<q))])/\RN i (C c q r) (m-n)/\G w.heap.size w i:=by
 have N:¬(w.heap.size=w.heap.size+1+1):=O
 have M:(s == !s)=false:=by cases s<;>rfl
 have L:=Rh p;have A:Hid (n<=m):=p;clear p;have f:=Hu w (D #[C a la ca,B s] 45) (D #[C b lb cb,B (!s)] 45) (D #[C none 0 0,B false] 45);have b0:=((Jp.new w 45 (C a la ca) (B s)).alloc (D #[C b lb cb,B (!s)] 45)).alloc (D #[C none 0 0,B false] 45);have g:=(Jp.new (w.alloc (D #[C a la ca,B s] 45)) 45 (C b lb cb) (B (!s))).alloc (D #[C none 0 0,B false] 45);have d:=Jp.new ((w.alloc (D #[C a la ca,B s] 45)).alloc (D #[C b lb cb,B (!s)] 45)) 45 (C none 0 0) (B false);simp only[Ax]at g d;go_enter func96,ntmps96
 go_wp2_with(first
  |(go_at_call 146;refine(Rg _ _ m n _ ?_ ?_).mono ?_;exact y.below f;exact z.below f;rintro e w0 ⟨rfl,k⟩;have b0:=b0.below k;have g:=g.below k;have d:=d.below k;have f:=Below.then f k;have t:=b0.c0;have v:=b0.c1;have x:=g.c0))
 go_region_held3 (λi=>i.cell? ⟨w.heap.size,0,none⟩=some (C a la ca)/\i.cell? ⟨w.heap.size+1,0,none⟩=some (C b lb cb)/\i.cell? ⟨w.heap.size,1,none⟩=some (B s)) (refine⟨?_,?_,?_⟩<;>(first|(go_keep;done)|((repeat rw[JF O]);simp[*];done)))
  (first
   |(go_at_call 147;refine(MV _ _ m n _ ?_ ?_ (CZ (Nat.lt_succ_of_le A.out)) I).mono ?_;exact y.below f.drew;exact z.below f.drew;rintro e P ⟨u,rfl,o,l⟩;obtain⟨a',c',rfl⟩:=o.form;have b0:=b0.drew.below l;have g:=g.drew.below l;have d:=d.drew.below l;have f:=Below.then f.drew l;have t:=b0.c0;have v:=b0.c1;have x:=g.c0)
   |(go_at_call 144;refine(Iu _ _ _ _ _).mono ?_;rintro e Q ⟨rfl,j⟩;have o:=Row.below o j;have b0:=b0.below j;have g:=g.below j;have d:=d.below j;have f:=Below.then f j;have t:=b0.c0;have v:=b0.c1;have x:=g.c0;have r0:=d.c0;have r1:=d.c1;have f0:=d.f0;have f1:=d.f1))
 all_goals go_wp2_with fail
 obtain⟨K,H⟩:=Yj (C a' (Jd 10000 (m-n)).length c') (B (s&&decide (0<(Jd 10000 (m-n)).length))) f O d J J o;exact A0 (by simp[results,results96,go_sem,r0,r1]) J ⟨_,_,_,J,K,H⟩
def ZM(a b:nJ)(la lb ca cb m n:Nat)(s:Bool)(w:E)(y:RN w (C a la ca) m)(z:RN w (C b lb cb) n)(I:(Jd 10000 n).length<=400000000000)(p:m<n):
 Calls Tryz.prog 96 #[.agg #[C a la ca,B s],.agg #[C b lb cb,B (!s)]] w λe i=>∃c q r,e=.returned (.agg #[C c q r,B ((!s)&&decide (0<q))])/\RN i (C c q r) (n-m)/\G w.heap.size w i:=by
 have N:¬(w.heap.size=w.heap.size+1+1):=O
 have M:(s == !s)=false:=by cases s<;>rfl
 have L:Xt m n<0:=by rw[Gz p];omega
 have A:Hid (m<n):=p;clear p;have g:=Hu w (D #[C a la ca,B s] 45) (D #[C b lb cb,B (!s)] 45) (D #[C none 0 0,B false] 45);have b0:=((Jp.new w 45 (C a la ca) (B s)).alloc (D #[C b lb cb,B (!s)] 45)).alloc (D #[C none 0 0,B false] 45);have d:=(Jp.new (w.alloc (D #[C a la ca,B s] 45)) 45 (C b lb cb) (B (!s))).alloc (D #[C none 0 0,B false] 45);have f:=Jp.new ((w.alloc (D #[C a la ca,B s] 45)).alloc (D #[C b lb cb,B (!s)] 45)) 45 (C none 0 0) (B false);simp only[Ax]at d f;go_enter func96,ntmps96
 go_wp2_with(first
  |(go_at_call 146;refine(Rg _ _ m n _ ?_ ?_).mono ?_;exact y.below g;exact z.below g;rintro e w0 ⟨rfl,k⟩;have b0:=b0.below k;have d:=d.below k;have f:=f.below k;have g:=Below.then g k;have t:=b0.c0;have v:=d.c1;have x:=d.c0))
 go_region_held3 (λi=>i.cell? ⟨w.heap.size,0,none⟩=some (C a la ca)/\i.cell? ⟨w.heap.size+1,0,none⟩=some (C b lb cb)/\i.cell? ⟨w.heap.size+1,1,none⟩=some (B (!s))) (refine⟨?_,?_,?_⟩<;>(first|(go_keep;done)|((repeat rw[JF O]);simp[*];done)))
  (first
   |(go_at_call 147;refine(MV _ _ n m _ ?_ ?_ (CZ (Nat.lt_succ_of_le (Nat.le_of_lt A.out))) I).mono ?_;exact z.below g.drew;exact y.below g.drew;rintro e P ⟨u,rfl,o,l⟩;obtain⟨a',c',rfl⟩:=o.form;have b0:=b0.drew.below l;have d:=d.drew.below l;have f:=f.drew.below l;have g:=Below.then g.drew l;have t:=b0.c0;have v:=d.c1;have x:=d.c0)
   |(go_at_call 144;refine(Iu _ _ _ _ _).mono ?_;rintro e Q ⟨rfl,j⟩;have o:=Row.below o j;have b0:=b0.below j;have d:=d.below j;have f:=f.below j;have g:=Below.then g j;have t:=b0.c0;have v:=d.c1;have x:=d.c0;have r0:=f.c0;have r1:=f.c1;have f0:=f.f0;have f1:=f.f1))
 all_goals go_wp2_with fail
 obtain⟨K,H⟩:=Yj (C a' (Jd 10000 (n-m)).length c') (B ((!s)&&decide (0<(Jd 10000 (n-m)).length))) g O f J J o;exact A0 (by simp[results,results96,go_sem,r0,r1]) J ⟨_,_,_,J,K,H⟩
def RN.len{a:nJ}{l:Nat}(h:RN W (C a l c) n):l=(Jd 10000 n).length:=by
 obtain⟨a',cap,e,_⟩:=h;cases e;rfl
def MY{d:F}{p q:Bool}(h:p=q):Value.agg #[d,B p]=.agg #[d,B q]:=by rw[h]
def Jw(W:E)(v:F)(z:Int):Prop:=∃a l cap,v=.agg #[C a l cap,B (decide (z<0))]/\RN W (C a l cap) z.natAbs
def Jw.below{W W':E}{v:F}{z:Int}(h:Jw W v z)(b:G W.heap.size W W'):Jw W' v z:=by
 obtain⟨a,l,cap,e,c⟩:=h;exact⟨a,l,cap,e,c.below b⟩
def D3(z:Int):Nat:=(Jd 10000 z.natAbs).length
def MZ:0<(Jd 10000 n).length↔n≠0:=by
 rw[Ac,Ne,JP O]
def OZ(q r:F)(x y:Int)(w:E)(t:Jw w q x)(v:Jw w r y)(m:D3 x<=400000000000)(n:D3 y<=400000000000):
 Calls Tryz.prog 96 #[q,r] w λe k=>∃u,e=.returned u/\Jw k u (x+y)/\G w.heap.size w k:=by
 obtain⟨a,la,ca,rfl,o⟩:=t;obtain⟨b,lb,cb,rfl,p⟩:=v;unfold D3 at m n;by_cases l:decide (x<0)=decide (y<0)
 . rw[<-l];refine(ZK a b la lb ca cb _ _ _ w o p m n).mono ?_;rintro e k ⟨c,j,f,rfl,d,i⟩;have hl:=d.len;have g:x.natAbs+y.natAbs=(x+y).natAbs:=by
    have:(x<0↔y<0):=by simpa using l
    omega
   rw[g]at d hl;refine⟨_,J,⟨c,j,f,?_,d⟩,i⟩;refine MY ?_;rw[CH];simp only[AY,BW];rw[hl,MZ]
   have:(x<0↔y<0):=by simpa using l
   omega
 . have s:decide (y<0)=!decide (x<0):=by
    cases A:decide (x<0)<;>cases H:decide (y<0)<;>simp_all
   have I:¬(x<0↔y<0):=by simpa using l
   rw[s];by_cases z:y.natAbs<=x.natAbs
   . refine(ZL a b la lb ca cb _ _ _ w o p m z).mono ?_;rintro e k ⟨c,j,f,rfl,d,i⟩;have hl:=d.len;have g:x.natAbs-y.natAbs=(x+y).natAbs:=O
     rw[g]at d hl;refine⟨_,J,⟨c,j,f,?_,d⟩,i⟩;refine MY ?_;rw[CH];simp only[AY,BW];rw[hl,MZ];omega
   . refine(ZM a b la lb ca cb _ _ _ w o p n O).mono ?_;rintro e k ⟨c,j,f,rfl,d,i⟩;have hl:=d.len;have g:y.natAbs-x.natAbs=(x+y).natAbs:=O
     rw[g]at d hl;refine⟨_,J,⟨c,j,f,?_,d⟩,i⟩;refine MY ?_;rw[CH];simp only[AY,BW,CN,Bo];rw[hl,MZ];omega
def Iw(w:E)(a b:Obj):G w.heap.size w ((w.alloc a).alloc b):=
 ((BA _ w).alloc (Aa _) _).alloc DG _
def ZN(a:nJ)(la ca m:Nat)(s:Bool)(w:E)(j:RN w (C a la ca) m):
 Calls Tryz.prog 142 #[.agg #[C a la ca,B s]] w λe f=>e=.returned (.agg #[C a la ca,B (!s&&decide (0<la))])/\RN f (C a la ca) m/\G w.heap.size w f:=by
 have c:=Iw w (D #[C a la ca,B s] 45) (D #[C none 0 0,B false] 45);have b:=Jp.new (w.alloc (D #[C a la ca,B s] 45)) 45 (C none 0 0) (B false);simp only[Ax]at b;go_enter func142,ntmps142
 go_wp2_with(first
  |(go_at_call 144;refine(Iu _ _ _ _ _).mono ?_;rintro e k ⟨rfl,d⟩;have b:=b.below d;have c:=Below.then c d;have r0:=b.c0;have r1:=b.c1;have f0:=b.f0;have f1:=b.f1))
 obtain⟨i,g⟩:=Yj (C a la ca) (B (!s&&decide (0<la))) c O b J J (j.below c);exact A0 (by simp[results,results142,go_sem,r0,r1]) J ⟨J,i,g⟩
def Oa(d:F)(x:Int)(w:E)(g:Jw w d x):
 Calls Tryz.prog 142 #[d] w λe c=>∃u,e=.returned u/\Jw c u (-x)/\G w.heap.size w c:=by
 obtain⟨a,la,ca,rfl,i⟩:=g;refine(ZN a la ca _ _ w i).mono ?_;rintro e c ⟨rfl,b,f⟩;have hl:=b.len;rw[show x.natAbs=(-x).natAbs from by omega]at b hl;refine⟨_,J,⟨a,la,ca,?_,b⟩,f⟩;refine MY ?_;rw[CH];simp only[AY,BW,CN,Bo];rw[hl,MZ];omega
def Jp.kept{row:Option Nat}{B:Nat}(h:Jp W B t x y)(hg:W.grownBy W' row)(a:some B≠row):Jp W' B t x y:=(hg.block B h.lt a).trans h
def GF(N c:Nat)(a:m4):Prop:=DJ 10000 a/\val 10000 a+10000^a.length*c=N/\a.length<=100/\(a=[]\/c≠0\/10000^(a.length-1)<=val 10000 a)
theorem GF.step(h:GF N c f)(i:N<=9223372036854775808)(j:c≠0):GF N (c/10000) (f++[c%10000]):=by
 obtain⟨a,b,d,e⟩:=h;refine⟨a.append (DJ.cons (A9 _ O) (DJ.nil _)),?_,?_,?_⟩
 . grind[YM,Cm,Cp,Nat.mod_add_div]
 . grind
 . right
   by_cases g:c/10000=0
   . right
     rw[Cc,List.length_singleton,Nat.add_sub_cancel,YM]
     have:c%10000≠0:=O
     have:=Aj (10000^f.length) (show 1<=c%10000 by omega);omega
   . exact An g
theorem GF.done(h:GF N 0 f):f=Jd 10000 N:=by
 obtain⟨a,b,c,d⟩:=h;rw[Cz,Cl]at b;rw[<-b];refine(XS O a (ON O a ?_)).symm;grind
theorem KY{wr:E}{B base:Nat}{e:TypeId}{o:Obj}{D:Int}(d:Nat)(hD:D=(d:Nat))(N:w.heap.size<=B)(p:B<base)(n:G w.heap.size w wr)(A:Jp wr B t v y)(H:wr.ownsRow base e 1 v f.length (cellsOf k f))
(x:i.ownsRow base e 1 j (f.length+1) (cellsOf k f++[.int k D]))(r:(wr.alloc o).grownBy i v.ownBlock):
 ∃g m,j=C (some ⟨g,0,none⟩) (f++[d]).length m/\(i.setCell ⟨B,0,none⟩ j).ownsRow base e 1 j (f++[d]).length (cellsOf k (f++[d]))/\Jp i B t v y/\G w.heap.size w i/\base<=i.heap.size/\(∀B' a c l,B'<base->Jp wr B' a c l->Jp i B' a c l):=by
 obtain⟨g,m,z⟩:=ownsRow_succ x;subst hD;have R:∀q,v.ownBlock=some q->base<=q/\q<wr.heap.size:=λq hq=>H.lt q hq;have s:∀B' a c l,B'<base->Jp wr B' a c l->Jp i B' a c l:=λB' a c l h b=>(b.alloc o).kept r (λL=>by grind);have u:i.ownsRow base e 1 j (f++[d]).length (cellsOf k (f++[d])):=by rw[Ra];simpa using x
 refine⟨g,m,by rw[z];simp,ownsRow_setCell_below u p j,s _ _ _ _ p A,?_,?_,s⟩
 . exact(n.alloc n.size _).grown r (by simp;have:=n.size;omega) (λq hq=>by grind)
 . rcases u.2 with⟨h,_⟩|⟨M,I,K,_,Q,P,_⟩
   . rw[z]at h;cases h
   grind
def ZO(N:Nat)(hN:N<=9223372036854775807)(w:E):
 Calls Tryz.prog 94 #[.int .i64 N] w λe y=>∃u,e=.returned u/\Jw y u N/\G w.heap.size w y:=by
 obtain⟨W,M,T,U,V⟩:=Bs Tryz.infoInt;have b:=(Jp.new w 45 (C none 0 0) (B false)).alloc (D #[C none 0 0,B false] 45);have d:=Jp.new (w.alloc (D #[C none 0 0,B false] 45)) 45 (C none 0 0) (B false);simp only[Ax]at d;have r:=Iw w (D #[C none 0 0,B false] 45) (D #[C none 0 0,B false] 45);have o:Hid (∀a,GF N 0 a->a=Jd 10000 N):=λa h=>h.done;have q:Hid (∀c a,GF N c a->c≠0->GF N (c/10000) (a++[c%10000])):=λc a h j=>h.step O j;go_enter func94,ntmps94
 go_wp2;go_loopw [0] (λm wr=>∃(c:Nat) (a:m4) (f:nJ) (i:Nat),m=.int .i64 c/\c<=N/\a.length<=100/\Hid (GF N c a)/\Jp wr w.heap.size 45 (C none 0 0) (B false)/\Jp wr (w.heap.size+1) 45 (C f a.length i) (B false)/\wr.ownsRow (w.heap.size+1+1) 3 1 (C f a.length i) a.length (cellsOf .i64 a)/\G w.heap.size w wr/\w.heap.size+1+1<=wr.heap.size)
  (λm _=>(intOf m).toNat)
 case atStart=>exact⟨N,[],none,0,J,Aa _,DG,⟨DJ.nil _,by simp[val],DG,An J⟩,b,d,Br _ _ _ _,r,DG⟩
 case round=>
  clear b d r;obtain⟨c,a,f,i,rfl,ae,ah,n,b,d,l,t,aj⟩:=hrel;have c0:=d.c0;have c1:=d.c1;have f0:=d.f0;by_cases j:c=0
  . subst j;have e:=o.out a n.out;have r0:=b.c0;have r1:=b.c1;have X:=b.f0;have g1:=b.f1;clear o q;go_wp2;subst e;obtain⟨R,I⟩:=Yj (C f (Jd 10000 N).length i) (B false) t (Aa _) b J J (Row.of_owns l O);exact A0 (v:=.agg #[C f (Jd 10000 N).length i,B false]) (by simp[results,results94,go_sem,r0,r1]) J ⟨_,J,⟨f,_,i,by rw[show decide ((N:Int)<0)=false from BE O],R⟩,I⟩
  . have ad:((c:Int) != 0)=true:=by rw[Bz];omega
    have p:=XB (q.out c a n.out j);go_wp2_with(first
     |(at_builtin;refine BO _ J _ _ 43 J (w.heap.size+1+1) 3 W (.int .i64 0) 1 8 underlying43 M T U V J DK (C f a.length i) a.length (cellsOf .i64 a) J (l.alloc _) ⟨wr.heap.size,0,none⟩ 1 1 [_] J J (Bg _ _ _) (by simp[Value.oneCell']) (by unfold maxLen;omega) O si ?_;intro v' w3 Q L ai;obtain⟨g,A,H,x,k,K,S,P⟩:=KY (c%10000) O O O t d l Q L;have d0:=k.c0;have d1:=k.f0;subst H))
    have z:(a++[c%10000]).length<=100:=p.out.2.2.1;have s:(a++[c%10000]).length=a.length+1:=DG
    go_roundw
    case rel=>exact⟨c/10000,a++[c%10000],some ⟨g,0,none⟩,A,DG,O,z,p,(P _ _ _ _ O b).far DG _,by rw[s];exact k.set0 _,by rw[s]at x ⊢;exact x,K.setCell DG _,by simpa[World.setCell]using S⟩
    case measure=>simp[intOf];omega
def ZP(c:Nat):(-(c:Int)).tmod 10000=-((c%10000:Nat):Int):=by
 rw[Int.neg_tmod,Int.tmod_eq_emod_of_nonneg O];rfl
def ZR(c:Nat):(-(c:Int)).tdiv 10000=-((c/10000:Nat):Int):=by
 rw[Int.neg_tdiv,Int.tdiv_eq_ediv_of_nonneg O];rfl
def ZS(N:Nat)(X:1<=N)(hN:N<=9223372036854775808)(w:E):
 Calls Tryz.prog 94 #[.int .i64 (-(N:Int))] w λe V=>∃u,e=.returned u/\Jw V u (-(N:Int))/\G w.heap.size w V:=by
 have ah:0<N:=X;obtain⟨U,P,R,S,T⟩:=Bs Tryz.infoInt;have b:=(Jp.new w 45 (C none 0 0) (B false)).alloc (D #[C none 0 0,B true] 45);have d:=Jp.new (w.alloc (D #[C none 0 0,B false] 45)) 45 (C none 0 0) (B true);simp only[Ax]at d;have M:=Iw w (D #[C none 0 0,B false] 45) (D #[C none 0 0,B true] 45);have K:Hid (∀a,GF N 0 a->a=Jd 10000 N):=λa h=>h.done;have L:Hid (∀c a,GF N c a->c≠0->GF N (c/10000) (a++[c%10000])):=λc a h o=>h.step O o;go_enter func94,ntmps94
 go_wp2;go_loopw [0] (λH wr=>∃(c:Nat) (a:m4) (f:nJ) (i:Nat),H=.int .i64 (-(c:Int))/\c<=N/\a.length<=100/\Hid (GF N c a)/\Jp wr w.heap.size 45 (C none 0 0) (B false)/\Jp wr (w.heap.size+1) 45 (C f a.length i) (B true)/\wr.ownsRow (w.heap.size+1+1) 3 1 (C f a.length i) a.length (cellsOf .i64 a)/\G w.heap.size w wr/\w.heap.size+1+1<=wr.heap.size)
  (λH _=>(-(intOf H)).toNat)
 case atStart=>exact⟨N,[],none,0,J,Aa _,DG,⟨DJ.nil _,by simp[val],DG,An J⟩,b,d,Br _ _ _ _,M,DG⟩
 case round=>
  clear b d M;obtain⟨c,a,f,i,rfl,aj,ak,I,b,d,m,s,am⟩:=hrel;have c0:=d.c0;have c1:=d.c1;have f0:=d.f0;have ht:=ZP c;have hd:=ZR c;by_cases o:c=0
  . subst o;have e:=K.out a I.out;have r0:=b.c0;have r1:=b.c1;have g0:=b.f0;have g1:=b.f1;clear K L ht hd;go_wp2;subst e;obtain⟨hr,ad⟩:=Yj (C f (Jd 10000 N).length i) (B true) s (Aa _) b J J (Row.of_owns m O);exact A0 (v:=.agg #[C f (Jd 10000 N).length i,B true]) (by simp[results,results94,go_sem,r0,r1]) J ⟨_,J,⟨f,_,i,by rw[show decide (-(N:Int)<0)=true from decide_eq_true O],by rw[FM];exact hr⟩,ad⟩
  . have ai:((-(c:Int)) != 0)=true:=by rw[Bz];omega
    have n:=XB (L.out c a I.out o);by_cases Q:c%10000=0
    . have W:(c:Int)%10000=0:=O
      have HM:=XB Q;clear Q;go_wp2_with(first
       |(at_builtin;refine BO _ J _ _ 43 J (w.heap.size+1+1) 3 U (.int .i64 0) 1 8 underlying43 P R S T J DK (C f a.length i) a.length (cellsOf .i64 a) J (m.alloc _) ⟨wr.heap.size,0,none⟩ 1 1 [_] J J (Bg _ _ _) (by simp[Value.oneCell']) (by unfold maxLen;omega) O si ?_;intro v' w3 z x ae;obtain⟨g,q,r,l,j,t,A,y⟩:=KY (c%10000) O O O s d m z x;have d0:=j.c0;have d1:=j.f0;subst r))
      have p:(a++[c%10000]).length<=100:=n.out.2.2.1;have k:(a++[c%10000]).length=a.length+1:=DG
      go_roundw
      case rel=>exact⟨c/10000,a++[c%10000],some ⟨g,0,none⟩,q,DG,O,p,n,(y _ _ _ _ O b).far DG _,by rw[k];exact j.set0 _,by rw[k]at l ⊢;exact l,t.setCell DG _,by simpa[World.setCell]using A⟩
      case measure=>simp[intOf];omega
    . have W:0<(c:Int)%10000:=O
      go_wp2_with(first
       |(at_builtin;refine BO _ J _ _ 43 J (w.heap.size+1+1) 3 U (.int .i64 0) 1 8 underlying43 P R S T J DK (C f a.length i) a.length (cellsOf .i64 a) J (m.alloc _) ⟨wr.heap.size,0,none⟩ 1 1 [_] J J (Bg _ _ _) (by simp[Value.oneCell']) (by unfold maxLen;omega) O si ?_;intro v' w3 z x ae;obtain⟨g,q,r,l,j,t,A,y⟩:=KY (c%10000) O O O s d m z x;have d0:=j.c0;have d1:=j.f0;subst r))
      have p:(a++[c%10000]).length<=100:=n.out.2.2.1;have k:(a++[c%10000]).length=a.length+1:=DG
      go_roundw
      case rel=>exact⟨c/10000,a++[c%10000],some ⟨g,0,none⟩,q,DG,O,p,n,(y _ _ _ _ O b).far DG _,by rw[k];exact j.set0 _,by rw[k]at l ⊢;exact l,t.setCell DG _,by simpa[World.setCell]using A⟩
      case measure=>simp[intOf];omega
def Hb(n:Int)(b:-9223372036854775808<=n)(c:n<=9223372036854775807)(w:E):
 Calls Tryz.prog 94 #[.int .i64 n] w λe a=>∃u,e=.returned u/\Jw a u n/\G w.heap.size w a:=by
 by_cases h:n<0
 . have e:n=-(n.natAbs:Int):=O
   rw[e];exact ZS n.natAbs O O w
 . have e:n=(n.natAbs:Int):=O
   rw[e];exact ZO n.natAbs O w
