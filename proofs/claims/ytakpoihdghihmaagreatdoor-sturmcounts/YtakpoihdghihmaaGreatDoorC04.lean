import Derived.Test.YtakpoihdghihmaaGreatDoorC03
import Derived.Deep.RegionHeld3
open Go.Value renaming slice->C,bool->B
open Go.Obj renaming cells->D
open Go renaming World->E,Value->F
open Go.RowKit renaming Below->G
set_option maxRecDepth 100000
set_option maxHeartbeats 16000000
namespace Go.Proofs.YtakpoihdghihmaaGreatDoor
open Go.RowKit Go.Shelf
theorem BJ:type_of% @decide_eq_true:=@decide_eq_true
theorem BF:type_of% @decide_eq_false:=@decide_eq_false
def Jp(W:E)(B:Nat)(t:TypeId)(x y:F):Prop:=W.heap[B]?=some (D #[x,y] t (0,0))
variable{k:IntKind}{f:List Nat}{N c n:Nat}{t:TypeId}{v x y:F}{W W' i w:E}
theorem Jp.lt{B:Nat}(h:Jp W B t x y):B<W.heap.size:=(Ab.1 h).1
theorem Jp.c0{B:Nat}(h:Jp W B t x y):W.cell? ⟨B,0,none⟩=some x:=by simp[World.cell?,show W.heap[B]?=_ from h]
theorem Jp.c1{B:Nat}(h:Jp W B t x y):W.cell? ⟨B,1,none⟩=some y:=by simp[World.cell?,show W.heap[B]?=_ from h]
theorem Jp.cp{B:Nat}(h:Jp W B t x y):type_of% (And.intro h.c0 h.c1):=⟨h.c0,h.c1⟩
theorem Jp.f0{B:Nat}(h:Jp W B t x y):W.frozen? ⟨B,0,none⟩=false:=by simp[World.frozen?,show W.heap[B]?=_ from h]
theorem Jp.f1{B:Nat}(h:Jp W B t x y):W.frozen? ⟨B,1,none⟩=false:=by simp[World.frozen?,show W.heap[B]?=_ from h]
theorem Jp.fp{B:Nat}(h:Jp W B t x y):type_of% (And.intro h.f0 h.f1):=⟨h.f0,h.f1⟩
theorem Jp.new(W:E)(t:TypeId)(x y:F):Jp (W.alloc (D #[x,y] t)) W.heap.size t x y:=BE W _
theorem Jp.below{B:Nat}(h:Jp W B t x y)(a:G W.heap.size W W'):Jp W' B t x y:=(a.block B h.lt).trans h
theorem Jp.alloc{W:E}{B:Nat}{t:TypeId}{x y:F}(h:Jp W B t x y)(o:Obj):Jp (W.alloc o) B t x y:=h.below ((BA _ W).alloc (Aa _) o)
theorem Jp.drew{W:E}{B:Nat}{t:TypeId}{x y:F}(h:Jp W B t x y):Jp W.drew B t x y:=h
theorem Jp.set0{B:Nat}(h:Jp W B t x y)(u:F):Jp (W.setCell ⟨B,0,none⟩ u) B t u y:=by
 obtain⟨b,a⟩:=Ab.1 h;show(W.heap.modify B _)[B]?=_;rw[Cb (by rw[CX];exact b),Cq,a];rfl
theorem Jp.set1{B:Nat}(h:Jp W B t x y)(u:F):Jp (W.setCell ⟨B,1,none⟩ u) B t x u:=by
 obtain⟨b,a⟩:=Ab.1 h;show(W.heap.modify B _)[B]?=_;rw[Cb (by rw[CX];exact b),Cq,a];rfl
theorem Jp.far{B:Nat}(h:Jp W B t x y){p:Addr}(hp:B≠p.block)(u:F):Jp (W.setCell p u) B t x y:=(BD W p u B hp).trans h
theorem Below.then{w W a:E}(h:G w.heap.size w W)(k:G W.heap.size W a):G w.heap.size w a:=h.trans (k.mono h.size)
theorem Bt:type_of% @Below.then:=@Below.then
theorem JG{b o a c:Nat}{u:F}(h:b≠a):(w.setCell ⟨a,c,none⟩ u).cell? ⟨b,o,none⟩=w.cell? ⟨b,o,none⟩:=
 World.cell?_of_block (w:=w) (BD w ⟨a,c,none⟩ u b h)
def JC:F->Bool|.int _ _=>false|_=>true
theorem Row.set{k:IntKind}{W:E}{v:F}{ds:List Nat}(h:Row k W v ds){p:Addr}{u0:F}(hp:W.cell? p=some u0)(s:JC u0=true)(u:F):Row k (W.setCell p u) v ds:=by
 obtain⟨a,cap,e,l,m,n,c⟩:=h;refine⟨a,cap,e,l,m,n,?_⟩;rcases c with c|⟨b,off,i,r,o⟩
 . exact Or.inl c
 . refine Or.inr ⟨b,off,i,r.set p u,λj q=>?_⟩;have d:=o j q;have f:p≠⟨b,off+j,none⟩:=by
    intro g;rw[<-g,hp]at d;cases d;simp[JC]at s
   exact(World.cell?_setCell_other (h:=f) ..).trans d
theorem Ym{R:Nat}{u0 u1:F}(x0 x1:F){ds:List Nat}(b:G w.heap.size w i)(a:w.heap.size<=R)(q:Jp i R t u0 u1)(d:JC u0=true)(e:JC u1=true)(c:Row k i v ds):
 Row k ((i.setCell ⟨R,0,none⟩ x0).setCell ⟨R,1,none⟩ x1) v ds/\G w.heap.size w ((i.setCell ⟨R,0,none⟩ x0).setCell ⟨R,1,none⟩ x1):=
 ⟨Row.set (Row.set c q.c0 d _) (u0:=u1) (q.set0 x0).c1 e _,(b.setCell a _).setCell a _⟩
theorem RN.below{W W':E}{v:F}{n:Nat}(h:RN W v n)(a:G W.heap.size W W'):RN W' v n:=Row.below h a
theorem RN.form(h:RN W v n):∃a cap,v=C a (Je 10000 n).length cap:=by
 obtain⟨a,cap,e,_⟩:=h;exact⟨a,cap,e⟩
theorem Ra(a b:F)(m n:Nat)(w:E)(c:RN w a m)(d:RN w b n):
 Calls Tryz.prog 146 #[a,b] w λe f=>e=.returned (.int .i64 (Xz m n))/\G w.heap.size w f:=by
 have h:=Od 10000 O a b _ _ w c d (Ju O m) (Ju O n) (Xb O m) (Xb O n);rw[Jq O,Jq O]at h;exact h
theorem XS(w:E)(a b c:Obj):G w.heap.size w (((w.alloc a).alloc b).alloc c):=
 (((BA _ w).alloc (Aa _) _).alloc Z _).alloc si _
theorem Rb{m:Nat}(h:n<=m):0<=Xz m n:=by
 rcases AQ n m with g|g
 . rw[KF g];omega
 . have:m=n:=O
   rw[this,OU];omega
theorem Y2(a b:Option Addr)(la lb ca cb m n:Nat)(s:Bool)(w:E)(H:RN w (C a la ca) m)(I:RN w (C b lb cb) n)(r:(Je 10000 m).length<=1000000000)(t:(Je 10000 n).length<=1000000000):
 Calls Tryz.prog 96 #[.agg #[C a la ca,B s],.agg #[C b lb cb,B s]] w λe i=>∃c o p,e=.returned (.agg #[C c o p,B (s&&decide (0<o))])/\RN i (C c o p) (m+n)/\G w.heap.size w i:=by
 have K:¬(w.heap.size=w.heap.size+1+1):=O
 go_enter Tryz.func96,Tryz.ntmps96
 go_wp2_with fail
 have f:=XS w (D #[C a la ca,B s] 45) (D #[C b lb cb,B s] 45) (D #[C none 0 0,B false] 45);have b0:=((Jp.new w 45 (C a la ca) (B s)).alloc (D #[C b lb cb,B s] 45)).alloc (D #[C none 0 0,B false] 45);have g:=(Jp.new (w.alloc (D #[C a la ca,B s] 45)) 45 (C b lb cb) (B s)).alloc (D #[C none 0 0,B false] 45);have d:=Jp.new ((w.alloc (D #[C a la ca,B s] 45)).alloc (D #[C b lb cb,B s] 45)) 45 (C none 0 0) (B false);simp only[Ax]at g d;go_region_held3 (λi=>i.cell? ⟨w.heap.size,0,none⟩=some (C a la ca)/\i.cell? ⟨w.heap.size+1,0,none⟩=some (C b lb cb)/\i.cell? ⟨w.heap.size,1,none⟩=some (B s)) (refine⟨?_,?_,?_⟩<;>(first|(go_keep;done)|((repeat rw[JG O]);simp[*];done)))
  (first
   |(go_at_call 145;refine(Wf _ _ m n _ ?_ ?_ r t).mono ?_;exact H.below f.drew;exact I.below f.drew;rintro e L ⟨u,rfl,l,k⟩;obtain⟨a',c',rfl⟩:=l.form;have b0:=b0.drew.below k;have g:=g.drew.below k;have d:=d.drew.below k;have f:=Below.then f.drew k;have y:=b0.c0;have z:=b0.c1;have A:=g.c0)
   |(go_at_call 144;refine(KH _ _ _ _ _).mono ?_;rintro e M ⟨rfl,j⟩;have l:=Row.below l j;have b0:=b0.below j;have g:=g.below j;have d:=d.below j;have f:=Below.then f j;have y:=b0.c0;have z:=b0.c1;have A:=g.c0;have r0:=d.c0;have r1:=d.c1;have f0:=d.f0;have f1:=d.f1))
 all_goals go_wp2_with fail
 obtain⟨x,q⟩:=Ym (C a' (Je 10000 (m+n)).length c') (B (s&&decide (0<(Je 10000 (m+n)).length))) f O d rfl rfl l;exact A0 (v:=.agg #[C a' (Je 10000 (m+n)).length c',B (s&&decide (0<(Je 10000 (m+n)).length))]) (by simp[results,Tryz.results96,go_sem,r0,r1]) rfl ⟨_,_,_,rfl,x,q⟩
theorem ZA(a b:Option Addr)(la lb ca cb m n:Nat)(s:Bool)(w:E)(z:RN w (C a la ca) m)(A:RN w (C b lb cb) n)(K:(Je 10000 m).length<=1000000000)(p:n<=m):
 Calls Tryz.prog 96 #[.agg #[C a la ca,B s],.agg #[C b lb cb,B (!s)]] w λe i=>∃c q r,e=.returned (.agg #[C c q r,B (s&&decide (0<q))])/\RN i (C c q r) (m-n)/\G w.heap.size w i:=by
 have P:¬(w.heap.size=w.heap.size+1+1):=O
 have N:(s == !s)=false:=by cases s<;>rfl
 have M:=Rb p;have H:Hid (n<=m):=p;clear p;have f:=XS w (D #[C a la ca,B s] 45) (D #[C b lb cb,B (!s)] 45) (D #[C none 0 0,B false] 45);have b0:=((Jp.new w 45 (C a la ca) (B s)).alloc (D #[C b lb cb,B (!s)] 45)).alloc (D #[C none 0 0,B false] 45);have g:=(Jp.new (w.alloc (D #[C a la ca,B s] 45)) 45 (C b lb cb) (B (!s))).alloc (D #[C none 0 0,B false] 45);have d:=Jp.new ((w.alloc (D #[C a la ca,B s] 45)).alloc (D #[C b lb cb,B (!s)] 45)) 45 (C none 0 0) (B false);simp only[Ax]at g d;go_enter Tryz.func96,Tryz.ntmps96
 go_wp2_with(first
  |(go_at_call 146;refine(Ra _ _ m n _ ?_ ?_).mono ?_;exact z.below f;exact A.below f;rintro e w0 ⟨rfl,k⟩;have b0:=b0.below k;have g:=g.below k;have d:=d.below k;have f:=Below.then f k;have t:=b0.c0;have x:=b0.c1;have y:=g.c0))
 go_region_held3 (λi=>i.cell? ⟨w.heap.size,0,none⟩=some (C a la ca)/\i.cell? ⟨w.heap.size+1,0,none⟩=some (C b lb cb)/\i.cell? ⟨w.heap.size,1,none⟩=some (B s)) (refine⟨?_,?_,?_⟩<;>(first|(go_keep;done)|((repeat rw[JG O]);simp[*];done)))
  (first
   |(go_at_call 147;refine(Mc _ _ m n _ ?_ ?_ (Fj (Nat.lt_succ_of_le H.out)) K).mono ?_;exact z.below f.drew;exact A.below f.drew;rintro e Q ⟨u,rfl,o,l⟩;obtain⟨a',c',rfl⟩:=o.form;have b0:=b0.drew.below l;have g:=g.drew.below l;have d:=d.drew.below l;have f:=Below.then f.drew l;have t:=b0.c0;have x:=b0.c1;have y:=g.c0)
   |(go_at_call 144;refine(KH _ _ _ _ _).mono ?_;rintro e R ⟨rfl,j⟩;have o:=Row.below o j;have b0:=b0.below j;have g:=g.below j;have d:=d.below j;have f:=Below.then f j;have t:=b0.c0;have x:=b0.c1;have y:=g.c0;have r0:=d.c0;have r1:=d.c1;have f0:=d.f0;have f1:=d.f1))
 all_goals go_wp2_with fail
 obtain⟨L,I⟩:=Ym (C a' (Je 10000 (m-n)).length c') (B (s&&decide (0<(Je 10000 (m-n)).length))) f O d rfl rfl o;exact A0 (v:=.agg #[C a' (Je 10000 (m-n)).length c',B (s&&decide (0<(Je 10000 (m-n)).length))]) (by simp[results,Tryz.results96,go_sem,r0,r1]) rfl ⟨_,_,_,rfl,L,I⟩
theorem ZB(a b:Option Addr)(la lb ca cb m n:Nat)(s:Bool)(w:E)(z:RN w (C a la ca) m)(A:RN w (C b lb cb) n)(K:(Je 10000 n).length<=1000000000)(p:m<n):
 Calls Tryz.prog 96 #[.agg #[C a la ca,B s],.agg #[C b lb cb,B (!s)]] w λe i=>∃c q r,e=.returned (.agg #[C c q r,B ((!s)&&decide (0<q))])/\RN i (C c q r) (n-m)/\G w.heap.size w i:=by
 have P:¬(w.heap.size=w.heap.size+1+1):=O
 have N:(s == !s)=false:=by cases s<;>rfl
 have M:Xz m n<0:=by rw[Hr p];omega
 have H:Hid (m<n):=p;clear p;have g:=XS w (D #[C a la ca,B s] 45) (D #[C b lb cb,B (!s)] 45) (D #[C none 0 0,B false] 45);have b0:=((Jp.new w 45 (C a la ca) (B s)).alloc (D #[C b lb cb,B (!s)] 45)).alloc (D #[C none 0 0,B false] 45);have d:=(Jp.new (w.alloc (D #[C a la ca,B s] 45)) 45 (C b lb cb) (B (!s))).alloc (D #[C none 0 0,B false] 45);have f:=Jp.new ((w.alloc (D #[C a la ca,B s] 45)).alloc (D #[C b lb cb,B (!s)] 45)) 45 (C none 0 0) (B false);simp only[Ax]at d f;go_enter Tryz.func96,Tryz.ntmps96
 go_wp2_with(first
  |(go_at_call 146;refine(Ra _ _ m n _ ?_ ?_).mono ?_;exact z.below g;exact A.below g;rintro e w0 ⟨rfl,k⟩;have b0:=b0.below k;have d:=d.below k;have f:=f.below k;have g:=Below.then g k;have t:=b0.c0;have x:=d.c1;have y:=d.c0))
 go_region_held3 (λi=>i.cell? ⟨w.heap.size,0,none⟩=some (C a la ca)/\i.cell? ⟨w.heap.size+1,0,none⟩=some (C b lb cb)/\i.cell? ⟨w.heap.size+1,1,none⟩=some (B (!s))) (refine⟨?_,?_,?_⟩<;>(first|(go_keep;done)|((repeat rw[JG O]);simp[*];done)))
  (first
   |(go_at_call 147;refine(Mc _ _ n m _ ?_ ?_ (Fj (Nat.lt_succ_of_le (F6 H.out))) K).mono ?_;exact A.below g.drew;exact z.below g.drew;rintro e Q ⟨u,rfl,o,l⟩;obtain⟨a',c',rfl⟩:=o.form;have b0:=b0.drew.below l;have d:=d.drew.below l;have f:=f.drew.below l;have g:=Below.then g.drew l;have t:=b0.c0;have x:=d.c1;have y:=d.c0)
   |(go_at_call 144;refine(KH _ _ _ _ _).mono ?_;rintro e R ⟨rfl,j⟩;have o:=Row.below o j;have b0:=b0.below j;have d:=d.below j;have f:=f.below j;have g:=Below.then g j;have t:=b0.c0;have x:=d.c1;have y:=d.c0;have r0:=f.c0;have r1:=f.c1;have f0:=f.f0;have f1:=f.f1))
 all_goals go_wp2_with fail
 obtain⟨L,I⟩:=Ym (C a' (Je 10000 (n-m)).length c') (B ((!s)&&decide (0<(Je 10000 (n-m)).length))) g O f rfl rfl o;exact A0 (v:=.agg #[C a' (Je 10000 (n-m)).length c',B ((!s)&&decide (0<(Je 10000 (n-m)).length))]) (by simp[results,Tryz.results96,go_sem,r0,r1]) rfl ⟨_,_,_,rfl,L,I⟩
theorem RN.len{a:Option Addr}{l:Nat}(h:RN W (C a l c) n):l=(Je 10000 n).length:=by
 obtain⟨a',cap,e,_⟩:=h;cases e;rfl
theorem Me{d:F}{p q:Bool}(h:p=q):Value.agg #[d,B p]=.agg #[d,B q]:=by rw[h]
def Jv(W:E)(v:F)(z:Int):Prop:=∃a l cap,v=.agg #[C a l cap,B (decide (z<0))]/\RN W (C a l cap) z.natAbs
theorem Jv.below{W W':E}{v:F}{z:Int}(h:Jv W v z)(b:G W.heap.size W W'):Jv W' v z:=by
 obtain⟨a,l,cap,e,c⟩:=h;exact⟨a,l,cap,e,c.below b⟩
def EP(z:Int):Nat:=(Je 10000 z.natAbs).length
theorem Mf:0<(Je 10000 n).length↔n≠0:=by
 rw[Ae,Ne,JR O]
theorem Of(q r:F)(x y:Int)(w:E)(t:Jv w q x)(v:Jv w r y)(m:EP x<=1000000000)(n:EP y<=1000000000):
 Calls Tryz.prog 96 #[q,r] w λe k=>∃u,e=.returned u/\Jv k u (x+y)/\G w.heap.size w k:=by
 obtain⟨a,la,ca,rfl,o⟩:=t;obtain⟨b,lb,cb,rfl,p⟩:=v;unfold EP at m n;by_cases l:decide (x<0)=decide (y<0)
 . rw[<-l];refine(Y2 a b la lb ca cb _ _ _ w o p m n).mono ?_;rintro e k ⟨c,j,f,rfl,d,i⟩;have hl:=d.len;have g:x.natAbs+y.natAbs=(x+y).natAbs:=by
    have:(x<0↔y<0):=by simpa using l
    omega
   rw[g]at d hl;refine⟨_,rfl,⟨c,j,f,?_,d⟩,i⟩;refine Me ?_;rw[CE];simp only[AU,BQ];rw[hl,Mf]
   have:(x<0↔y<0):=by simpa using l
   omega
 . have s:decide (y<0)=!decide (x<0):=by
    cases A:decide (x<0)<;>cases H:decide (y<0)<;>simp_all
   have I:¬(x<0↔y<0):=by simpa using l
   rw[s];by_cases z:y.natAbs<=x.natAbs
   . refine(ZA a b la lb ca cb _ _ _ w o p m z).mono ?_;rintro e k ⟨c,j,f,rfl,d,i⟩;have hl:=d.len;have g:x.natAbs-y.natAbs=(x+y).natAbs:=O
     rw[g]at d hl;refine⟨_,rfl,⟨c,j,f,?_,d⟩,i⟩;refine Me ?_;rw[CE];simp only[AU,BQ];rw[hl,Mf];omega
   . refine(ZB a b la lb ca cb _ _ _ w o p n O).mono ?_;rintro e k ⟨c,j,f,rfl,d,i⟩;have hl:=d.len;have g:y.natAbs-x.natAbs=(x+y).natAbs:=O
     rw[g]at d hl;refine⟨_,rfl,⟨c,j,f,?_,d⟩,i⟩;refine Me ?_;rw[CE];simp only[AU,BQ,CH,Bg];rw[hl,Mf];omega
theorem KJ(w:E)(a b:Obj):G w.heap.size w ((w.alloc a).alloc b):=
 ((BA _ w).alloc (Aa _) _).alloc Z _
theorem ZC(a:Option Addr)(la ca m:Nat)(s:Bool)(w:E)(j:RN w (C a la ca) m):
 Calls Tryz.prog 142 #[.agg #[C a la ca,B s]] w λe f=>e=.returned (.agg #[C a la ca,B (!s&&decide (0<la))])/\RN f (C a la ca) m/\G w.heap.size w f:=by
 have c:=KJ w (D #[C a la ca,B s] 45) (D #[C none 0 0,B false] 45);have b:=Jp.new (w.alloc (D #[C a la ca,B s] 45)) 45 (C none 0 0) (B false);simp only[Ax]at b;go_enter Tryz.func142,Tryz.ntmps142
 go_wp2_with(first
  |(go_at_call 144;refine(KH _ _ _ _ _).mono ?_;rintro e k ⟨rfl,d⟩;have b:=b.below d;have c:=Below.then c d;have r0:=b.c0;have r1:=b.c1;have f0:=b.f0;have f1:=b.f1))
 obtain⟨i,g⟩:=Ym (C a la ca) (B (!s&&decide (0<la))) c O b rfl rfl (j.below c);exact A0 (v:=.agg #[C a la ca,B (!s&&decide (0<la))]) (by simp[results,Tryz.results142,go_sem,r0,r1]) rfl ⟨rfl,i,g⟩
theorem Og(d:F)(x:Int)(w:E)(g:Jv w d x):
 Calls Tryz.prog 142 #[d] w λe c=>∃u,e=.returned u/\Jv c u (-x)/\G w.heap.size w c:=by
 obtain⟨a,la,ca,rfl,i⟩:=g;refine(ZC a la ca _ _ w i).mono ?_;rintro e c ⟨rfl,b,f⟩;have hl:=b.len;rw[show x.natAbs=(-x).natAbs from by omega]at b hl;refine⟨_,rfl,⟨a,la,ca,?_,b⟩,f⟩;refine Me ?_;rw[CE];simp only[AU,BQ,CH,Bg];rw[hl,Mf];omega
theorem Jp.kept{row:Option Nat}{B:Nat}(h:Jp W B t x y)(a:W.grownBy W' row)(b:some B≠row):Jp W' B t x y:=(a.block B h.lt b).trans h
def Gp(N c:Nat)(a:List Nat):Prop:=DQ 10000 a/\val 10000 a+10000^a.length*c=N/\a.length<=100/\(a=[]\/c≠0\/10000^(a.length-1)<=val 10000 a)
theorem Gp.step(h:Gp N c f)(k:N<=9223372036854775808)(l:c≠0):Gp N (c/10000) (f++[c%10000]):=by
 obtain⟨a,b,i,j⟩:=h;refine⟨a.append (DQ.cons (Ci _ O) (DQ.nil _)),?_,?_,?_⟩
 . rw[Y1,Aq,FT,AZ,AA,Fh,<-AB,Nat.mod_add_div];exact b
 . rcases AQ f.length 20 with h|h
   . simp;omega
   . have d:(10000:Nat)^20<=10000^f.length:=Aw O h;have e:10000^f.length*1<=10000^f.length*c:=Ap _ O;omega
 . right
   by_cases g:c/10000=0
   . right
     rw[Aq,FT,Nat.add_sub_cancel,Y1]
     have:c%10000≠0:=O
     have:=Ap (10000^f.length) (show 1<=c%10000 by omega);omega
   . exact Or.inl g
theorem Gp.done(h:Gp N 0 f):f=Je 10000 N:=by
 obtain⟨a,b,d,c⟩:=h;rw[CF,Ct]at b;rw[<-b];refine(XY O a (RL O a ?_)).symm;rcases c with h|h|h
 . exact Or.inl h
 . exact absurd rfl h
 . exact Or.inr h
theorem Kv{wr:E}{B base:Nat}{e:TypeId}{o:Obj}{c:F}{D:Int}(d:Nat)(hD:D=(d:Nat))(Q:w.heap.size<=B)(r:B<base)(n:G w.heap.size w wr)(H:Jp wr B t v y)(L:wr.ownsRow base e 1 v f.length (cellsOf k f))
(z:i.ownsRow base e 1 c (f.length+1) (cellsOf k f++[.int k D]))(s:(wr.alloc o).grownBy i v.ownBlock):
 ∃g m,c=C (some ⟨g,0,none⟩) (f++[d]).length m/\(i.setCell ⟨B,0,none⟩ c).ownsRow base e 1 c (f++[d]).length (cellsOf k (f++[d]))/\Jp i B t v y/\G w.heap.size w i/\base<=i.heap.size/\(∀B' a j l,B'<base->Jp wr B' a j l->Jp i B' a j l):=by
 obtain⟨g,m,A⟩:=ownsRow_succ z;subst hD;have p:∀q,v.ownBlock=some q->base<=q/\q<wr.heap.size:=λq hq=>L.lt q hq;have u:∀B' a j l,B'<base->Jp wr B' a j l->Jp i B' a j l:=λB' a j l h b=>(b.alloc o).kept s (λI=>by have:=(p B' I.symm).1;omega);have x:i.ownsRow base e 1 c (f++[d]).length (cellsOf k (f++[d])):=by rw[RV];simpa using z
 refine⟨g,m,by rw[A];simp,ownsRow_setCell_below x r c,u _ _ _ _ r H,?_,?_,u⟩
 . exact(n.alloc n.size _).grown s (by simp;have:=n.size;omega) (λq hq=>by have:=(p q hq).1;omega)
 . rcases x.2 with⟨h,_⟩|⟨P,M,N,_,R,K,_⟩
   . rw[A]at h;cases h
   . have:=(Ab.1 K).1;omega
theorem ZD(N:Nat)(hN:N<=9223372036854775807)(w:E):
 Calls Tryz.prog 94 #[.int .i64 N] w λe y=>∃u,e=.returned u/\Jv y u N/\G w.heap.size w y:=by
 obtain⟨W,M,T,U,V⟩:=Bu Tryz.infoInt;have b:=(Jp.new w 45 (C none 0 0) (B false)).alloc (D #[C none 0 0,B false] 45);have f:=Jp.new (w.alloc (D #[C none 0 0,B false] 45)) 45 (C none 0 0) (B false);simp only[Ax]at f;have r:=KJ w (D #[C none 0 0,B false] 45) (D #[C none 0 0,B false] 45);have o:Hid (∀a,Gp N 0 a->a=Je 10000 N):=λa h=>h.done;have q:Hid (∀c a,Gp N c a->c≠0->Gp N (c/10000) (a++[c%10000])):=λc a h j=>h.step O j;go_enter Tryz.func94,Tryz.ntmps94
 go_wp2;go_loopw [0] (λm wr=>∃(c:Nat) (a:List Nat) (d:Option Addr) (i:Nat),m=.int .i64 c/\c<=N/\a.length<=100/\Hid (Gp N c a)/\Jp wr w.heap.size 45 (C none 0 0) (B false)/\Jp wr (w.heap.size+1) 45 (C d a.length i) (B false)/\wr.ownsRow (w.heap.size+1+1) 3 1 (C d a.length i) a.length (cellsOf .i64 a)/\G w.heap.size w wr/\w.heap.size+1+1<=wr.heap.size)
  (λm _=>(intOf m).toNat)
 case atStart=>exact⟨N,[],none,0,rfl,Aa _,Z,⟨DQ.nil _,by simp[val],Z,Or.inl rfl⟩,b,f,Bs _ _ _ _,r,Z⟩
 case round=>
  clear b f r;obtain⟨c,a,d,i,rfl,ae,af,n,b,f,l,t,ai⟩:=hrel;have c0:=f.c0;have c1:=f.c1;by_cases j:c=0
  . subst j;have e:=o.out a n.out;have r0:=b.c0;have r1:=b.c1;have X:=b.f0;have g1:=b.f1;clear o q;go_wp2;subst e;obtain⟨R,I⟩:=Ym (C d (Je 10000 N).length i) (B false) t (Aa _) b rfl rfl (Row.of_owns l O);exact A0 (v:=.agg #[C d (Je 10000 N).length i,B false]) (by simp[results,Tryz.results94,go_sem,r0,r1]) rfl ⟨_,rfl,⟨d,_,i,by rw[show decide ((N:Int)<0)=false from BF O],R⟩,I⟩
  . have ad:((c:Int) != 0)=true:=by rw[DB];omega
    have p:=X8 (q.out c a n.out j);go_wp2_with(first
     |(at_builtin;refine BR _ rfl _ _ 43 rfl (w.heap.size+1+1) 3 W (.int .i64 0) 1 8 Tryz.underlying43 M T U V rfl DO (C d a.length i) a.length (cellsOf .i64 a) rfl (l.alloc _) ⟨wr.heap.size,0,none⟩ 1 1 [_] rfl rfl (Bi _ _ _) (by simp[Value.oneCell']) (by unfold maxLen;omega) O si ?_;intro v' w3 Q L ah;obtain⟨g,A,H,x,k,K,S,P⟩:=Kv (c%10000) O O O t f l Q L;have d0:=k.c0;have d1:=k.f0;subst H))
    have z:(a++[c%10000]).length<=100:=p.out.2.2.1;have s:(a++[c%10000]).length=a.length+1:=Z
    go_roundw
    case rel=>exact⟨c/10000,a++[c%10000],some ⟨g,0,none⟩,A,Z,O,z,p,(P _ _ _ _ O b).far Z _,by rw[s];exact k.set0 _,by rw[s]at x ⊢;exact x,K.setCell Z _,by simpa[World.setCell]using S⟩
    case measure=>simp[intOf];omega
theorem ZE(c:Nat):(-(c:Int)).tmod 10000=-((c%10000:Nat):Int):=by
 rw[Int.neg_tmod,Int.tmod_eq_emod_of_nonneg O];rfl
theorem ZF(c:Nat):(-(c:Int)).tdiv 10000=-((c/10000:Nat):Int):=by
 rw[Int.neg_tdiv,Int.tdiv_eq_ediv_of_nonneg O];rfl
theorem ZG(N:Nat)(W:1<=N)(hN:N<=9223372036854775808)(w:E):
 Calls Tryz.prog 94 #[.int .i64 (-(N:Int))] w λe U=>∃u,e=.returned u/\Jv U u (-(N:Int))/\G w.heap.size w U:=by
 have ae:0<N:=W;obtain⟨T,P,Q,R,S⟩:=Bu Tryz.infoInt;have b:=(Jp.new w 45 (C none 0 0) (B false)).alloc (D #[C none 0 0,B true] 45);have f:=Jp.new (w.alloc (D #[C none 0 0,B false] 45)) 45 (C none 0 0) (B true);simp only[Ax]at f;have M:=KJ w (D #[C none 0 0,B false] 45) (D #[C none 0 0,B true] 45);have K:Hid (∀a,Gp N 0 a->a=Je 10000 N):=λa h=>h.done;have L:Hid (∀c a,Gp N c a->c≠0->Gp N (c/10000) (a++[c%10000])):=λc a h o=>h.step O o;go_enter Tryz.func94,Tryz.ntmps94
 go_wp2;go_loopw [0] (λH wr=>∃(c:Nat) (a:List Nat) (d:Option Addr) (i:Nat),H=.int .i64 (-(c:Int))/\c<=N/\a.length<=100/\Hid (Gp N c a)/\Jp wr w.heap.size 45 (C none 0 0) (B false)/\Jp wr (w.heap.size+1) 45 (C d a.length i) (B true)/\wr.ownsRow (w.heap.size+1+1) 3 1 (C d a.length i) a.length (cellsOf .i64 a)/\G w.heap.size w wr/\w.heap.size+1+1<=wr.heap.size)
  (λH _=>(-(intOf H)).toNat)
 case atStart=>exact⟨N,[],none,0,rfl,Aa _,Z,⟨DQ.nil _,by simp[val],Z,Or.inl rfl⟩,b,f,Bs _ _ _ _,M,Z⟩
 case round=>
  clear b f M;obtain⟨c,a,d,i,rfl,ah,ai,I,b,f,m,s,aj⟩:=hrel;have c0:=f.c0;have c1:=f.c1;have ht:=ZE c;have hd:=ZF c;by_cases o:c=0
  . subst o;have e:=K.out a I.out;have r0:=b.c0;have r1:=b.c1;have g0:=b.f0;have g1:=b.f1;clear K L ht hd;go_wp2;subst e;obtain⟨hr,X⟩:=Ym (C d (Je 10000 N).length i) (B true) s (Aa _) b rfl rfl (Row.of_owns m O);exact A0 (v:=.agg #[C d (Je 10000 N).length i,B true]) (by simp[results,Tryz.results94,go_sem,r0,r1]) rfl ⟨_,rfl,⟨d,_,i,by rw[show decide (-(N:Int)<0)=true from BJ O],by rw[FM];exact hr⟩,X⟩
  . have af:((-(c:Int)) != 0)=true:=by rw[DB];omega
    have n:=X8 (L.out c a I.out o);by_cases hm:c%10000=0
    . have V:(c:Int)%10000=0:=O
      clear hm;go_wp2_with(first
       |(at_builtin;refine BR _ rfl _ _ 43 rfl (w.heap.size+1+1) 3 T (.int .i64 0) 1 8 Tryz.underlying43 P Q R S rfl DO (C d a.length i) a.length (cellsOf .i64 a) rfl (m.alloc _) ⟨wr.heap.size,0,none⟩ 1 1 [_] rfl rfl (Bi _ _ _) (by simp[Value.oneCell']) (by unfold maxLen;omega) O si ?_;intro v' w3 z x ad;obtain⟨g,q,r,l,j,t,A,y⟩:=Kv (c%10000) O O O s f m z x;have d0:=j.c0;have d1:=j.f0;subst r))
      have p:(a++[c%10000]).length<=100:=n.out.2.2.1;have k:(a++[c%10000]).length=a.length+1:=Z
      go_roundw
      case rel=>exact⟨c/10000,a++[c%10000],some ⟨g,0,none⟩,q,Z,O,p,n,(y _ _ _ _ O b).far Z _,by rw[k];exact j.set0 _,by rw[k]at l ⊢;exact l,t.setCell Z _,by simpa[World.setCell]using A⟩
      case measure=>simp[intOf];omega
    . have V:0<(c:Int)%10000:=O
      go_wp2_with(first
       |(at_builtin;refine BR _ rfl _ _ 43 rfl (w.heap.size+1+1) 3 T (.int .i64 0) 1 8 Tryz.underlying43 P Q R S rfl DO (C d a.length i) a.length (cellsOf .i64 a) rfl (m.alloc _) ⟨wr.heap.size,0,none⟩ 1 1 [_] rfl rfl (Bi _ _ _) (by simp[Value.oneCell']) (by unfold maxLen;omega) O si ?_;intro v' w3 z x ad;obtain⟨g,q,r,l,j,t,A,y⟩:=Kv (c%10000) O O O s f m z x;have d0:=j.c0;have d1:=j.f0;subst r))
      have p:(a++[c%10000]).length<=100:=n.out.2.2.1;have k:(a++[c%10000]).length=a.length+1:=Z
      go_roundw
      case rel=>exact⟨c/10000,a++[c%10000],some ⟨g,0,none⟩,q,Z,O,p,n,(y _ _ _ _ O b).far Z _,by rw[k];exact j.set0 _,by rw[k]at l ⊢;exact l,t.setCell Z _,by simpa[World.setCell]using A⟩
      case measure=>simp[intOf];omega
theorem IF(n:Int)(b:-9223372036854775808<=n)(c:n<=9223372036854775807)(w:E):
 Calls Tryz.prog 94 #[.int .i64 n] w λe a=>∃u,e=.returned u/\Jv a u n/\G w.heap.size w a:=by
 by_cases h:n<0
 . have e:n=-(n.natAbs:Int):=O
   rw[e];exact ZG n.natAbs O O w
 . have e:n=(n.natAbs:Int):=O
   rw[e];exact ZD n.natAbs O w
