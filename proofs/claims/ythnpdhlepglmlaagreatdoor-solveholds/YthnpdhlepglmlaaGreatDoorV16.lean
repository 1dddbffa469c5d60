import Derived.Test.YthnpdhlepglmlaaGreatDoorV09
set_option linter.all false
open Go.Value renaming slice->B,bool->C
open Go.Obj renaming cells->D
set_option maxRecDepth 99999
set_option maxHeartbeats 0
namespace Go.Proofs.YthnpdhlepglmlaaGreatDoor
open Proofs.Tryz
open Go.RowKit Go.Shelf
def OW(a b:Value)(m n:Nat)(w:World)(c:UN w a m)(hb:UN w b n):
 Calls Tryz.prog 104 #[a,b] w λe w'=>e=.returned (.int .i64 (D9 m n))/\Bl w w':=by
 have h:=RC a b _ _ w c hb (JA Jg m) (JA Jg n) (Kb Jg m) (Kb Jg n);rw[Jz Jg,Jz Jg]at h;exact h
def jL(a b:om)(la lb ca cb m n:Nat)(s:Bool)(w:World)(z:UN w (B a la ca) m)(A:UN w (B b lb cb) n)(q:la<1099511627776)(r:lb<1099511627776):
 Calls Tryz.prog 94 #[.agg #[C s,B a la ca],.agg #[C s,B b lb cb]] w λe w'=>∃c l o,e=.returned (.agg #[C (s&&decide (0<l)),B c l o])/\UN w' (B c l o) (m+n)/\Bl w w':=by
 have E:¬(w.heap.size=w.heap.size+1+1):=O
 go_enter func94,ntmps94
 go_wp2_with fail
 have f:=QX w (D #[C s,B a la ca] 48) (D #[C s,B b lb cb] 48) (D #[C false,B none 0 0] 48);have b0:=((JC.new w 48 (C s) (B a la ca)).alloc (D #[C s,B b lb cb] 48)).alloc (D #[C false,B none 0 0] 48);have g:=(JC.new (w.alloc (D #[C s,B a la ca] 48)) 48 (C s) (B b lb cb)).alloc (D #[C false,B none 0 0] 48);have d:=JC.new ((w.alloc (D #[C s,B a la ca] 48)).alloc (D #[C s,B b lb cb] 48)) 48 (C false) (B none 0 0);simp only[Ax]at g d;go_region_held3 (λw'=>w'.cell? ⟨w.heap.size,1,none⟩=some (B a la ca)/\w'.cell? ⟨w.heap.size+1,1,none⟩=some (B b lb cb)/\w'.cell? ⟨w.heap.size,0,none⟩=some (C s)) (refine⟨?_,?_,?_⟩<;>(first|(go_keep;done)|((repeat rw[JO O]);simp[*];done)))
  (first
   |(go_at_call 165;refine(U8 _ _ _ _ _ _ m n _ ?_ ?_ q r).mono ?_;exact z.below f.drew;exact A.below f.drew;rintro e w1 ⟨u,rfl,k,j⟩;obtain⟨a',c',rfl⟩:=k.form;have b0:=b0.drew.below j;have g:=g.drew.below j;have d:=d.drew.below j;have f:=Bt f.drew j;have v:=b0.c1;have x:=b0.c0;have y:=g.c1)
   |(go_at_call 105;refine(OJ _ _ _ _ _).mono ?_;rintro e w2 ⟨rfl,i⟩;have k:=Row.below k i;have b0:=b0.below i;have g:=g.below i;have d:=d.below i;have f:=Bt f i;have v:=b0.c1;have x:=b0.c0;have y:=g.c1;obtain⟨r0,r1⟩:=d.cp;obtain⟨f0,f1⟩:=d.fp))
 all_goals go_wp2_with fail
 obtain⟨t,p⟩:=K7 (C (s&&decide (0<(Jh Y (m+n)).length))) (B a' (Jh Y (m+n)).length c') f O d J J k;exact BA (by simp[results,results94,go_sem,r0,r1]) J ⟨_,_,_,J,t,p⟩
def jM(a b:om)(la lb ca cb m n:Nat)(s:Bool)(w:World)(x:UN w (B a la ca) m)(y:UN w (B b lb cb) n)(o:n<=m):
 Calls Tryz.prog 94 #[.agg #[C s,B a la ca],.agg #[C (!s),B b lb cb]] w λe w'=>∃c p q,e=.returned (.agg #[C (s&&decide (0<p)),B c p q])/\UN w' (B c p q) (m-n)/\Bl w w':=by
 have G:¬(w.heap.size=w.heap.size+1+1):=O
 have hs:(s == !s)=false:=by cases s<;>rfl
 have F:=gI o;have z:Hid (n<=m):=o;clear o;have d:=QX w (D #[C s,B a la ca] 48) (D #[C (!s),B b lb cb] 48) (D #[C false,B none 0 0] 48);have b0:=((JC.new w 48 (C s) (B a la ca)).alloc (D #[C (!s),B b lb cb] 48)).alloc (D #[C false,B none 0 0] 48);have f:=(JC.new (w.alloc (D #[C s,B a la ca] 48)) 48 (C (!s)) (B b lb cb)).alloc (D #[C false,B none 0 0] 48);have g:=JC.new ((w.alloc (D #[C s,B a la ca] 48)).alloc (D #[C (!s),B b lb cb] 48)) 48 (C false) (B none 0 0);simp only[Ax]at f g;go_enter func94,ntmps94
 go_wp2_with(first
  |(go_at_call 104;refine(OW _ _ m n _ ?_ ?_).mono ?_;exact x.below d;exact y.below d;rintro e w0 ⟨rfl,j⟩;have b0:=b0.below j;have f:=f.below j;have g:=g.below j;have d:=Bt d j;have r:=b0.c1;have t:=b0.c0;have v:=f.c1))
 go_region_held3 (λw'=>w'.cell? ⟨w.heap.size,1,none⟩=some (B a la ca)/\w'.cell? ⟨w.heap.size+1,1,none⟩=some (B b lb cb)/\w'.cell? ⟨w.heap.size,0,none⟩=some (C s)) (refine⟨?_,?_,?_⟩<;>(first|(go_keep;done)|((repeat rw[JO O]);simp[*];done)))
  (first
   |(go_at_call 166;refine(RB _ _ _ _ _ _ m n _ ?_ ?_ z.o).mono ?_;exact x.below d.drew;exact y.below d.drew;rintro e w1 ⟨u,rfl,l,k⟩;obtain⟨a',c',rfl⟩:=l.form;have b0:=b0.drew.below k;have f:=f.drew.below k;have g:=g.drew.below k;have d:=Bt d.drew k;have r:=b0.c1;have t:=b0.c0;have v:=f.c1)
   |(go_at_call 105;refine(OJ _ _ _ _ _).mono ?_;rintro e w2 ⟨rfl,i⟩;have l:=Row.below l i;have b0:=b0.below i;have f:=f.below i;have g:=g.below i;have d:=Bt d i;have r:=b0.c1;have t:=b0.c0;have v:=f.c1;obtain⟨r0,r1⟩:=g.cp;obtain⟨f0,f1⟩:=g.fp))
 all_goals go_wp2_with fail
 obtain⟨E,A⟩:=K7 (C (s&&decide (0<(Jh Y (m-n)).length))) (B a' (Jh Y (m-n)).length c') d O g J J l;exact BA (by simp[results,results94,go_sem,r0,r1]) J ⟨_,_,_,J,E,A⟩
def jN(a b:om)(la lb ca cb m n:Nat)(s:Bool)(w:World)(x:UN w (B a la ca) m)(y:UN w (B b lb cb) n)(o:m<n):
 Calls Tryz.prog 94 #[.agg #[C s,B a la ca],.agg #[C (!s),B b lb cb]] w λe w'=>∃c p q,e=.returned (.agg #[C ((!s)&&decide (0<p)),B c p q])/\UN w' (B c p q) (n-m)/\Bl w w':=by
 have G:¬(w.heap.size=w.heap.size+1+1):=O
 have hs:(s == !s)=false:=by cases s<;>rfl
 have F:D9 m n<0:=by rw[Lu o];omega
 have z:Hid (m<n):=o;clear o;have d:=QX w (D #[C s,B a la ca] 48) (D #[C (!s),B b lb cb] 48) (D #[C false,B none 0 0] 48);have b0:=((JC.new w 48 (C s) (B a la ca)).alloc (D #[C (!s),B b lb cb] 48)).alloc (D #[C false,B none 0 0] 48);have f:=(JC.new (w.alloc (D #[C s,B a la ca] 48)) 48 (C (!s)) (B b lb cb)).alloc (D #[C false,B none 0 0] 48);have g:=JC.new ((w.alloc (D #[C s,B a la ca] 48)).alloc (D #[C (!s),B b lb cb] 48)) 48 (C false) (B none 0 0);simp only[Ax]at f g;go_enter func94,ntmps94
 go_wp2_with(first
  |(go_at_call 104;refine(OW _ _ m n _ ?_ ?_).mono ?_;exact x.below d;exact y.below d;rintro e w0 ⟨rfl,j⟩;have b0:=b0.below j;have f:=f.below j;have g:=g.below j;have d:=Bt d j;have r:=b0.c1;obtain⟨t,v⟩:=f.cp))
 go_region_held3 (λw'=>w'.cell? ⟨w.heap.size,1,none⟩=some (B a la ca)/\w'.cell? ⟨w.heap.size+1,1,none⟩=some (B b lb cb)/\w'.cell? ⟨w.heap.size+1,0,none⟩=some (C (!s))) (refine⟨?_,?_,?_⟩<;>(first|(go_keep;done)|((repeat rw[JO O]);simp[*];done)))
  (first
   |(go_at_call 166;refine(RB _ _ _ _ _ _ n m _ ?_ ?_ (Nat.le_of_lt z.o)).mono ?_;exact y.below d.drew;exact x.below d.drew;rintro e w1 ⟨u,rfl,l,k⟩;obtain⟨a',c',rfl⟩:=l.form;have b0:=b0.drew.below k;have f:=f.drew.below k;have g:=g.drew.below k;have d:=Bt d.drew k;have r:=b0.c1;obtain⟨t,v⟩:=f.cp)
   |(go_at_call 105;refine(OJ _ _ _ _ _).mono ?_;rintro e w2 ⟨rfl,i⟩;have l:=Row.below l i;have b0:=b0.below i;have f:=f.below i;have g:=g.below i;have d:=Bt d i;have r:=b0.c1;obtain⟨t,v⟩:=f.cp;obtain⟨r0,r1⟩:=g.cp;obtain⟨f0,f1⟩:=g.fp))
 all_goals go_wp2_with fail
 obtain⟨E,A⟩:=K7 (C ((!s)&&decide (0<(Jh Y (n-m)).length))) (B a' (Jh Y (n-m)).length c') d O g J J l;exact BA (by simp[results,results94,go_sem,r0,r1]) J ⟨_,_,_,J,E,A⟩
theorem Jk.of{W:World}{s:Bool}{a:om}{l cap n:Nat}{z:Int}(h:UN W (B a l cap) n)(b:z=if s then -(n:Int)else n):Jk W (.agg #[C (s&&decide (0<l)),B a l cap]) z:=by
 have hl:=h.len;subst b;refine⟨a,l,cap,UP ?_,?_⟩
 . grind[QZ]
 . have e:(if s then -(n:Int)else n).natAbs=n:=by cases s<;>simp
   rw[e];exact h
def OX(k l:Value)(x y:Int)(w:World)(o:Jk w k x)(p:Jk w l y)(s:(Jh Y x.natAbs).length<1099511627776)(t:(Jh Y y.natAbs).length<1099511627776):
 Calls Tryz.prog 94 #[k,l] w λe w'=>∃u,e=.returned u/\Jk w' u (x+y)/\Bl w w':=by
 obtain⟨a,la,ca,rfl,g⟩:=o;obtain⟨b,lb,cb,rfl,hv⟩:=p;have q:=g.len;have r:=hv.len;by_cases hs:decide (y<0)=decide (x<0)
 . rw[hs];refine(jL a b la lb ca cb _ _ _ w g hv O O).mono ?_;rintro e w' ⟨c,j,i,rfl,f,d⟩;refine⟨_,J,Jk.of f ?_,d⟩;grind
 . have n:decide (y<0)=!decide (x<0):=by
    grind
   rw[n];by_cases m:y.natAbs<=x.natAbs
   . refine(jM a b la lb ca cb _ _ _ w g hv m).mono ?_;rintro e w' ⟨c,j,i,rfl,f,d⟩;refine⟨_,J,Jk.of f ?_,d⟩;grind
   . refine(jN a b la lb ca cb _ _ _ w g hv O).mono ?_;rintro e w' ⟨c,j,i,rfl,f,d⟩;refine⟨_,J,Jk.of f ?_,d⟩;grind
def XU(x y:Int):Int:=if x<y then -1 else if y<x then 1 else 0
def Mg(w:World)(a b:Obj):Bl w ((w.alloc a).alloc b):=
 (Ba w _).alloc DI _
def jO(a b:om)(la lb ca cb m n:Nat)(s t:Bool)(w:World)(f:UN w (B a la ca) m)(g:UN w (B b lb cb) n):
 Calls Tryz.prog 47 #[.agg #[C s,B a la ca],.agg #[C t,B b lb cb]] w λe w'=>e=.returned (.int .i64 (if s=t then(if s then D9 n m else D9 m n)else(if t then 1 else -1)))/\Bl w w':=by
 have c:=Mg w (D #[C s,B a la ca] 48) (D #[C t,B b lb cb] 48);have b0:=(JC.new w 48 (C s) (B a la ca)).alloc (D #[C t,B b lb cb] 48);have i:=JC.new (w.alloc (D #[C s,B a la ca] 48)) 48 (C t) (B b lb cb);simp only[Ax]at i;cases s<;>cases t
 all_goals
  go_enter func47,ntmps47
  go_wp2_with(first
   |(go_at_call 104;refine(OW _ _ n m _ ?_ ?_).mono ?_;exact g.below c;exact f.below c;rintro e w0 ⟨rfl,d⟩)
   |(go_at_call 104;refine(OW _ _ m n _ ?_ ?_).mono ?_;exact f.below c;exact g.below c;rintro e w0 ⟨rfl,d⟩)
   |(go_at_call 103;refine(Q3 _ _).mono ?_;rintro e w0 ⟨rfl,rfl⟩))
  go_ret;first
   |exact⟨J,Bt c d⟩
   |exact⟨J,c⟩
def KC(c d:Value)(x y:Int)(w:World)(g:Jk w c x)(i:Jk w d y):
 Calls Tryz.prog 47 #[c,d] w λe w'=>e=.returned (.int .i64 (XU x y))/\Bl w w':=by
 obtain⟨a,la,ca,rfl,f⟩:=g;obtain⟨b,lb,cb,rfl,hv⟩:=i;refine(jO a b la lb ca cb _ _ _ _ w f hv).mono ?_;rintro e w' ⟨rfl,j⟩;grind[XU,D9]
