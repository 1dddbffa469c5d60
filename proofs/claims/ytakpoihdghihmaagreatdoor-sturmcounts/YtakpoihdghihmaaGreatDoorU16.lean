import Derived.Test.YtakpoihdghihmaaGreatDoorU09
import Derived.Test.YtakpoihdghihmaaGreatDoorU04
set_option linter.all false
open Go.Value renaming slice->B,bool->C
open Go.Obj renaming cells->D
set_option maxRecDepth 99999
set_option maxHeartbeats 0
namespace Go.Proofs.YtakpoihdghihmaaGreatDoor
open Proofs.Tryz
open Go.RowKit Go.Shelf
def Mo(a b:Value)(m n:Nat)(w:World)(c:UN w a m)(d:UN w b n):
 Calls Tryz.prog 126 #[a,b] w λe f=>e=.returned (.int .i64 (Xt m n))/\Bl w f:=by
 have h:=Oo a b _ _ w c d (Jr Jg m) (Jr Jg n) (Y3 Jg m) (Y3 Jg n);rw[Jq Jg,Jq Jg]at h;exact h
def aM(a b:nJ)(la lb ca cb m n:Nat)(s:Bool)(w:World)(A:UN w (B a la ca) m)(E:UN w (B b lb cb) n)(r:la<1099511627776)(t:lb<1099511627776):
 Calls Tryz.prog 83 #[.agg #[C s,B a la ca],.agg #[C s,B b lb cb]] w λe i=>∃c o p,e=.returned (.agg #[C (s&&decide (0<o)),B c o p])/\UN i (B c o p) (m+n)/\Bl w i:=by
 have F:¬(w.heap.size=w.heap.size+1+1):=O
 go_enter func83,ntmps83
 go_wp2_with fail
 have f:=Hu w (D #[C s,B a la ca] 35) (D #[C s,B b lb cb] 35) (D #[C false,B none 0 0] 35);have b0:=((Jp.new w 35 (C s) (B a la ca)).alloc (D #[C s,B b lb cb] 35)).alloc (D #[C false,B none 0 0] 35);have g:=(Jp.new (w.alloc (D #[C s,B a la ca] 35)) 35 (C s) (B b lb cb)).alloc (D #[C false,B none 0 0] 35);have d:=Jp.new ((w.alloc (D #[C s,B a la ca] 35)).alloc (D #[C s,B b lb cb] 35)) 35 (C false) (B none 0 0);simp only[Ax]at g d;go_region_held3 (λi=>i.cell? ⟨w.heap.size,1,none⟩=some (B a la ca)/\i.cell? ⟨w.heap.size+1,1,none⟩=some (B b lb cb)/\i.cell? ⟨w.heap.size,0,none⟩=some (C s)) (refine⟨?_,?_,?_⟩<;>(first|(go_keep;done)|((repeat rw[JF O]);simp[*];done)))
  (first
   |(go_at_call 132;refine(Rq _ _ _ _ _ _ m n _ ?_ ?_ r t).mono ?_;exact A.below f.drew;exact E.below f.drew;rintro e G ⟨u,rfl,l,k⟩;obtain⟨a',c',rfl⟩:=l.form;have b0:=b0.drew.below k;have g:=g.drew.below k;have d:=d.drew.below k;have f:=Bt f.drew k;have x:=b0.c1;have y:=b0.c0;have z:=g.c1)
   |(go_at_call 72;refine(Ma _ _ _ _ _).mono ?_;rintro e H ⟨rfl,j⟩;have l:=Row.below l j;have b0:=b0.below j;have g:=g.below j;have d:=d.below j;have f:=Bt f j;have x:=b0.c1;have y:=b0.c0;have z:=g.c1;obtain⟨r0,r1⟩:=d.cp;obtain⟨f0,f1⟩:=d.fp))
 all_goals go_wp2_with fail
 obtain⟨v,q⟩:=Yj (C (s&&decide (0<(Jd Z (m+n)).length))) (B a' (Jd Z (m+n)).length c') f O d J J l;exact A0 (by simp[results,results83,go_sem,r0,r1]) J ⟨_,_,_,J,v,q⟩
def aN(a b:nJ)(la lb ca cb m n:Nat)(s:Bool)(w:World)(y:UN w (B a la ca) m)(z:UN w (B b lb cb) n)(p:n<=m):
 Calls Tryz.prog 83 #[.agg #[C s,B a la ca],.agg #[C (!s),B b lb cb]] w λe i=>∃c q r,e=.returned (.agg #[C (s&&decide (0<q)),B c q r])/\UN i (B c q r) (m-n)/\Bl w i:=by
 have I:¬(w.heap.size=w.heap.size+1+1):=O
 have H:(s == !s)=false:=by cases s<;>rfl
 have G:=Rh p;have A:Hid (n<=m):=p;clear p;have d:=Hu w (D #[C s,B a la ca] 35) (D #[C (!s),B b lb cb] 35) (D #[C false,B none 0 0] 35);have b0:=((Jp.new w 35 (C s) (B a la ca)).alloc (D #[C (!s),B b lb cb] 35)).alloc (D #[C false,B none 0 0] 35);have f:=(Jp.new (w.alloc (D #[C s,B a la ca] 35)) 35 (C (!s)) (B b lb cb)).alloc (D #[C false,B none 0 0] 35);have g:=Jp.new ((w.alloc (D #[C s,B a la ca] 35)).alloc (D #[C (!s),B b lb cb] 35)) 35 (C false) (B none 0 0);simp only[Ax]at f g;go_enter func83,ntmps83
 go_wp2_with(first
  |(go_at_call 126;refine(Mo _ _ m n _ ?_ ?_).mono ?_;exact y.below d;exact z.below d;rintro e w0 ⟨rfl,k⟩;have b0:=b0.below k;have f:=f.below k;have g:=g.below k;have d:=Bt d k;have t:=b0.c1;have v:=b0.c0;have x:=f.c1))
 go_region_held3 (λi=>i.cell? ⟨w.heap.size,1,none⟩=some (B a la ca)/\i.cell? ⟨w.heap.size+1,1,none⟩=some (B b lb cb)/\i.cell? ⟨w.heap.size,0,none⟩=some (C s)) (refine⟨?_,?_,?_⟩<;>(first|(go_keep;done)|((repeat rw[JF O]);simp[*];done)))
  (first
   |(go_at_call 133;refine(On _ _ _ _ _ _ m n _ ?_ ?_ A.o).mono ?_;exact y.below d.drew;exact z.below d.drew;rintro e K ⟨u,rfl,o,l⟩;obtain⟨a',c',rfl⟩:=o.form;have b0:=b0.drew.below l;have f:=f.drew.below l;have g:=g.drew.below l;have d:=Bt d.drew l;have t:=b0.c1;have v:=b0.c0;have x:=f.c1)
   |(go_at_call 72;refine(Ma _ _ _ _ _).mono ?_;rintro e L ⟨rfl,j⟩;have o:=Row.below o j;have b0:=b0.below j;have f:=f.below j;have g:=g.below j;have d:=Bt d j;have t:=b0.c1;have v:=b0.c0;have x:=f.c1;obtain⟨r0,r1⟩:=g.cp;obtain⟨f0,f1⟩:=g.fp))
 all_goals go_wp2_with fail
 obtain⟨F,E⟩:=Yj (C (s&&decide (0<(Jd Z (m-n)).length))) (B a' (Jd Z (m-n)).length c') d O g J J o;exact A0 (by simp[results,results83,go_sem,r0,r1]) J ⟨_,_,_,J,F,E⟩
def aO(a b:nJ)(la lb ca cb m n:Nat)(s:Bool)(w:World)(y:UN w (B a la ca) m)(z:UN w (B b lb cb) n)(p:m<n):
 Calls Tryz.prog 83 #[.agg #[C s,B a la ca],.agg #[C (!s),B b lb cb]] w λe i=>∃c q r,e=.returned (.agg #[C ((!s)&&decide (0<q)),B c q r])/\UN i (B c q r) (n-m)/\Bl w i:=by
 have I:¬(w.heap.size=w.heap.size+1+1):=O
 have H:(s == !s)=false:=by cases s<;>rfl
 have G:Xt m n<0:=by rw[Gz p];omega
 have A:Hid (m<n):=p;clear p;have d:=Hu w (D #[C s,B a la ca] 35) (D #[C (!s),B b lb cb] 35) (D #[C false,B none 0 0] 35);have b0:=((Jp.new w 35 (C s) (B a la ca)).alloc (D #[C (!s),B b lb cb] 35)).alloc (D #[C false,B none 0 0] 35);have f:=(Jp.new (w.alloc (D #[C s,B a la ca] 35)) 35 (C (!s)) (B b lb cb)).alloc (D #[C false,B none 0 0] 35);have g:=Jp.new ((w.alloc (D #[C s,B a la ca] 35)).alloc (D #[C (!s),B b lb cb] 35)) 35 (C false) (B none 0 0);simp only[Ax]at f g;go_enter func83,ntmps83
 go_wp2_with(first
  |(go_at_call 126;refine(Mo _ _ m n _ ?_ ?_).mono ?_;exact y.below d;exact z.below d;rintro e w0 ⟨rfl,k⟩;have b0:=b0.below k;have f:=f.below k;have g:=g.below k;have d:=Bt d k;have t:=b0.c1;obtain⟨v,x⟩:=f.cp))
 go_region_held3 (λi=>i.cell? ⟨w.heap.size,1,none⟩=some (B a la ca)/\i.cell? ⟨w.heap.size+1,1,none⟩=some (B b lb cb)/\i.cell? ⟨w.heap.size+1,0,none⟩=some (C (!s))) (refine⟨?_,?_,?_⟩<;>(first|(go_keep;done)|((repeat rw[JF O]);simp[*];done)))
  (first
   |(go_at_call 133;refine(On _ _ _ _ _ _ n m _ ?_ ?_ (Nat.le_of_lt A.o)).mono ?_;exact z.below d.drew;exact y.below d.drew;rintro e K ⟨u,rfl,o,l⟩;obtain⟨a',c',rfl⟩:=o.form;have b0:=b0.drew.below l;have f:=f.drew.below l;have g:=g.drew.below l;have d:=Bt d.drew l;have t:=b0.c1;obtain⟨v,x⟩:=f.cp)
   |(go_at_call 72;refine(Ma _ _ _ _ _).mono ?_;rintro e L ⟨rfl,j⟩;have o:=Row.below o j;have b0:=b0.below j;have f:=f.below j;have g:=g.below j;have d:=Bt d j;have t:=b0.c1;obtain⟨v,x⟩:=f.cp;obtain⟨r0,r1⟩:=g.cp;obtain⟨f0,f1⟩:=g.fp))
 all_goals go_wp2_with fail
 obtain⟨F,E⟩:=Yj (C ((!s)&&decide (0<(Jd Z (n-m)).length))) (B a' (Jd Z (n-m)).length c') d O g J J o;exact A0 (by simp[results,results83,go_sem,r0,r1]) J ⟨_,_,_,J,F,E⟩
theorem Jm.of{W:World}{s:Bool}{a:nJ}{l cap n:Nat}{z:Int}(h:UN W (B a l cap) n)(b:z=if s then -(n:Int)else n):Jm W (.agg #[C (s&&decide (0<l)),B a l cap]) z:=by
 have hl:=h.len;subst b;refine⟨a,l,cap,Rj ?_,?_⟩
 . grind[Ri]
 . have e:(if s then -(n:Int)else n).natAbs=n:=by cases s<;>simp
   rw[e];exact h
def Ow(m n:Value)(x y:Int)(w:World)(r:Jm w m x)(s:Jm w n y)(z:(Jd Z x.natAbs).length<1099511627776)(A:(Jd Z y.natAbs).length<1099511627776):
 Calls Tryz.prog 83 #[m,n] w λe g=>∃u,e=.returned u/\Jm g u (x+y)/\Bl w g:=by
 obtain⟨a,la,ca,rfl,i⟩:=r;obtain⟨b,lb,cb,rfl,j⟩:=s;have t:=i.len;have v:=j.len;by_cases p:decide (y<0)=decide (x<0)
 . rw[p];refine(aM a b la lb ca cb _ _ _ w i j O O).mono ?_;rintro e g ⟨c,l,k,rfl,f,d⟩;refine⟨_,J,Jm.of f ?_,d⟩;grind
 . have q:decide (y<0)=!decide (x<0):=by
    grind
   rw[q];by_cases o:y.natAbs<=x.natAbs
   . refine(aN a b la lb ca cb _ _ _ w i j o).mono ?_;rintro e g ⟨c,l,k,rfl,f,d⟩;refine⟨_,J,Jm.of f ?_,d⟩;grind
   . refine(aO a b la lb ca cb _ _ _ w i j O).mono ?_;rintro e g ⟨c,l,k,rfl,f,d⟩;refine⟨_,J,Jm.of f ?_,d⟩;grind
def XN(x y:Int):Int:=if x<y then -1 else if y<x then 1 else 0
def Ox(w:World)(a b:Obj):Bl w ((w.alloc a).alloc b):=
 (Ba w _).alloc DG _
def aP(a b:nJ)(la lb ca cb m n:Nat)(s t:Bool)(w:World)(f:UN w (B a la ca) m)(g:UN w (B b lb cb) n):
 Calls Tryz.prog 64 #[.agg #[C s,B a la ca],.agg #[C t,B b lb cb]] w λe j=>e=.returned (.int .i64 (if s=t then(if s then Xt n m else Xt m n)else(if t then 1 else -1)))/\Bl w j:=by
 have c:=Ox w (D #[C s,B a la ca] 35) (D #[C t,B b lb cb] 35);have b0:=(Jp.new w 35 (C s) (B a la ca)).alloc (D #[C t,B b lb cb] 35);have i:=Jp.new (w.alloc (D #[C s,B a la ca] 35)) 35 (C t) (B b lb cb);simp only[Ax]at i;cases s<;>cases t
 all_goals
  go_enter func64,ntmps64
  go_wp2_with(first
   |(go_at_call 126;refine(Mo _ _ n m _ ?_ ?_).mono ?_;exact g.below c;exact f.below c;rintro e w0 ⟨rfl,d⟩)
   |(go_at_call 126;refine(Mo _ _ m n _ ?_ ?_).mono ?_;exact f.below c;exact g.below c;rintro e w0 ⟨rfl,d⟩)
   |(go_at_call 125;refine(Ob _ _).mono ?_;rintro e w0 ⟨rfl,rfl⟩))
  go_ret;first
   |exact⟨J,Bt c d⟩
   |exact⟨J,c⟩
def I5(c d:Value)(x y:Int)(w:World)(j:Jm w c x)(k:Jm w d y):
 Calls Tryz.prog 64 #[c,d] w λe f=>e=.returned (.int .i64 (XN x y))/\Bl w f:=by
 obtain⟨a,la,ca,rfl,g⟩:=j;obtain⟨b,lb,cb,rfl,i⟩:=k;refine(aP a b la lb ca cb _ _ _ _ w g i).mono ?_;rintro e f ⟨rfl,l⟩;grind[XN,Xt]
