import Derived.Test.YtcahejkcdcjjgaaGreatDoorW09
import Derived.Test.YtcahejkcdcjjgaaGreatDoorW04
set_option linter.all false
open Go.Value renaming slice->B,bool->C
open Go.Obj renaming cells->D
set_option maxRecDepth 99999
set_option maxHeartbeats 0
namespace Go.Proofs.YtcahejkcdcjjgaaGreatDoor
open Proofs.Tryz
open Go.RowKit Go.Shelf
def I0(a b:Value)(m n:Nat)(w:World)(c:UN w a m)(d:UN w b n):
 Calls Tryz.prog 114 #[a,b] w λe f=>e=.returned (.int .i64 (YG m n))/\Bl w f:=by
 have h:=LN a b _ _ w c d (Jm Jd m) (Jm Jd n) (J8 Jd m) (J8 Jd n);rw[Jn Jd,Jn Jd]at h;exact h
def SB(a b:Zu)(la lb i j m n:Nat)(s:Bool)(w:World)(H:UN w (B a la i) m)(I:UN w (B b lb j) n)(x:la<1099511627776)(y:lb<1099511627776):
 Calls Tryz.prog 81 #[.agg #[C s,B a la i],.agg #[C s,B b lb j]] w λe k=>∃c q r,e=.returned (.agg #[C (s&&decide (0<q)),B c q r])/\UN k (B c q r) (m+n)/\Bl w k:=by
 have K:¬(w.heap.size=w.heap.size+1+1):=O
 go_enter func81,ntmps81
 go_wp2_with fail
 have f:=XZ w (D #[C s,B a la i] 36) (D #[C s,B b lb j] 36) (D #[C false,B none 0 0] 36);have b0:=((Ji.new w 36 (C s) (B a la i)).alloc (D #[C s,B b lb j] 36)).alloc (D #[C false,B none 0 0] 36);have g:=(Ji.new (w.alloc (D #[C s,B a la i] 36)) 36 (C s) (B b lb j)).alloc (D #[C false,B none 0 0] 36);have d:=Ji.new ((w.alloc (D #[C s,B a la i] 36)).alloc (D #[C s,B b lb j] 36)) 36 (C false) (B none 0 0);simp only[A1]at g d;go_region_held3 (λk=>k.cell? ⟨w.heap.size,1,none⟩=some (B a la i)/\k.cell? ⟨w.heap.size+1,1,none⟩=some (B b lb j)/\k.cell? ⟨w.heap.size,0,none⟩=some (C s)) (refine⟨?_,?_,?_⟩<;>(first|(go_keep;done)|((repeat rw[JD O]);simp[*];done)))
  (first
   |(go_at_call 113;refine(NO _ _ _ _ _ _ m n _ ?_ ?_ x y).mono ?_;exact H.below f.drew;exact I.below f.drew;rintro e L ⟨u,rfl,p,o⟩;obtain⟨t,c',rfl⟩:=p.form;have b0:=b0.drew.below o;have g:=g.drew.below o;have d:=d.drew.below o;have f:=Bt f.drew o;have A:=b0.c1;have E:=b0.c0;have F:=g.c1)
   |(go_at_call 112;refine(Im _ _ _ _ _).mono ?_;rintro e M ⟨rfl,l⟩;have p:=Row.below p l;have b0:=b0.below l;have g:=g.below l;have d:=d.below l;have f:=Bt f l;have A:=b0.c1;have E:=b0.c0;have F:=g.c1;obtain⟨r0,G⟩:=d.cp;obtain⟨f0,f1⟩:=d.fp))
 all_goals go_wp2_with fail
 obtain⟨z,v⟩:=JW (C (s&&decide (0<(Jb Y (m+n)).length))) (B t (Jb Y (m+n)).length c') f O d J J p;exact BA (by simp[results,results81,go_sem,r0,G]) J ⟨_,_,_,J,z,v⟩
def SC(a b:Zu)(la lb i j m n:Nat)(s:Bool)(w:World)(A:UN w (B a la i) m)(E:UN w (B b lb j) n)(r:n<=m):
 Calls Tryz.prog 81 #[.agg #[C s,B a la i],.agg #[C (!s),B b lb j]] w λe k=>∃c t v,e=.returned (.agg #[C (s&&decide (0<t)),B c t v])/\UN k (B c t v) (m-n)/\Bl w k:=by
 have M:¬(w.heap.size=w.heap.size+1+1):=O
 have hs:(s == !s)=false:=by cases s<;>rfl
 have L:=M8 r;have F:Hid (n<=m):=r;clear r;have d:=XZ w (D #[C s,B a la i] 36) (D #[C (!s),B b lb j] 36) (D #[C false,B none 0 0] 36);have b0:=((Ji.new w 36 (C s) (B a la i)).alloc (D #[C (!s),B b lb j] 36)).alloc (D #[C false,B none 0 0] 36);have f:=(Ji.new (w.alloc (D #[C s,B a la i] 36)) 36 (C (!s)) (B b lb j)).alloc (D #[C false,B none 0 0] 36);have g:=Ji.new ((w.alloc (D #[C s,B a la i] 36)).alloc (D #[C (!s),B b lb j] 36)) 36 (C false) (B none 0 0);simp only[A1]at f g;go_enter func81,ntmps81
 go_wp2_with(first
  |(go_at_call 114;refine(I0 _ _ m n _ ?_ ?_).mono ?_;exact A.below d;exact E.below d;rintro e w0 ⟨rfl,o⟩;have b0:=b0.below o;have f:=f.below o;have g:=g.below o;have d:=Bt d o;have x:=b0.c1;have y:=b0.c0;have z:=f.c1))
 go_region_held3 (λk=>k.cell? ⟨w.heap.size,1,none⟩=some (B a la i)/\k.cell? ⟨w.heap.size+1,1,none⟩=some (B b lb j)/\k.cell? ⟨w.heap.size,0,none⟩=some (C s)) (refine⟨?_,?_,?_⟩<;>(first|(go_keep;done)|((repeat rw[JD O]);simp[*];done)))
  (first
   |(go_at_call 115;refine(LM _ _ _ _ _ _ m n _ ?_ ?_ F.o).mono ?_;exact A.below d.drew;exact E.below d.drew;rintro e N ⟨u,rfl,q,p⟩;obtain⟨G,c',rfl⟩:=q.form;have b0:=b0.drew.below p;have f:=f.drew.below p;have g:=g.drew.below p;have d:=Bt d.drew p;have x:=b0.c1;have y:=b0.c0;have z:=f.c1)
   |(go_at_call 112;refine(Im _ _ _ _ _).mono ?_;rintro e P ⟨rfl,l⟩;have q:=Row.below q l;have b0:=b0.below l;have f:=f.below l;have g:=g.below l;have d:=Bt d l;have x:=b0.c1;have y:=b0.c0;have z:=f.c1;obtain⟨r0,K⟩:=g.cp;obtain⟨f0,f1⟩:=g.fp))
 all_goals go_wp2_with fail
 obtain⟨I,H⟩:=JW (C (s&&decide (0<(Jb Y (m-n)).length))) (B G (Jb Y (m-n)).length c') d O g J J q;exact BA (by simp[results,results81,go_sem,r0,K]) J ⟨_,_,_,J,I,H⟩
def SF(a b:Zu)(la lb i j m n:Nat)(s:Bool)(w:World)(A:UN w (B a la i) m)(E:UN w (B b lb j) n)(r:m<n):
 Calls Tryz.prog 81 #[.agg #[C s,B a la i],.agg #[C (!s),B b lb j]] w λe k=>∃c t v,e=.returned (.agg #[C ((!s)&&decide (0<t)),B c t v])/\UN k (B c t v) (n-m)/\Bl w k:=by
 have M:¬(w.heap.size=w.heap.size+1+1):=O
 have hs:(s == !s)=false:=by cases s<;>rfl
 have L:YG m n<0:=by rw[XF r];omega
 have F:Hid (m<n):=r;clear r;have d:=XZ w (D #[C s,B a la i] 36) (D #[C (!s),B b lb j] 36) (D #[C false,B none 0 0] 36);have b0:=((Ji.new w 36 (C s) (B a la i)).alloc (D #[C (!s),B b lb j] 36)).alloc (D #[C false,B none 0 0] 36);have f:=(Ji.new (w.alloc (D #[C s,B a la i] 36)) 36 (C (!s)) (B b lb j)).alloc (D #[C false,B none 0 0] 36);have g:=Ji.new ((w.alloc (D #[C s,B a la i] 36)).alloc (D #[C (!s),B b lb j] 36)) 36 (C false) (B none 0 0);simp only[A1]at f g;go_enter func81,ntmps81
 go_wp2_with(first
  |(go_at_call 114;refine(I0 _ _ m n _ ?_ ?_).mono ?_;exact A.below d;exact E.below d;rintro e w0 ⟨rfl,o⟩;have b0:=b0.below o;have f:=f.below o;have g:=g.below o;have d:=Bt d o;have x:=b0.c1;obtain⟨y,z⟩:=f.cp))
 go_region_held3 (λk=>k.cell? ⟨w.heap.size,1,none⟩=some (B a la i)/\k.cell? ⟨w.heap.size+1,1,none⟩=some (B b lb j)/\k.cell? ⟨w.heap.size+1,0,none⟩=some (C (!s))) (refine⟨?_,?_,?_⟩<;>(first|(go_keep;done)|((repeat rw[JD O]);simp[*];done)))
  (first
   |(go_at_call 115;refine(LM _ _ _ _ _ _ n m _ ?_ ?_ (Nat.le_of_lt F.o)).mono ?_;exact E.below d.drew;exact A.below d.drew;rintro e N ⟨u,rfl,q,p⟩;obtain⟨G,c',rfl⟩:=q.form;have b0:=b0.drew.below p;have f:=f.drew.below p;have g:=g.drew.below p;have d:=Bt d.drew p;have x:=b0.c1;obtain⟨y,z⟩:=f.cp)
   |(go_at_call 112;refine(Im _ _ _ _ _).mono ?_;rintro e P ⟨rfl,l⟩;have q:=Row.below q l;have b0:=b0.below l;have f:=f.below l;have g:=g.below l;have d:=Bt d l;have x:=b0.c1;obtain⟨y,z⟩:=f.cp;obtain⟨r0,K⟩:=g.cp;obtain⟨f0,f1⟩:=g.fp))
 all_goals go_wp2_with fail
 obtain⟨I,H⟩:=JW (C ((!s)&&decide (0<(Jb Y (n-m)).length))) (B G (Jb Y (n-m)).length c') d O g J J q;exact BA (by simp[results,results81,go_sem,r0,K]) J ⟨_,_,_,J,I,H⟩
theorem Jl.of{W:World}{s:Bool}{a:Zu}{l cap n:Nat}{z:Int}(h:UN W (B a l cap) n)(b:z=if s then -(n:Int)else n):Jl W (.agg #[C (s&&decide (0<l)),B a l cap]) z:=by
 have hl:=h.len;subst b;refine⟨a,l,cap,NC ?_,?_⟩
 . grind[K6]
 . have e:(if s then -(n:Int)else n).natAbs=n:=by cases s<;>simp
   rw[e];exact h
def LT(o p:Value)(x y:Int)(w:World)(s:Jl w o x)(t:Jl w p y)(A:(Jb Y x.natAbs).length<1099511627776)(E:(Jb Y y.natAbs).length<1099511627776):
 Calls Tryz.prog 81 #[o,p] w λe g=>∃u,e=.returned u/\Jl g u (x+y)/\Bl w g:=by
 obtain⟨a,la,k,rfl,i⟩:=s;obtain⟨b,lb,l,rfl,j⟩:=t;have v:=i.len;have z:=j.len;by_cases hs:decide (y<0)=decide (x<0)
 . rw[hs];refine(SB a b la lb k l _ _ _ w i j O O).mono ?_;rintro e g ⟨c,n,m,rfl,f,d⟩;refine⟨_,J,Jl.of f ?_,d⟩;grind
 . have r:decide (y<0)=!decide (x<0):=by
    grind
   rw[r];by_cases q:y.natAbs<=x.natAbs
   . refine(SC a b la lb k l _ _ _ w i j q).mono ?_;rintro e g ⟨c,n,m,rfl,f,d⟩;refine⟨_,J,Jl.of f ?_,d⟩;grind
   . refine(SF a b la lb k l _ _ _ w i j O).mono ?_;rintro e g ⟨c,n,m,rfl,f,d⟩;refine⟨_,J,Jl.of f ?_,d⟩;grind
def D3(x y:Int):Int:=if x<y then -1 else if y<x then 1 else 0
def LU(w:World)(a b:Obj):Bl w ((w.alloc a).alloc b):=
 (Ba w _).alloc DJ _
def SH(a b:Zu)(la lb d f m n:Nat)(s t:Bool)(w:World)(i:UN w (B a la d) m)(j:UN w (B b lb f) n):
 Calls Tryz.prog 87 #[.agg #[C s,B a la d],.agg #[C t,B b lb f]] w λe l=>e=.returned (.int .i64 (if s=t then(if s then YG n m else YG m n)else(if t then 1 else -1)))/\Bl w l:=by
 have c:=LU w (D #[C s,B a la d] 36) (D #[C t,B b lb f] 36);have b0:=(Ji.new w 36 (C s) (B a la d)).alloc (D #[C t,B b lb f] 36);have k:=Ji.new (w.alloc (D #[C s,B a la d] 36)) 36 (C t) (B b lb f);simp only[A1]at k;cases s<;>cases t
 all_goals
  go_enter func87,ntmps87
  go_wp2_with(first
   |(go_at_call 114;refine(I0 _ _ n m _ ?_ ?_).mono ?_;exact j.below c;exact i.below c;rintro e w0 ⟨rfl,g⟩)
   |(go_at_call 114;refine(I0 _ _ m n _ ?_ ?_).mono ?_;exact i.below c;exact j.below c;rintro e w0 ⟨rfl,g⟩)
   |(go_at_call 119;refine(K7 _ _).mono ?_;rintro e w0 ⟨rfl,rfl⟩))
  go_ret;first
   |exact⟨J,Bt c g⟩
   |exact⟨J,c⟩
def X8(c d:Value)(x y:Int)(w:World)(l:Jl w c x)(m:Jl w d y):
 Calls Tryz.prog 87 #[c,d] w λe f=>e=.returned (.int .i64 (D3 x y))/\Bl w f:=by
 obtain⟨a,la,g,rfl,j⟩:=l;obtain⟨b,lb,i,rfl,k⟩:=m;refine(SH a b la lb g i _ _ _ _ w j k).mono ?_;rintro e f ⟨rfl,n⟩;grind[D3,YG]
