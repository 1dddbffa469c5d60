import Derived.Test.YtcahejkcdcjjgaaGreatDoorS09
import Derived.Test.YtcahejkcdcjjgaaGreatDoorS04
set_option linter.all false
open Go.Value renaming slice->B,bool->C
open Go.Obj renaming cells->D
set_option maxRecDepth 99999
set_option maxHeartbeats 0
namespace Go.Proofs.YtcahejkcdcjjgaaGreatDoor
open Proofs.Tryz
open Go.RowKit Go.Shelf
def Ir(a b:Value)(m n:Nat)(w:World)(c:UN w a m)(d:UN w b n):
 Calls Tryz.prog 114 #[a,b] w λe f=>e=.returned (.int .i64 (YX m n))/\Bl w f:=by
 have h:=LF a b _ _ w c d (Jm Jb m) (Jm Jb n) (YR Jb m) (YR Jb n);rw[Jl Jb,Jl Jb]at h;exact h
def Rm(a b:WO)(la lb i j m n:Nat)(s:Bool)(w:World)(H:UN w (B a la i) m)(I:UN w (B b lb j) n)(x:la<1099511627776)(y:lb<1099511627776):
 Calls Tryz.prog 81 #[.agg #[C s,B a la i],.agg #[C s,B b lb j]] w λe k=>∃c q r,e=.returned (.agg #[C (s&&decide (0<q)),B c q r])/\UN k (B c q r) (m+n)/\Bl w k:=by
 have K:¬(w.heap.size=w.heap.size+1+1):=Z
 go_enter func81,ntmps81
 go_wp2_with fail
 have f:=Kl w (D #[C s,B a la i] 36) (D #[C s,B b lb j] 36) (D #[C false,B none 0 0] 36);have b0:=((Jo.new w 36 (C s) (B a la i)).alloc (D #[C s,B b lb j] 36)).alloc (D #[C false,B none 0 0] 36);have g:=(Jo.new (w.alloc (D #[C s,B a la i] 36)) 36 (C s) (B b lb j)).alloc (D #[C false,B none 0 0] 36);have d:=Jo.new ((w.alloc (D #[C s,B a la i] 36)).alloc (D #[C s,B b lb j] 36)) 36 (C false) (B none 0 0);simp only[A1]at g d;go_region_held3 (λk=>k.cell? ⟨w.heap.size,1,none⟩=some (B a la i)/\k.cell? ⟨w.heap.size+1,1,none⟩=some (B b lb j)/\k.cell? ⟨w.heap.size,0,none⟩=some (C s)) (refine⟨?_,?_,?_⟩<;>(first|(go_keep;done)|((repeat rw[JO Z]);simp[*];done)))
  (first
   |(go_at_call 113;refine(M9 _ _ _ _ _ _ m n _ ?_ ?_ x y).mono ?_;exact H.below f.drew;exact I.below f.drew;rintro e L ⟨u,rfl,p,o⟩;obtain⟨t,c',rfl⟩:=p.form;have b0:=b0.drew.below o;have g:=g.drew.below o;have d:=d.drew.below o;have f:=Bt f.drew o;have A:=b0.c1;have E:=b0.c0;have F:=g.c1)
   |(go_at_call 112;refine(Ie _ _ _ _ _).mono ?_;rintro e M ⟨rfl,l⟩;have p:=Row.below p l;have b0:=b0.below l;have g:=g.below l;have d:=d.below l;have f:=Bt f l;have A:=b0.c1;have E:=b0.c0;have F:=g.c1;obtain⟨r0,G⟩:=d.cp;obtain⟨f0,f1⟩:=d.fp))
 all_goals go_wp2_with fail
 obtain⟨z,v⟩:=XH (C (s&&decide (0<(Jc O (m+n)).length))) (B t (Jc O (m+n)).length c') f Z d J J p;exact BM (by simp[results,results81,go_sem,r0,G]) J ⟨_,_,_,J,z,v⟩
def Rn(a b:WO)(la lb i j m n:Nat)(s:Bool)(w:World)(A:UN w (B a la i) m)(E:UN w (B b lb j) n)(r:n<=m):
 Calls Tryz.prog 81 #[.agg #[C s,B a la i],.agg #[C (!s),B b lb j]] w λe k=>∃c t v,e=.returned (.agg #[C (s&&decide (0<t)),B c t v])/\UN k (B c t v) (m-n)/\Bl w k:=by
 have M:¬(w.heap.size=w.heap.size+1+1):=Z
 have hs:(s == !s)=false:=by cases s<;>rfl
 have L:=QH r;have F:Hid (n<=m):=r;clear r;have d:=Kl w (D #[C s,B a la i] 36) (D #[C (!s),B b lb j] 36) (D #[C false,B none 0 0] 36);have b0:=((Jo.new w 36 (C s) (B a la i)).alloc (D #[C (!s),B b lb j] 36)).alloc (D #[C false,B none 0 0] 36);have f:=(Jo.new (w.alloc (D #[C s,B a la i] 36)) 36 (C (!s)) (B b lb j)).alloc (D #[C false,B none 0 0] 36);have g:=Jo.new ((w.alloc (D #[C s,B a la i] 36)).alloc (D #[C (!s),B b lb j] 36)) 36 (C false) (B none 0 0);simp only[A1]at f g;go_enter func81,ntmps81
 go_wp2_with(first
  |(go_at_call 114;refine(Ir _ _ m n _ ?_ ?_).mono ?_;exact A.below d;exact E.below d;rintro e w0 ⟨rfl,o⟩;have b0:=b0.below o;have f:=f.below o;have g:=g.below o;have d:=Bt d o;have x:=b0.c1;have y:=b0.c0;have z:=f.c1))
 go_region_held3 (λk=>k.cell? ⟨w.heap.size,1,none⟩=some (B a la i)/\k.cell? ⟨w.heap.size+1,1,none⟩=some (B b lb j)/\k.cell? ⟨w.heap.size,0,none⟩=some (C s)) (refine⟨?_,?_,?_⟩<;>(first|(go_keep;done)|((repeat rw[JO Z]);simp[*];done)))
  (first
   |(go_at_call 115;refine(LE _ _ _ _ _ _ m n _ ?_ ?_ F.o).mono ?_;exact A.below d.drew;exact E.below d.drew;rintro e N ⟨u,rfl,q,p⟩;obtain⟨G,c',rfl⟩:=q.form;have b0:=b0.drew.below p;have f:=f.drew.below p;have g:=g.drew.below p;have d:=Bt d.drew p;have x:=b0.c1;have y:=b0.c0;have z:=f.c1)
   |(go_at_call 112;refine(Ie _ _ _ _ _).mono ?_;rintro e P ⟨rfl,l⟩;have q:=Row.below q l;have b0:=b0.below l;have f:=f.below l;have g:=g.below l;have d:=Bt d l;have x:=b0.c1;have y:=b0.c0;have z:=f.c1;obtain⟨r0,K⟩:=g.cp;obtain⟨f0,f1⟩:=g.fp))
 all_goals go_wp2_with fail
 obtain⟨I,H⟩:=XH (C (s&&decide (0<(Jc O (m-n)).length))) (B G (Jc O (m-n)).length c') d Z g J J q;exact BM (by simp[results,results81,go_sem,r0,K]) J ⟨_,_,_,J,I,H⟩
def Ro(a b:WO)(la lb i j m n:Nat)(s:Bool)(w:World)(A:UN w (B a la i) m)(E:UN w (B b lb j) n)(r:m<n):
 Calls Tryz.prog 81 #[.agg #[C s,B a la i],.agg #[C (!s),B b lb j]] w λe k=>∃c t v,e=.returned (.agg #[C ((!s)&&decide (0<t)),B c t v])/\UN k (B c t v) (n-m)/\Bl w k:=by
 have M:¬(w.heap.size=w.heap.size+1+1):=Z
 have hs:(s == !s)=false:=by cases s<;>rfl
 have L:YX m n<0:=by rw[GP r];omega
 have F:Hid (m<n):=r;clear r;have d:=Kl w (D #[C s,B a la i] 36) (D #[C (!s),B b lb j] 36) (D #[C false,B none 0 0] 36);have b0:=((Jo.new w 36 (C s) (B a la i)).alloc (D #[C (!s),B b lb j] 36)).alloc (D #[C false,B none 0 0] 36);have f:=(Jo.new (w.alloc (D #[C s,B a la i] 36)) 36 (C (!s)) (B b lb j)).alloc (D #[C false,B none 0 0] 36);have g:=Jo.new ((w.alloc (D #[C s,B a la i] 36)).alloc (D #[C (!s),B b lb j] 36)) 36 (C false) (B none 0 0);simp only[A1]at f g;go_enter func81,ntmps81
 go_wp2_with(first
  |(go_at_call 114;refine(Ir _ _ m n _ ?_ ?_).mono ?_;exact A.below d;exact E.below d;rintro e w0 ⟨rfl,o⟩;have b0:=b0.below o;have f:=f.below o;have g:=g.below o;have d:=Bt d o;have x:=b0.c1;obtain⟨y,z⟩:=f.cp))
 go_region_held3 (λk=>k.cell? ⟨w.heap.size,1,none⟩=some (B a la i)/\k.cell? ⟨w.heap.size+1,1,none⟩=some (B b lb j)/\k.cell? ⟨w.heap.size+1,0,none⟩=some (C (!s))) (refine⟨?_,?_,?_⟩<;>(first|(go_keep;done)|((repeat rw[JO Z]);simp[*];done)))
  (first
   |(go_at_call 115;refine(LE _ _ _ _ _ _ n m _ ?_ ?_ (Nat.le_of_lt F.o)).mono ?_;exact E.below d.drew;exact A.below d.drew;rintro e N ⟨u,rfl,q,p⟩;obtain⟨G,c',rfl⟩:=q.form;have b0:=b0.drew.below p;have f:=f.drew.below p;have g:=g.drew.below p;have d:=Bt d.drew p;have x:=b0.c1;obtain⟨y,z⟩:=f.cp)
   |(go_at_call 112;refine(Ie _ _ _ _ _).mono ?_;rintro e P ⟨rfl,l⟩;have q:=Row.below q l;have b0:=b0.below l;have f:=f.below l;have g:=g.below l;have d:=Bt d l;have x:=b0.c1;obtain⟨y,z⟩:=f.cp;obtain⟨r0,K⟩:=g.cp;obtain⟨f0,f1⟩:=g.fp))
 all_goals go_wp2_with fail
 obtain⟨I,H⟩:=XH (C ((!s)&&decide (0<(Jc O (n-m)).length))) (B G (Jc O (n-m)).length c') d Z g J J q;exact BM (by simp[results,results81,go_sem,r0,K]) J ⟨_,_,_,J,I,H⟩
theorem Ji.of{W:World}{s:Bool}{a:WO}{l cap n:Nat}{z:Int}(h:UN W (B a l cap) n)(b:z=if s then -(n:Int)else n):Ji W (.agg #[C (s&&decide (0<l)),B a l cap]) z:=by
 have hl:=h.len;subst b;refine⟨a,l,cap,Mm ?_,?_⟩
 . grind[Kn]
 . have e:(if s then -(n:Int)else n).natAbs=n:=by cases s<;>simp
   rw[e];exact h
def LL(o p:Value)(x y:Int)(w:World)(s:Ji w o x)(t:Ji w p y)(A:(Jc O x.natAbs).length<1099511627776)(E:(Jc O y.natAbs).length<1099511627776):
 Calls Tryz.prog 81 #[o,p] w λe g=>∃u,e=.returned u/\Ji g u (x+y)/\Bl w g:=by
 obtain⟨a,la,k,rfl,i⟩:=s;obtain⟨b,lb,l,rfl,j⟩:=t;have v:=i.len;have z:=j.len;by_cases hs:decide (y<0)=decide (x<0)
 . rw[hs];refine(Rm a b la lb k l _ _ _ w i j Z Z).mono ?_;rintro e g ⟨c,n,m,rfl,f,d⟩;refine⟨_,J,Ji.of f ?_,d⟩;grind
 . have r:decide (y<0)=!decide (x<0):=by
    grind
   rw[r];by_cases q:y.natAbs<=x.natAbs
   . refine(Rn a b la lb k l _ _ _ w i j q).mono ?_;rintro e g ⟨c,n,m,rfl,f,d⟩;refine⟨_,J,Ji.of f ?_,d⟩;grind
   . refine(Ro a b la lb k l _ _ _ w i j Z).mono ?_;rintro e g ⟨c,n,m,rfl,f,d⟩;refine⟨_,J,Ji.of f ?_,d⟩;grind
def XI(x y:Int):Int:=if x<y then -1 else if y<x then 1 else 0
def LM(w:World)(a b:Obj):Bl w ((w.alloc a).alloc b):=
 (Ba w _).alloc DQ _
def Rp(a b:WO)(la lb d f m n:Nat)(s t:Bool)(w:World)(i:UN w (B a la d) m)(j:UN w (B b lb f) n):
 Calls Tryz.prog 87 #[.agg #[C s,B a la d],.agg #[C t,B b lb f]] w λe l=>e=.returned (.int .i64 (if s=t then(if s then YX n m else YX m n)else(if t then 1 else -1)))/\Bl w l:=by
 have c:=LM w (D #[C s,B a la d] 36) (D #[C t,B b lb f] 36);have b0:=(Jo.new w 36 (C s) (B a la d)).alloc (D #[C t,B b lb f] 36);have k:=Jo.new (w.alloc (D #[C s,B a la d] 36)) 36 (C t) (B b lb f);simp only[A1]at k;cases s<;>cases t
 all_goals
  go_enter func87,ntmps87
  go_wp2_with(first
   |(go_at_call 114;refine(Ir _ _ n m _ ?_ ?_).mono ?_;exact j.below c;exact i.below c;rintro e w0 ⟨rfl,g⟩)
   |(go_at_call 114;refine(Ir _ _ m n _ ?_ ?_).mono ?_;exact i.below c;exact j.below c;rintro e w0 ⟨rfl,g⟩)
   |(go_at_call 119;refine(Ko _ _).mono ?_;rintro e w0 ⟨rfl,rfl⟩))
  go_ret;first
   |exact⟨J,Bt c g⟩
   |exact⟨J,c⟩
def XJ(c d:Value)(x y:Int)(w:World)(l:Ji w c x)(m:Ji w d y):
 Calls Tryz.prog 87 #[c,d] w λe f=>e=.returned (.int .i64 (XI x y))/\Bl w f:=by
 obtain⟨a,la,g,rfl,j⟩:=l;obtain⟨b,lb,i,rfl,k⟩:=m;refine(Rp a b la lb g i _ _ _ _ w j k).mono ?_;rintro e f ⟨rfl,n⟩;grind[XI,YX]
