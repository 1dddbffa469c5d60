import Derived.Test.YtcahejkcdcjjgaaGreatDoorQ09
import Derived.Test.YtcahejkcdcjjgaaGreatDoorQ04
set_option linter.all false
open Go.Value renaming slice->B,bool->C
open Go.Obj renaming cells->D
set_option maxRecDepth 99999
set_option maxHeartbeats 0
namespace Go.Proofs.YtcahejkcdcjjgaaGreatDoor
open Proofs.Tryz
open Go.RowKit Go.Shelf
def GR(a b:Value)(m n:Nat)(w:World)(c:UN w a m)(d:UN w b n):
 Calls Tryz.prog 114 #[a,b] w λe f=>e=.returned (.int .i64 (Ym m n))/\Bl w f:=by
 have h:=IE a b _ _ w c d (Jh Jc m) (Jh Jc n) (JT Jc m) (JT Jc n);rw[Ji Jc,Ji Jc]at h;exact h
def O2(a b:TR)(f lb j k m n:Nat)(s:Bool)(w:World)(I:UN w (B a f j) m)(K:UN w (B b lb k) n)(y:f<1099511627776)(z:lb<1099511627776):
 Calls Tryz.prog 81 #[.agg #[C s,B a f j],.agg #[C s,B b lb k]] w λe l=>∃c r t,e=.returned (.agg #[C (s&&decide (0<r)),B c r t])/\UN l (B c r t) (m+n)/\Bl w l:=by
 have L:¬(w.heap.size=w.heap.size+1+1):=O
 go_enter func81,ntmps81
 go_wp2_with fail
 have g:=Xv w (D #[C s,B a f j] 36) (D #[C s,B b lb k] 36) (D #[C false,B none 0 0] 36);have b0:=((Jf.new w 36 (C s) (B a f j)).alloc (D #[C s,B b lb k] 36)).alloc (D #[C false,B none 0 0] 36);have i:=(Jf.new (w.alloc (D #[C s,B a f j] 36)) 36 (C s) (B b lb k)).alloc (D #[C false,B none 0 0] 36);have d:=Jf.new ((w.alloc (D #[C s,B a f j] 36)).alloc (D #[C s,B b lb k] 36)) 36 (C false) (B none 0 0);simp only[A1]at i d;go_region_held3 (λl=>l.cell? ⟨w.heap.size,1,none⟩=some (B a f j)/\l.cell? ⟨w.heap.size+1,1,none⟩=some (B b lb k)/\l.cell? ⟨w.heap.size,0,none⟩=some (C s)) (refine⟨?_,?_,?_⟩<;>(first|(go_keep;done)|((repeat rw[JC O]);simp[*];done)))
  (first
   |(go_at_call 113;refine(Kw _ _ _ _ _ _ m n _ ?_ ?_ y z).mono ?_;exact I.below g.drew;exact K.below g.drew;rintro e M ⟨u,rfl,q,p⟩;obtain⟨v,c',rfl⟩:=q.form;have b0:=b0.drew.below p;have i:=i.drew.below p;have d:=d.drew.below p;have g:=Bt g.drew p;have E:=b0.c1;have F:=b0.c0;have G:=i.c1)
   |(go_at_call 112;refine(GD _ _ _ _ _).mono ?_;rintro e N ⟨rfl,o⟩;have q:=Row.below q o;have b0:=b0.below o;have i:=i.below o;have d:=d.below o;have g:=Bt g o;have E:=b0.c1;have F:=b0.c0;have G:=i.c1;obtain⟨r0,H⟩:=d.cp;obtain⟨f0,f1⟩:=d.fp))
 all_goals go_wp2_with fail
 obtain⟨A,x⟩:=JP (C (s&&decide (0<(Jb Y (m+n)).length))) (B v (Jb Y (m+n)).length c') g O d J J q;exact BA (by simp[results,results81,go_sem,r0,H]) J ⟨_,_,_,J,A,x⟩
def O3(a b:TR)(k lb i j m n:Nat)(s:Bool)(w:World)(E:UN w (B a k i) m)(F:UN w (B b lb j) n)(t:n<=m):
 Calls Tryz.prog 81 #[.agg #[C s,B a k i],.agg #[C (!s),B b lb j]] w λe l=>∃c v x,e=.returned (.agg #[C (s&&decide (0<v)),B c v x])/\UN l (B c v x) (m-n)/\Bl w l:=by
 have N:¬(w.heap.size=w.heap.size+1+1):=O
 have hs:(s == !s)=false:=by cases s<;>rfl
 have M:=Ka t;have G:Hid (n<=m):=t;clear t;have d:=Xv w (D #[C s,B a k i] 36) (D #[C (!s),B b lb j] 36) (D #[C false,B none 0 0] 36);have b0:=((Jf.new w 36 (C s) (B a k i)).alloc (D #[C (!s),B b lb j] 36)).alloc (D #[C false,B none 0 0] 36);have f:=(Jf.new (w.alloc (D #[C s,B a k i] 36)) 36 (C (!s)) (B b lb j)).alloc (D #[C false,B none 0 0] 36);have g:=Jf.new ((w.alloc (D #[C s,B a k i] 36)).alloc (D #[C (!s),B b lb j] 36)) 36 (C false) (B none 0 0);simp only[A1]at f g;go_enter func81,ntmps81
 go_wp2_with(first
  |(go_at_call 114;refine(GR _ _ m n _ ?_ ?_).mono ?_;exact E.below d;exact F.below d;rintro e w0 ⟨rfl,p⟩;have b0:=b0.below p;have f:=f.below p;have g:=g.below p;have d:=Bt d p;have y:=b0.c1;have z:=b0.c0;have A:=f.c1))
 go_region_held3 (λl=>l.cell? ⟨w.heap.size,1,none⟩=some (B a k i)/\l.cell? ⟨w.heap.size+1,1,none⟩=some (B b lb j)/\l.cell? ⟨w.heap.size,0,none⟩=some (C s)) (refine⟨?_,?_,?_⟩<;>(first|(go_keep;done)|((repeat rw[JC O]);simp[*];done)))
  (first
   |(go_at_call 115;refine(ID _ _ _ _ _ _ m n _ ?_ ?_ G.o).mono ?_;exact E.below d.drew;exact F.below d.drew;rintro e P ⟨u,rfl,r,q⟩;obtain⟨H,c',rfl⟩:=r.form;have b0:=b0.drew.below q;have f:=f.drew.below q;have g:=g.drew.below q;have d:=Bt d.drew q;have y:=b0.c1;have z:=b0.c0;have A:=f.c1)
   |(go_at_call 112;refine(GD _ _ _ _ _).mono ?_;rintro e Q ⟨rfl,o⟩;have r:=Row.below r o;have b0:=b0.below o;have f:=f.below o;have g:=g.below o;have d:=Bt d o;have y:=b0.c1;have z:=b0.c0;have A:=f.c1;obtain⟨r0,L⟩:=g.cp;obtain⟨f0,f1⟩:=g.fp))
 all_goals go_wp2_with fail
 obtain⟨K,I⟩:=JP (C (s&&decide (0<(Jb Y (m-n)).length))) (B H (Jb Y (m-n)).length c') d O g J J r;exact BA (by simp[results,results81,go_sem,r0,L]) J ⟨_,_,_,J,K,I⟩
def O4(a b:TR)(k lb i j m n:Nat)(s:Bool)(w:World)(E:UN w (B a k i) m)(F:UN w (B b lb j) n)(t:m<n):
 Calls Tryz.prog 81 #[.agg #[C s,B a k i],.agg #[C (!s),B b lb j]] w λe l=>∃c v x,e=.returned (.agg #[C ((!s)&&decide (0<v)),B c v x])/\UN l (B c v x) (n-m)/\Bl w l:=by
 have N:¬(w.heap.size=w.heap.size+1+1):=O
 have hs:(s == !s)=false:=by cases s<;>rfl
 have M:Ym m n<0:=by rw[Xe t];omega
 have G:Hid (m<n):=t;clear t;have d:=Xv w (D #[C s,B a k i] 36) (D #[C (!s),B b lb j] 36) (D #[C false,B none 0 0] 36);have b0:=((Jf.new w 36 (C s) (B a k i)).alloc (D #[C (!s),B b lb j] 36)).alloc (D #[C false,B none 0 0] 36);have f:=(Jf.new (w.alloc (D #[C s,B a k i] 36)) 36 (C (!s)) (B b lb j)).alloc (D #[C false,B none 0 0] 36);have g:=Jf.new ((w.alloc (D #[C s,B a k i] 36)).alloc (D #[C (!s),B b lb j] 36)) 36 (C false) (B none 0 0);simp only[A1]at f g;go_enter func81,ntmps81
 go_wp2_with(first
  |(go_at_call 114;refine(GR _ _ m n _ ?_ ?_).mono ?_;exact E.below d;exact F.below d;rintro e w0 ⟨rfl,p⟩;have b0:=b0.below p;have f:=f.below p;have g:=g.below p;have d:=Bt d p;have y:=b0.c1;obtain⟨z,A⟩:=f.cp))
 go_region_held3 (λl=>l.cell? ⟨w.heap.size,1,none⟩=some (B a k i)/\l.cell? ⟨w.heap.size+1,1,none⟩=some (B b lb j)/\l.cell? ⟨w.heap.size+1,0,none⟩=some (C (!s))) (refine⟨?_,?_,?_⟩<;>(first|(go_keep;done)|((repeat rw[JC O]);simp[*];done)))
  (first
   |(go_at_call 115;refine(ID _ _ _ _ _ _ n m _ ?_ ?_ (Nat.le_of_lt G.o)).mono ?_;exact F.below d.drew;exact E.below d.drew;rintro e P ⟨u,rfl,r,q⟩;obtain⟨H,c',rfl⟩:=r.form;have b0:=b0.drew.below q;have f:=f.drew.below q;have g:=g.drew.below q;have d:=Bt d.drew q;have y:=b0.c1;obtain⟨z,A⟩:=f.cp)
   |(go_at_call 112;refine(GD _ _ _ _ _).mono ?_;rintro e Q ⟨rfl,o⟩;have r:=Row.below r o;have b0:=b0.below o;have f:=f.below o;have g:=g.below o;have d:=Bt d o;have y:=b0.c1;obtain⟨z,A⟩:=f.cp;obtain⟨r0,L⟩:=g.cp;obtain⟨f0,f1⟩:=g.fp))
 all_goals go_wp2_with fail
 obtain⟨K,I⟩:=JP (C ((!s)&&decide (0<(Jb Y (n-m)).length))) (B H (Jb Y (n-m)).length c') d O g J J r;exact BA (by simp[results,results81,go_sem,r0,L]) J ⟨_,_,_,J,K,I⟩
theorem Jg.of{W:World}{s:Bool}{a:TR}{l cap n:Nat}{z:Int}(h:UN W (B a l cap) n)(b:z=if s then -(n:Int)else n):Jg W (.agg #[C (s&&decide (0<l)),B a l cap]) z:=by
 have hl:=h.len;subst b;refine⟨a,l,cap,Kf ?_,?_⟩
 . grind[Hk]
 . have e:(if s then -(n:Int)else n).natAbs=n:=by cases s<;>simp
   rw[e];exact h
def IK(p q:Value)(x y:Int)(w:World)(t:Jg w p x)(v:Jg w q y)(E:(Jb Y x.natAbs).length<1099511627776)(F:(Jb Y y.natAbs).length<1099511627776):
 Calls Tryz.prog 81 #[p,q] w λe g=>∃u,e=.returned u/\Jg g u (x+y)/\Bl w g:=by
 obtain⟨a,m,k,rfl,i⟩:=t;obtain⟨b,lb,l,rfl,j⟩:=v;have z:=i.len;have A:=j.len;by_cases hs:decide (y<0)=decide (x<0)
 . rw[hs];refine(O2 a b m lb k l _ _ _ w i j O O).mono ?_;rintro e g ⟨c,o,n,rfl,f,d⟩;refine⟨_,J,Jg.of f ?_,d⟩;grind
 . have s:decide (y<0)=!decide (x<0):=by
    grind
   rw[s];by_cases r:y.natAbs<=x.natAbs
   . refine(O3 a b m lb k l _ _ _ w i j r).mono ?_;rintro e g ⟨c,o,n,rfl,f,d⟩;refine⟨_,J,Jg.of f ?_,d⟩;grind
   . refine(O4 a b m lb k l _ _ _ w i j O).mono ?_;rintro e g ⟨c,o,n,rfl,f,d⟩;refine⟨_,J,Jg.of f ?_,d⟩;grind
def XI(x y:Int):Int:=if x<y then -1 else if y<x then 1 else 0
def IL(w:World)(a b:Obj):Bl w ((w.alloc a).alloc b):=
 (Ba w _).alloc sp _
def O5(a b:TR)(g lb d f m n:Nat)(s t:Bool)(w:World)(j:UN w (B a g d) m)(k:UN w (B b lb f) n):
 Calls Tryz.prog 87 #[.agg #[C s,B a g d],.agg #[C t,B b lb f]] w λe o=>e=.returned (.int .i64 (if s=t then(if s then Ym n m else Ym m n)else(if t then 1 else -1)))/\Bl w o:=by
 have c:=IL w (D #[C s,B a g d] 36) (D #[C t,B b lb f] 36);have b0:=(Jf.new w 36 (C s) (B a g d)).alloc (D #[C t,B b lb f] 36);have l:=Jf.new (w.alloc (D #[C s,B a g d] 36)) 36 (C t) (B b lb f);simp only[A1]at l;cases s<;>cases t
 all_goals
  go_enter func87,ntmps87
  go_wp2_with(first
   |(go_at_call 114;refine(GR _ _ n m _ ?_ ?_).mono ?_;exact k.below c;exact j.below c;rintro e w0 ⟨rfl,i⟩)
   |(go_at_call 114;refine(GR _ _ m n _ ?_ ?_).mono ?_;exact j.below c;exact k.below c;rintro e w0 ⟨rfl,i⟩)
   |(go_at_call 119;refine(Hl _ _).mono ?_;rintro e w0 ⟨rfl,rfl⟩))
  go_ret;first
   |exact⟨J,Bt c i⟩
   |exact⟨J,c⟩
def XB(c d:Value)(x y:Int)(w:World)(l:Jg w c x)(m:Jg w d y):
 Calls Tryz.prog 87 #[c,d] w λe f=>e=.returned (.int .i64 (XI x y))/\Bl w f:=by
 obtain⟨a,n,g,rfl,j⟩:=l;obtain⟨b,lb,i,rfl,k⟩:=m;refine(O5 a b n lb g i _ _ _ _ w j k).mono ?_;rintro e f ⟨rfl,o⟩;grind[XI,Ym]
