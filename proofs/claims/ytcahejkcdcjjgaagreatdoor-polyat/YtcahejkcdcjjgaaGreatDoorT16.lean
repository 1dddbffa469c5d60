import Derived.Test.YtcahejkcdcjjgaaGreatDoorT09
import Derived.Test.YtcahejkcdcjjgaaGreatDoorT04
open Go.Value renaming slice->B,bool->C,agg->E
open Go.Obj renaming cells->D
set_option maxRecDepth 100000
set_option maxHeartbeats 16000000
namespace Go.Proofs.YtcahejkcdcjjgaaGreatDoor
open Go.RowKit Go.Shelf
theorem DE:type_of% @decide_true:=@decide_true
theorem B3:type_of% @decide_false:=@decide_false
theorem B0:type_of% @of_decide_eq_false:=@of_decide_eq_false
theorem Bg:type_of% @of_decide_eq_true:=@of_decide_eq_true
theorem Ka(a b:Value)(m n:Nat)(w:World)(d:UN w a m)(f:UN w b n):
 Calls Tryz.prog 114 #[a,b] w λe c=>e=.returned (.int .i64 (YT m n))/\Bl w c:=by
 have h:=Lq a b _ _ w d f (Jo Je m) (Jo Je n) (Yf Je m) (Yf Je n);rw[Jm Je,Jm Je]at h;exact h
theorem Sa(a b:Option Addr)(f lb i g m n:Nat)(s:Bool)(w:World)(L:UN w (B a f i) m)(A:UN w (B b lb g) n)(y:f<1099511627776)(J:lb<1099511627776):
 Calls Tryz.prog 81 #[E #[C s,B a f i],E #[C s,B b lb g]] w λe l=>∃c r x,e=.returned (E #[C (s&&decide (0<r)),B c r x])/\UN l (B c r x) (m+n)/\Bl w l:=by
 have N:¬(w.heap.size=w.heap.size+1+1):=om
 go_enter Tryz.func81,Tryz.ntmps81
 go_wp2_with fail
 have k:=Y6 w (D #[C s,B a f i] 36) (D #[C s,B b lb g] 36) (D #[C false,B none 0 0] 36);have b0:=((Jj.new w 36 (C s) (B a f i)).alloc (D #[C s,B b lb g] 36)).alloc (D #[C false,B none 0 0] 36);have j:=(Jj.new (w.alloc (D #[C s,B a f i] 36)) 36 (C s) (B b lb g)).alloc (D #[C false,B none 0 0] 36);have d:=Jj.new ((w.alloc (D #[C s,B a f i] 36)).alloc (D #[C s,B b lb g] 36)) 36 (C false) (B none 0 0);simp only[A1]at j d;go_region_held3 (λl=>l.cell? ⟨w.heap.size,1,none⟩=some (B a f i)/\l.cell? ⟨w.heap.size+1,1,none⟩=some (B b lb g)/\l.cell? ⟨w.heap.size,0,none⟩=some (C s)) (refine⟨?_,?_,?_⟩<;>(first|(go_keep;done)|((repeat rw[JH om]);simp[*];done)))
  (first
   |(go_at_call 113;refine(Nm _ _ _ _ _ _ m n _ ?_ ?_ y J).mono ?_;exact L.below k.drew;exact A.below k.drew;rintro e O ⟨u,rfl,p,q⟩;obtain⟨t,c',rfl⟩:=p.form;have b0:=b0.drew.below q;have j:=j.drew.below q;have d:=d.drew.below q;have k:=Bt k.drew q;have K:=b0.c1;have G:=b0.c0;have F:=j.c1)
   |(go_at_call 112;refine(KM _ _ _ _ _).mono ?_;rintro e M ⟨rfl,o⟩;have p:=Row.below p o;have b0:=b0.below o;have j:=j.below o;have d:=d.below o;have k:=Bt k o;have K:=b0.c1;have G:=b0.c0;have F:=j.c1;obtain⟨r0,I⟩:=d.cp;obtain⟨f0,f1⟩:=d.fp))
 all_goals go_wp2_with fail
 obtain⟨H,z⟩:=J5 (C (s&&decide (0<(Jc DN (m+n)).length))) (B t (Jc DN (m+n)).length c') k om d rfl rfl p;exact BA (v:=E #[C (s&&decide (0<(Jc DN (m+n)).length)),B t (Jc DN (m+n)).length c']) (by simp[results,Tryz.results81,go_sem,r0,I]) rfl ⟨_,_,_,rfl,H,z⟩
theorem Sb(a b:Option Addr)(k lb j i m n:Nat)(s:Bool)(w:World)(H:UN w (B a k j) m)(z:UN w (B b lb i) n)(t:n<=m):
 Calls Tryz.prog 81 #[E #[C s,B a k j],E #[C (!s),B b lb i]] w λe l=>∃c x I,e=.returned (E #[C (s&&decide (0<x)),B c x I])/\UN l (B c x I) (m-n)/\Bl w l:=by
 have P:¬(w.heap.size=w.heap.size+1+1):=om
 have hs:(s == !s)=false:=by cases s<;>rfl
 have N:=NU t;have K:Hid (n<=m):=t;clear t;have d:=Y6 w (D #[C s,B a k j] 36) (D #[C (!s),B b lb i] 36) (D #[C false,B none 0 0] 36);have b0:=((Jj.new w 36 (C s) (B a k j)).alloc (D #[C (!s),B b lb i] 36)).alloc (D #[C false,B none 0 0] 36);have g:=(Jj.new (w.alloc (D #[C s,B a k j] 36)) 36 (C (!s)) (B b lb i)).alloc (D #[C false,B none 0 0] 36);have f:=Jj.new ((w.alloc (D #[C s,B a k j] 36)).alloc (D #[C (!s),B b lb i] 36)) 36 (C false) (B none 0 0);simp only[A1]at g f;go_enter Tryz.func81,Tryz.ntmps81
 go_wp2_with(first
  |(go_at_call 114;refine(Ka _ _ m n _ ?_ ?_).mono ?_;exact H.below d;exact z.below d;rintro e w0 ⟨rfl,p⟩;have b0:=b0.below p;have g:=g.below p;have f:=f.below p;have d:=Bt d p;have G:=b0.c1;have A:=b0.c0;have F:=g.c1))
 go_region_held3 (λl=>l.cell? ⟨w.heap.size,1,none⟩=some (B a k j)/\l.cell? ⟨w.heap.size+1,1,none⟩=some (B b lb i)/\l.cell? ⟨w.heap.size,0,none⟩=some (C s)) (refine⟨?_,?_,?_⟩<;>(first|(go_keep;done)|((repeat rw[JH om]);simp[*];done)))
  (first
   |(go_at_call 115;refine(Lp _ _ _ _ _ _ m n _ ?_ ?_ K.o).mono ?_;exact H.below d.drew;exact z.below d.drew;rintro e Q ⟨u,rfl,q,r⟩;obtain⟨y,c',rfl⟩:=q.form;have b0:=b0.drew.below r;have g:=g.drew.below r;have f:=f.drew.below r;have d:=Bt d.drew r;have G:=b0.c1;have A:=b0.c0;have F:=g.c1)
   |(go_at_call 112;refine(KM _ _ _ _ _).mono ?_;rintro e O ⟨rfl,o⟩;have q:=Row.below q o;have b0:=b0.below o;have g:=g.below o;have f:=f.below o;have d:=Bt d o;have G:=b0.c1;have A:=b0.c0;have F:=g.c1;obtain⟨r0,M⟩:=f.cp;obtain⟨f0,f1⟩:=f.fp))
 all_goals go_wp2_with fail
 obtain⟨L,J⟩:=J5 (C (s&&decide (0<(Jc DN (m-n)).length))) (B y (Jc DN (m-n)).length c') d om f rfl rfl q;exact BA (v:=E #[C (s&&decide (0<(Jc DN (m-n)).length)),B y (Jc DN (m-n)).length c']) (by simp[results,Tryz.results81,go_sem,r0,M]) rfl ⟨_,_,_,rfl,L,J⟩
theorem Sc(a b:Option Addr)(k lb j i m n:Nat)(s:Bool)(w:World)(H:UN w (B a k j) m)(z:UN w (B b lb i) n)(t:m<n):
 Calls Tryz.prog 81 #[E #[C s,B a k j],E #[C (!s),B b lb i]] w λe l=>∃c x I,e=.returned (E #[C ((!s)&&decide (0<x)),B c x I])/\UN l (B c x I) (n-m)/\Bl w l:=by
 have P:¬(w.heap.size=w.heap.size+1+1):=om
 have hs:(s == !s)=false:=by cases s<;>rfl
 have N:YT m n<0:=by rw[Xu t];omega
 have K:Hid (m<n):=t;clear t;have d:=Y6 w (D #[C s,B a k j] 36) (D #[C (!s),B b lb i] 36) (D #[C false,B none 0 0] 36);have b0:=((Jj.new w 36 (C s) (B a k j)).alloc (D #[C (!s),B b lb i] 36)).alloc (D #[C false,B none 0 0] 36);have g:=(Jj.new (w.alloc (D #[C s,B a k j] 36)) 36 (C (!s)) (B b lb i)).alloc (D #[C false,B none 0 0] 36);have f:=Jj.new ((w.alloc (D #[C s,B a k j] 36)).alloc (D #[C (!s),B b lb i] 36)) 36 (C false) (B none 0 0);simp only[A1]at g f;go_enter Tryz.func81,Tryz.ntmps81
 go_wp2_with(first
  |(go_at_call 114;refine(Ka _ _ m n _ ?_ ?_).mono ?_;exact H.below d;exact z.below d;rintro e w0 ⟨rfl,p⟩;have b0:=b0.below p;have g:=g.below p;have f:=f.below p;have d:=Bt d p;have G:=b0.c1;obtain⟨F,A⟩:=g.cp))
 go_region_held3 (λl=>l.cell? ⟨w.heap.size,1,none⟩=some (B a k j)/\l.cell? ⟨w.heap.size+1,1,none⟩=some (B b lb i)/\l.cell? ⟨w.heap.size+1,0,none⟩=some (C (!s))) (refine⟨?_,?_,?_⟩<;>(first|(go_keep;done)|((repeat rw[JH om]);simp[*];done)))
  (first
   |(go_at_call 115;refine(Lp _ _ _ _ _ _ n m _ ?_ ?_ (Fw K.o)).mono ?_;exact z.below d.drew;exact H.below d.drew;rintro e Q ⟨u,rfl,q,r⟩;obtain⟨y,c',rfl⟩:=q.form;have b0:=b0.drew.below r;have g:=g.drew.below r;have f:=f.drew.below r;have d:=Bt d.drew r;have G:=b0.c1;obtain⟨F,A⟩:=g.cp)
   |(go_at_call 112;refine(KM _ _ _ _ _).mono ?_;rintro e O ⟨rfl,o⟩;have q:=Row.below q o;have b0:=b0.below o;have g:=g.below o;have f:=f.below o;have d:=Bt d o;have G:=b0.c1;obtain⟨F,A⟩:=g.cp;obtain⟨r0,M⟩:=f.cp;obtain⟨f0,f1⟩:=f.fp))
 all_goals go_wp2_with fail
 obtain⟨L,J⟩:=J5 (C ((!s)&&decide (0<(Jc DN (n-m)).length))) (B y (Jc DN (n-m)).length c') d om f rfl rfl q;exact BA (v:=E #[C ((!s)&&decide (0<(Jc DN (n-m)).length)),B y (Jc DN (n-m)).length c']) (by simp[results,Tryz.results81,go_sem,r0,M]) rfl ⟨_,_,_,rfl,L,J⟩
theorem Jk.of{W:World}{s:Bool}{a:Option Addr}{l cap n:Nat}{z:Int}(h:UN W (B a l cap) n)(b:z=if s then -(n:Int)else n):Jk W (E #[C (s&&decide (0<l)),B a l cap]) z:=by
 have hl:=h.len;subst b;refine⟨a,l,cap,NZ ?_,?_⟩
 . rw[hl,Cn];simp only[AA,BQ];rw[LZ];cases s
   . simp
   . simp;omega
 . have e:(if s then -(n:Int)else n).natAbs=n:=by cases s<;>simp
   rw[e];exact h
theorem Lw(r q:Value)(x y:Int)(w:World)(z:Jk w r x)(A:Jk w q y)(I:(Jc DN x.natAbs).length<1099511627776)(G:(Jc DN y.natAbs).length<1099511627776):
 Calls Tryz.prog 81 #[r,q] w λe j=>∃u,e=.returned u/\Jk j u (x+y)/\Bl w j:=by
 obtain⟨a,p,o,rfl,l⟩:=z;obtain⟨b,lb,n,rfl,m⟩:=A;have H:=l.len;have F:=m.len;by_cases hs:decide (y<0)=decide (x<0)
 . rw[hs];refine(Sa a b p lb o n _ _ _ w l m om om).mono ?_;rintro e j ⟨c,s,t,rfl,i,g⟩;refine⟨_,rfl,Jk.of i ?_,g⟩;by_cases d:x<0
   . have k:y<0:=by have:=BJ d;rw[<-hs]at this;exact Bg this
     simp only[d,DE,if_true];omega
   . have k:¬y<0:=by have:=BF d;rw[<-hs]at this;exact B0 this
     simp only[d,B3,Ca,if_false];omega
 . have f:decide (y<0)=!decide (x<0):=by
    revert hs;cases decide (y<0)<;>cases decide (x<0)<;>simp
   rw[f];by_cases v:y.natAbs<=x.natAbs
   . refine(Sb a b p lb o n _ _ _ w l m v).mono ?_;rintro e j ⟨c,s,t,rfl,i,g⟩;refine⟨_,rfl,Jk.of i ?_,g⟩;by_cases d:x<0
     . have k:¬y<0:=by rw[BJ d]at f;exact B0 f
       simp only[d,DE,if_true];omega
     . have k:y<0:=by rw[BF d]at f;exact Bg f
       simp only[d,B3,Ca,if_false];omega
   . refine(Sc a b p lb o n _ _ _ w l m om).mono ?_;rintro e j ⟨c,s,t,rfl,i,g⟩;refine⟨_,rfl,Jk.of i ?_,g⟩;by_cases d:x<0
     . have k:¬y<0:=by rw[BJ d]at f;exact B0 f
       simp only[d,DE,Bool.not_true,Ca,if_false];omega
     . have k:y<0:=by rw[BF d]at f;exact Bg f
       simp only[d,B3,Bool.not_false,if_true];omega
def EJ(x y:Int):Int:=if x<y then -1 else if y<x then 1 else 0
theorem Lx(w:World)(b a:Obj):Bl w ((w.alloc b).alloc a):=
 (Ba w _).alloc DO _
theorem Sd(a b:Option Addr)(g lb d f m n:Nat)(s t:Bool)(w:World)(k:UN w (B a g d) m)(j:UN w (B b lb f) n):
 Calls Tryz.prog 87 #[E #[C s,B a g d],E #[C t,B b lb f]] w λe o=>e=.returned (.int .i64 (if s=t then(if s then YT n m else YT m n)else(if t then 1 else -1)))/\Bl w o:=by
 have c:=Lx w (D #[C s,B a g d] 36) (D #[C t,B b lb f] 36);have b0:=(Jj.new w 36 (C s) (B a g d)).alloc (D #[C t,B b lb f] 36);have l:=Jj.new (w.alloc (D #[C s,B a g d] 36)) 36 (C t) (B b lb f);simp only[A1]at l;cases s<;>cases t
 all_goals
  go_enter Tryz.func87,Tryz.ntmps87
  go_wp2_with(first
   |(go_at_call 114;refine(Ka _ _ n m _ ?_ ?_).mono ?_;exact j.below c;exact k.below c;rintro e w0 ⟨rfl,i⟩)
   |(go_at_call 114;refine(Ka _ _ m n _ ?_ ?_).mono ?_;exact k.below c;exact j.below c;rintro e w0 ⟨rfl,i⟩)
   |(go_at_call 119;refine(La _ _).mono ?_;rintro e w0 ⟨rfl,rfl⟩))
  go_ret;first
   |exact⟨rfl,Bt c i⟩
   |exact⟨rfl,c⟩
theorem Gd(c d:Value)(x y:Int)(w:World)(o:Jk w c x)(p:Jk w d y):
 Calls Tryz.prog 87 #[c,d] w λe f=>e=.returned (.int .i64 (EJ x y))/\Bl w f:=by
 obtain⟨a,k,g,rfl,j⟩:=o;obtain⟨b,lb,i,rfl,l⟩:=p;refine(Sd a b k lb g i _ _ _ _ w j l).mono ?_;rintro e f ⟨rfl,n⟩;refine⟨?_,n⟩;congr 2;unfold EJ YT;by_cases m:x<0<;>by_cases q:y<0<;>simp only[m,q,DE,B3,if_true,if_false,Ca,reduceCtorEq]
 all_goals(repeat' split)<;>omega
