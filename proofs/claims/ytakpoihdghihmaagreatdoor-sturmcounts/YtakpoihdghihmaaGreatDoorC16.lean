import Derived.Test.YtakpoihdghihmaaGreatDoorC09
import Derived.Test.YtakpoihdghihmaaGreatDoorC04
open Go.Value renaming slice->B,bool->C,agg->E
open Go.Obj renaming cells->D
set_option maxRecDepth 100000
set_option maxHeartbeats 16000000
namespace Go.Proofs.YtakpoihdghihmaaGreatDoor
open Go.RowKit Go.Shelf
theorem DJ:type_of% @decide_true:=@decide_true
theorem DE:type_of% @decide_false:=@decide_false
theorem Bb:type_of% @of_decide_eq_true:=@of_decide_eq_true
theorem Mv(a b:Value)(m n:Nat)(w:World)(c:UN w a m)(d:UN w b n):
 Calls Tryz.prog 126 #[a,b] w λe f=>e=.returned (.int .i64 (Xz m n))/\Bl w f:=by
 have h:=Ov a b _ _ w c d (Ju Jg m) (Ju Jg n) (Xb Jg m) (Xb Jg n);rw[Jq Jg,Jq Jg]at h;exact h
theorem aA(a b:Option Addr)(la lb ca cb m n:Nat)(s:Bool)(w:World)(F:UN w (B a la ca) m)(G:UN w (B b lb cb) n)(r:la<1099511627776)(t:lb<1099511627776):
 Calls Tryz.prog 83 #[E #[C s,B a la ca],E #[C s,B b lb cb]] w λe i=>∃c o p,e=.returned (E #[C (s&&decide (0<o)),B c o p])/\UN i (B c o p) (m+n)/\Bl w i:=by
 have H:¬(w.heap.size=w.heap.size+1+1):=O
 go_enter Tryz.func83,Tryz.ntmps83
 go_wp2_with fail
 have f:=XS w (D #[C s,B a la ca] 35) (D #[C s,B b lb cb] 35) (D #[C false,B none 0 0] 35);have b0:=((Jp.new w 35 (C s) (B a la ca)).alloc (D #[C s,B b lb cb] 35)).alloc (D #[C false,B none 0 0] 35);have g:=(Jp.new (w.alloc (D #[C s,B a la ca] 35)) 35 (C s) (B b lb cb)).alloc (D #[C false,B none 0 0] 35);have d:=Jp.new ((w.alloc (D #[C s,B a la ca] 35)).alloc (D #[C s,B b lb cb] 35)) 35 (C false) (B none 0 0);simp only[Ax]at g d;go_region_held3 (λi=>i.cell? ⟨w.heap.size,1,none⟩=some (B a la ca)/\i.cell? ⟨w.heap.size+1,1,none⟩=some (B b lb cb)/\i.cell? ⟨w.heap.size,0,none⟩=some (C s)) (refine⟨?_,?_,?_⟩<;>(first|(go_keep;done)|((repeat rw[JG O]);simp[*];done)))
  (first
   |(go_at_call 132;refine(Ro _ _ _ _ _ _ m n _ ?_ ?_ r t).mono ?_;exact F.below f.drew;exact G.below f.drew;rintro e I ⟨u,rfl,l,k⟩;obtain⟨a',c',rfl⟩:=l.form;have b0:=b0.drew.below k;have g:=g.drew.below k;have d:=d.drew.below k;have f:=Bt f.drew k;have y:=b0.c1;have z:=b0.c0;have A:=g.c1)
   |(go_at_call 72;refine(Mg _ _ _ _ _).mono ?_;rintro e K ⟨rfl,j⟩;have l:=Row.below l j;have b0:=b0.below j;have g:=g.below j;have d:=d.below j;have f:=Bt f j;have y:=b0.c1;have z:=b0.c0;have A:=g.c1;obtain⟨r0,r1⟩:=d.cp;obtain⟨f0,f1⟩:=d.fp))
 all_goals go_wp2_with fail
 obtain⟨x,q⟩:=Ym (C (s&&decide (0<(Je DN (m+n)).length))) (B a' (Je DN (m+n)).length c') f O d rfl rfl l;exact A0 (v:=E #[C (s&&decide (0<(Je DN (m+n)).length)),B a' (Je DN (m+n)).length c']) (by simp[results,Tryz.results83,go_sem,r0,r1]) rfl ⟨_,_,_,rfl,x,q⟩
theorem aB(a b:Option Addr)(la lb ca cb m n:Nat)(s:Bool)(w:World)(z:UN w (B a la ca) m)(A:UN w (B b lb cb) n)(p:n<=m):
 Calls Tryz.prog 83 #[E #[C s,B a la ca],E #[C (!s),B b lb cb]] w λe i=>∃c q r,e=.returned (E #[C (s&&decide (0<q)),B c q r])/\UN i (B c q r) (m-n)/\Bl w i:=by
 have L:¬(w.heap.size=w.heap.size+1+1):=O
 have K:(s == !s)=false:=by cases s<;>rfl
 have I:=Rb p;have F:Hid (n<=m):=p;clear p;have d:=XS w (D #[C s,B a la ca] 35) (D #[C (!s),B b lb cb] 35) (D #[C false,B none 0 0] 35);have b0:=((Jp.new w 35 (C s) (B a la ca)).alloc (D #[C (!s),B b lb cb] 35)).alloc (D #[C false,B none 0 0] 35);have f:=(Jp.new (w.alloc (D #[C s,B a la ca] 35)) 35 (C (!s)) (B b lb cb)).alloc (D #[C false,B none 0 0] 35);have g:=Jp.new ((w.alloc (D #[C s,B a la ca] 35)).alloc (D #[C (!s),B b lb cb] 35)) 35 (C false) (B none 0 0);simp only[Ax]at f g;go_enter Tryz.func83,Tryz.ntmps83
 go_wp2_with(first
  |(go_at_call 126;refine(Mv _ _ m n _ ?_ ?_).mono ?_;exact z.below d;exact A.below d;rintro e w0 ⟨rfl,k⟩;have b0:=b0.below k;have f:=f.below k;have g:=g.below k;have d:=Bt d k;have t:=b0.c1;have x:=b0.c0;have y:=f.c1))
 go_region_held3 (λi=>i.cell? ⟨w.heap.size,1,none⟩=some (B a la ca)/\i.cell? ⟨w.heap.size+1,1,none⟩=some (B b lb cb)/\i.cell? ⟨w.heap.size,0,none⟩=some (C s)) (refine⟨?_,?_,?_⟩<;>(first|(go_keep;done)|((repeat rw[JG O]);simp[*];done)))
  (first
   |(go_at_call 133;refine(Ou _ _ _ _ _ _ m n _ ?_ ?_ F.o).mono ?_;exact z.below d.drew;exact A.below d.drew;rintro e M ⟨u,rfl,o,l⟩;obtain⟨a',c',rfl⟩:=o.form;have b0:=b0.drew.below l;have f:=f.drew.below l;have g:=g.drew.below l;have d:=Bt d.drew l;have t:=b0.c1;have x:=b0.c0;have y:=f.c1)
   |(go_at_call 72;refine(Mg _ _ _ _ _).mono ?_;rintro e N ⟨rfl,j⟩;have o:=Row.below o j;have b0:=b0.below j;have f:=f.below j;have g:=g.below j;have d:=Bt d j;have t:=b0.c1;have x:=b0.c0;have y:=f.c1;obtain⟨r0,r1⟩:=g.cp;obtain⟨f0,f1⟩:=g.fp))
 all_goals go_wp2_with fail
 obtain⟨H,G⟩:=Ym (C (s&&decide (0<(Je DN (m-n)).length))) (B a' (Je DN (m-n)).length c') d O g rfl rfl o;exact A0 (v:=E #[C (s&&decide (0<(Je DN (m-n)).length)),B a' (Je DN (m-n)).length c']) (by simp[results,Tryz.results83,go_sem,r0,r1]) rfl ⟨_,_,_,rfl,H,G⟩
theorem aC(a b:Option Addr)(la lb ca cb m n:Nat)(s:Bool)(w:World)(z:UN w (B a la ca) m)(A:UN w (B b lb cb) n)(p:m<n):
 Calls Tryz.prog 83 #[E #[C s,B a la ca],E #[C (!s),B b lb cb]] w λe i=>∃c q r,e=.returned (E #[C ((!s)&&decide (0<q)),B c q r])/\UN i (B c q r) (n-m)/\Bl w i:=by
 have L:¬(w.heap.size=w.heap.size+1+1):=O
 have K:(s == !s)=false:=by cases s<;>rfl
 have I:Xz m n<0:=by rw[Hr p];omega
 have F:Hid (m<n):=p;clear p;have d:=XS w (D #[C s,B a la ca] 35) (D #[C (!s),B b lb cb] 35) (D #[C false,B none 0 0] 35);have b0:=((Jp.new w 35 (C s) (B a la ca)).alloc (D #[C (!s),B b lb cb] 35)).alloc (D #[C false,B none 0 0] 35);have f:=(Jp.new (w.alloc (D #[C s,B a la ca] 35)) 35 (C (!s)) (B b lb cb)).alloc (D #[C false,B none 0 0] 35);have g:=Jp.new ((w.alloc (D #[C s,B a la ca] 35)).alloc (D #[C (!s),B b lb cb] 35)) 35 (C false) (B none 0 0);simp only[Ax]at f g;go_enter Tryz.func83,Tryz.ntmps83
 go_wp2_with(first
  |(go_at_call 126;refine(Mv _ _ m n _ ?_ ?_).mono ?_;exact z.below d;exact A.below d;rintro e w0 ⟨rfl,k⟩;have b0:=b0.below k;have f:=f.below k;have g:=g.below k;have d:=Bt d k;have t:=b0.c1;obtain⟨x,y⟩:=f.cp))
 go_region_held3 (λi=>i.cell? ⟨w.heap.size,1,none⟩=some (B a la ca)/\i.cell? ⟨w.heap.size+1,1,none⟩=some (B b lb cb)/\i.cell? ⟨w.heap.size+1,0,none⟩=some (C (!s))) (refine⟨?_,?_,?_⟩<;>(first|(go_keep;done)|((repeat rw[JG O]);simp[*];done)))
  (first
   |(go_at_call 133;refine(Ou _ _ _ _ _ _ n m _ ?_ ?_ (F6 F.o)).mono ?_;exact A.below d.drew;exact z.below d.drew;rintro e M ⟨u,rfl,o,l⟩;obtain⟨a',c',rfl⟩:=o.form;have b0:=b0.drew.below l;have f:=f.drew.below l;have g:=g.drew.below l;have d:=Bt d.drew l;have t:=b0.c1;obtain⟨x,y⟩:=f.cp)
   |(go_at_call 72;refine(Mg _ _ _ _ _).mono ?_;rintro e N ⟨rfl,j⟩;have o:=Row.below o j;have b0:=b0.below j;have f:=f.below j;have g:=g.below j;have d:=Bt d j;have t:=b0.c1;obtain⟨x,y⟩:=f.cp;obtain⟨r0,r1⟩:=g.cp;obtain⟨f0,f1⟩:=g.fp))
 all_goals go_wp2_with fail
 obtain⟨H,G⟩:=Ym (C ((!s)&&decide (0<(Je DN (n-m)).length))) (B a' (Je DN (n-m)).length c') d O g rfl rfl o;exact A0 (v:=E #[C ((!s)&&decide (0<(Je DN (n-m)).length)),B a' (Je DN (n-m)).length c']) (by simp[results,Tryz.results83,go_sem,r0,r1]) rfl ⟨_,_,_,rfl,H,G⟩
theorem Jm.of{W:World}{s:Bool}{a:Option Addr}{l cap n:Nat}{z:Int}(h:UN W (B a l cap) n)(b:z=if s then -(n:Int)else n):Jm W (E #[C (s&&decide (0<l)),B a l cap]) z:=by
 have hl:=h.len;subst b;refine⟨a,l,cap,Re ?_,?_⟩
 . rw[hl,CE];simp only[AU,BQ];rw[Rc];cases s
   . simp
   . simp;omega
 . have e:(if s then -(n:Int)else n).natAbs=n:=by cases s<;>simp
   rw[e];exact h
theorem O0(q r:Value)(x y:Int)(w:World)(t:Jm w q x)(v:Jm w r y)(F:(Je DN x.natAbs).length<1099511627776)(G:(Je DN y.natAbs).length<1099511627776):
 Calls Tryz.prog 83 #[q,r] w λe k=>∃u,e=.returned u/\Jm k u (x+y)/\Bl w k:=by
 obtain⟨a,la,ca,rfl,m⟩:=t;obtain⟨b,lb,cb,rfl,n⟩:=v;have z:=m.len;have A:=n.len;by_cases l:decide (y<0)=decide (x<0)
 . rw[l];refine(aA a b la lb ca cb _ _ _ w m n O O).mono ?_;rintro e k ⟨c,p,o,rfl,j,i⟩;refine⟨_,rfl,Jm.of j ?_,i⟩;by_cases d:x<0
   . have g:y<0:=by have:=BJ d;rw[<-l]at this;exact Bb this
     simp only[d,DJ,if_true];omega
   . have g:¬y<0:=by have:=BF d;rw[<-l]at this;exact of_decide_eq_false this
     simp only[d,DE,Cx,if_false];omega
 . have f:decide (y<0)=!decide (x<0):=by
    revert l;cases decide (y<0)<;>cases decide (x<0)<;>simp
   rw[f];by_cases s:y.natAbs<=x.natAbs
   . refine(aB a b la lb ca cb _ _ _ w m n s).mono ?_;rintro e k ⟨c,p,o,rfl,j,i⟩;refine⟨_,rfl,Jm.of j ?_,i⟩;by_cases d:x<0
     . have g:¬y<0:=by rw[BJ d]at f;exact of_decide_eq_false f
       simp only[d,DJ,if_true];omega
     . have g:y<0:=by rw[BF d]at f;exact Bb f
       simp only[d,DE,Cx,if_false];omega
   . refine(aC a b la lb ca cb _ _ _ w m n O).mono ?_;rintro e k ⟨c,p,o,rfl,j,i⟩;refine⟨_,rfl,Jm.of j ?_,i⟩;by_cases d:x<0
     . have g:¬y<0:=by rw[BJ d]at f;exact of_decide_eq_false f
       simp only[d,DJ,Bool.not_true,Cx,if_false];omega
     . have g:y<0:=by rw[BF d]at f;exact Bb f
       simp only[d,DE,Bool.not_false,if_true];omega
def XT(x y:Int):Int:=if x<y then -1 else if y<x then 1 else 0
theorem O1(w:World)(a b:Obj):Bl w ((w.alloc a).alloc b):=
 (Ba w _).alloc Z _
theorem aD(a b:Option Addr)(la lb ca cb m n:Nat)(s t:Bool)(w:World)(f:UN w (B a la ca) m)(g:UN w (B b lb cb) n):
 Calls Tryz.prog 64 #[E #[C s,B a la ca],E #[C t,B b lb cb]] w λe j=>e=.returned (.int .i64 (if s=t then(if s then Xz n m else Xz m n)else(if t then 1 else -1)))/\Bl w j:=by
 have c:=O1 w (D #[C s,B a la ca] 35) (D #[C t,B b lb cb] 35);have b0:=(Jp.new w 35 (C s) (B a la ca)).alloc (D #[C t,B b lb cb] 35);have i:=Jp.new (w.alloc (D #[C s,B a la ca] 35)) 35 (C t) (B b lb cb);simp only[Ax]at i;cases s<;>cases t
 all_goals
  go_enter Tryz.func64,Tryz.ntmps64
  go_wp2_with(first
   |(go_at_call 126;refine(Mv _ _ n m _ ?_ ?_).mono ?_;exact g.below c;exact f.below c;rintro e w0 ⟨rfl,d⟩)
   |(go_at_call 126;refine(Mv _ _ m n _ ?_ ?_).mono ?_;exact f.below c;exact g.below c;rintro e w0 ⟨rfl,d⟩)
   |(go_at_call 125;refine(Oh _ _).mono ?_;rintro e w0 ⟨rfl,rfl⟩))
  go_ret;first
   |exact⟨rfl,Bt c d⟩
   |exact⟨rfl,c⟩
theorem KR(c d:Value)(x y:Int)(w:World)(m:Jm w c x)(n:Jm w d y):
 Calls Tryz.prog 64 #[c,d] w λe f=>e=.returned (.int .i64 (XT x y))/\Bl w f:=by
 obtain⟨a,la,ca,rfl,k⟩:=m;obtain⟨b,lb,cb,rfl,l⟩:=n;refine(aD a b la lb ca cb _ _ _ _ w k l).mono ?_;rintro e f ⟨rfl,j⟩;refine⟨?_,j⟩;congr 2;unfold XT Xz;by_cases g:x<0<;>by_cases i:y<0<;>simp only[g,i,DJ,DE,if_true,if_false,Cx,reduceCtorEq]
 all_goals(repeat' split)<;>omega
