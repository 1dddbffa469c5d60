import Derived.Test.YteldjhhjnchdeaaGreatDoorT09
import Derived.Test.YteldjhhjnchdeaaGreatDoorT04
open Go.Value renaming slice->B,bool->C,agg->E
open Go.Obj renaming cells->D
set_option maxRecDepth 100000
set_option maxHeartbeats 16000000
namespace Go.Proofs.YteldjhhjnchdeaaGreatDoor
open Go.RowKit Go.Shelf
theorem DI:type_of% @decide_true:=@decide_true
theorem DA:type_of% @decide_false:=@decide_false
theorem B7:type_of% @of_decide_eq_false:=@of_decide_eq_false
theorem Bf:type_of% @of_decide_eq_true:=@of_decide_eq_true
theorem L2(a b:Value)(m n:Nat)(w:World)(c:UN w a m)(f:UN w b n):
 Calls Tryz.prog 132 #[a,b] w λe d=>e=.returned (.int .i64 (Y9 m n))/\Bl w d:=by
 have h:=Np a b _ _ w c f (Jp Jf m) (Jp Jf n) (Yk Jf m) (Yk Jf n);rw[Jo Jf,Jo Jf]at h;exact h
theorem Vo(a b:Option Addr)(la lb ca cb m n:Nat)(s:Bool)(w:World)(z:UN w (B a la ca) m)(H:UN w (B b lb cb) n)(t:la<1099511627776)(G:lb<1099511627776):
 Calls Tryz.prog 121 #[E #[C s,B a la ca],E #[C s,B b lb cb]] w λe i=>∃c o p,e=.returned (E #[C (s&&decide (0<o)),B c o p])/\UN i (B c o p) (m+n)/\Bl w i:=by
 have I:¬(w.heap.size=w.heap.size+1+1):=om
 go_enter Tryz.func121,Tryz.ntmps121
 go_wp2_with fail
 have f:=Xn w (D #[C s,B a la ca] 63) (D #[C s,B b lb cb] 63) (D #[C false,B none 0 0] 63);have b0:=((Jn.new w 63 (C s) (B a la ca)).alloc (D #[C s,B b lb cb] 63)).alloc (D #[C false,B none 0 0] 63);have g:=(Jn.new (w.alloc (D #[C s,B a la ca] 63)) 63 (C s) (B b lb cb)).alloc (D #[C false,B none 0 0] 63);have d:=Jn.new ((w.alloc (D #[C s,B a la ca] 63)).alloc (D #[C s,B b lb cb] 63)) 63 (C false) (B none 0 0);simp only[A1]at g d;go_region_held3 (λi=>i.cell? ⟨w.heap.size,1,none⟩=some (B a la ca)/\i.cell? ⟨w.heap.size+1,1,none⟩=some (B b lb cb)/\i.cell? ⟨w.heap.size,0,none⟩=some (C s)) (refine⟨?_,?_,?_⟩<;>(first|(go_keep;done)|((repeat rw[JH om]);simp[*];done)))
  (first
   |(go_at_call 142;refine(Ph _ _ _ _ _ _ m n _ ?_ ?_ t G).mono ?_;exact z.below f.drew;exact H.below f.drew;rintro e K ⟨u,rfl,l,k⟩;obtain⟨a',c',rfl⟩:=l.form;have b0:=b0.drew.below k;have g:=g.drew.below k;have d:=d.drew.below k;have f:=Bt f.drew k;have x:=b0.c1;have r:=b0.c0;have q:=g.c1)
   |(go_at_call 119;refine(Lj _ _ _ _ _).mono ?_;rintro e J ⟨rfl,j⟩;have l:=Row.below l j;have b0:=b0.below j;have g:=g.below j;have d:=d.below j;have f:=Bt f j;have x:=b0.c1;have r:=b0.c0;have q:=g.c1;obtain⟨r0,y⟩:=d.cp;obtain⟨f0,f1⟩:=d.fp))
 all_goals go_wp2_with fail
 obtain⟨F,A⟩:=YO (C (s&&decide (0<(Jc DR (m+n)).length))) (B a' (Jc DR (m+n)).length c') f om d rfl rfl l;exact BA (v:=E #[C (s&&decide (0<(Jc DR (m+n)).length)),B a' (Jc DR (m+n)).length c']) (by simp[results,Tryz.results121,go_sem,r0,y]) rfl ⟨_,_,_,rfl,F,A⟩
theorem Vp(a b:Option Addr)(la lb ca cb m n:Nat)(s:Bool)(w:World)(z:UN w (B a la ca) m)(A:UN w (B b lb cb) n)(q:n<=m):
 Calls Tryz.prog 121 #[E #[C s,B a la ca],E #[C (!s),B b lb cb]] w λe i=>∃c p y,e=.returned (E #[C (s&&decide (0<p)),B c p y])/\UN i (B c p y) (m-n)/\Bl w i:=by
 have J:¬(w.heap.size=w.heap.size+1+1):=om
 have hs:(s == !s)=false:=by cases s<;>rfl
 have K:=PO q;have I:Hid (n<=m):=q;clear q;have d:=Xn w (D #[C s,B a la ca] 63) (D #[C (!s),B b lb cb] 63) (D #[C false,B none 0 0] 63);have b0:=((Jn.new w 63 (C s) (B a la ca)).alloc (D #[C (!s),B b lb cb] 63)).alloc (D #[C false,B none 0 0] 63);have g:=(Jn.new (w.alloc (D #[C s,B a la ca] 63)) 63 (C (!s)) (B b lb cb)).alloc (D #[C false,B none 0 0] 63);have f:=Jn.new ((w.alloc (D #[C s,B a la ca] 63)).alloc (D #[C (!s),B b lb cb] 63)) 63 (C false) (B none 0 0);simp only[A1]at g f;go_enter Tryz.func121,Tryz.ntmps121
 go_wp2_with(first
  |(go_at_call 132;refine(L2 _ _ m n _ ?_ ?_).mono ?_;exact z.below d;exact A.below d;rintro e w0 ⟨rfl,l⟩;have b0:=b0.below l;have g:=g.below l;have f:=f.below l;have d:=Bt d l;have x:=b0.c1;have t:=b0.c0;have r:=g.c1))
 go_region_held3 (λi=>i.cell? ⟨w.heap.size,1,none⟩=some (B a la ca)/\i.cell? ⟨w.heap.size+1,1,none⟩=some (B b lb cb)/\i.cell? ⟨w.heap.size,0,none⟩=some (C s)) (refine⟨?_,?_,?_⟩<;>(first|(go_keep;done)|((repeat rw[JH om]);simp[*];done)))
  (first
   |(go_at_call 143;refine(Nn _ _ _ _ _ _ m n _ ?_ ?_ I.o).mono ?_;exact z.below d.drew;exact A.below d.drew;rintro e M ⟨u,rfl,o,k⟩;obtain⟨a',c',rfl⟩:=o.form;have b0:=b0.drew.below k;have g:=g.drew.below k;have f:=f.drew.below k;have d:=Bt d.drew k;have x:=b0.c1;have t:=b0.c0;have r:=g.c1)
   |(go_at_call 119;refine(Lj _ _ _ _ _).mono ?_;rintro e L ⟨rfl,j⟩;have o:=Row.below o j;have b0:=b0.below j;have g:=g.below j;have f:=f.below j;have d:=Bt d j;have x:=b0.c1;have t:=b0.c0;have r:=g.c1;obtain⟨r0,F⟩:=f.cp;obtain⟨f0,f1⟩:=f.fp))
 all_goals go_wp2_with fail
 obtain⟨H,G⟩:=YO (C (s&&decide (0<(Jc DR (m-n)).length))) (B a' (Jc DR (m-n)).length c') d om f rfl rfl o;exact BA (v:=E #[C (s&&decide (0<(Jc DR (m-n)).length)),B a' (Jc DR (m-n)).length c']) (by simp[results,Tryz.results121,go_sem,r0,F]) rfl ⟨_,_,_,rfl,H,G⟩
theorem Vq(a b:Option Addr)(la lb ca cb m n:Nat)(s:Bool)(w:World)(z:UN w (B a la ca) m)(A:UN w (B b lb cb) n)(q:m<n):
 Calls Tryz.prog 121 #[E #[C s,B a la ca],E #[C (!s),B b lb cb]] w λe i=>∃c p y,e=.returned (E #[C ((!s)&&decide (0<p)),B c p y])/\UN i (B c p y) (n-m)/\Bl w i:=by
 have J:¬(w.heap.size=w.heap.size+1+1):=om
 have hs:(s == !s)=false:=by cases s<;>rfl
 have K:Y9 m n<0:=by rw[XT q];omega
 have I:Hid (m<n):=q;clear q;have d:=Xn w (D #[C s,B a la ca] 63) (D #[C (!s),B b lb cb] 63) (D #[C false,B none 0 0] 63);have b0:=((Jn.new w 63 (C s) (B a la ca)).alloc (D #[C (!s),B b lb cb] 63)).alloc (D #[C false,B none 0 0] 63);have g:=(Jn.new (w.alloc (D #[C s,B a la ca] 63)) 63 (C (!s)) (B b lb cb)).alloc (D #[C false,B none 0 0] 63);have f:=Jn.new ((w.alloc (D #[C s,B a la ca] 63)).alloc (D #[C (!s),B b lb cb] 63)) 63 (C false) (B none 0 0);simp only[A1]at g f;go_enter Tryz.func121,Tryz.ntmps121
 go_wp2_with(first
  |(go_at_call 132;refine(L2 _ _ m n _ ?_ ?_).mono ?_;exact z.below d;exact A.below d;rintro e w0 ⟨rfl,l⟩;have b0:=b0.below l;have g:=g.below l;have f:=f.below l;have d:=Bt d l;have x:=b0.c1;obtain⟨t,r⟩:=g.cp))
 go_region_held3 (λi=>i.cell? ⟨w.heap.size,1,none⟩=some (B a la ca)/\i.cell? ⟨w.heap.size+1,1,none⟩=some (B b lb cb)/\i.cell? ⟨w.heap.size+1,0,none⟩=some (C (!s))) (refine⟨?_,?_,?_⟩<;>(first|(go_keep;done)|((repeat rw[JH om]);simp[*];done)))
  (first
   |(go_at_call 143;refine(Nn _ _ _ _ _ _ n m _ ?_ ?_ (FT I.o)).mono ?_;exact A.below d.drew;exact z.below d.drew;rintro e M ⟨u,rfl,o,k⟩;obtain⟨a',c',rfl⟩:=o.form;have b0:=b0.drew.below k;have g:=g.drew.below k;have f:=f.drew.below k;have d:=Bt d.drew k;have x:=b0.c1;obtain⟨t,r⟩:=g.cp)
   |(go_at_call 119;refine(Lj _ _ _ _ _).mono ?_;rintro e L ⟨rfl,j⟩;have o:=Row.below o j;have b0:=b0.below j;have g:=g.below j;have f:=f.below j;have d:=Bt d j;have x:=b0.c1;obtain⟨t,r⟩:=g.cp;obtain⟨r0,F⟩:=f.cp;obtain⟨f0,f1⟩:=f.fp))
 all_goals go_wp2_with fail
 obtain⟨H,G⟩:=YO (C ((!s)&&decide (0<(Jc DR (n-m)).length))) (B a' (Jc DR (n-m)).length c') d om f rfl rfl o;exact BA (v:=E #[C ((!s)&&decide (0<(Jc DR (n-m)).length)),B a' (Jc DR (n-m)).length c']) (by simp[results,Tryz.results121,go_sem,r0,F]) rfl ⟨_,_,_,rfl,H,G⟩
theorem Jl.of{W:World}{s:Bool}{a:Option Addr}{l cap n:Nat}{z:Int}(h:UN W (B a l cap) n)(b:z=if s then -(n:Int)else n):Jl W (E #[C (s&&decide (0<l)),B a l cap]) z:=by
 have hl:=h.len;subst b;refine⟨a,l,cap,PS ?_,?_⟩
 . rw[hl,Cp];simp only[AM,BR];rw[NU];cases s
   . simp
   . simp;omega
 . have e:(if s then -(n:Int)else n).natAbs=n:=by cases s<;>simp
   rw[e];exact h
theorem Nv(q n:Value)(x y:Int)(w:World)(t:Jl w q x)(r:Jl w n y)(z:(Jc DR x.natAbs).length<1099511627776)(F:(Jc DR y.natAbs).length<1099511627776):
 Calls Tryz.prog 121 #[q,n] w λe g=>∃u,e=.returned u/\Jl g u (x+y)/\Bl w g:=by
 obtain⟨a,la,ca,rfl,m⟩:=t;obtain⟨b,lb,cb,rfl,l⟩:=r;have A:=m.len;have v:=l.len;by_cases hs:decide (y<0)=decide (x<0)
 . rw[hs];refine(Vo a b la lb ca cb _ _ _ w m l om om).mono ?_;rintro e g ⟨c,p,o,rfl,i,j⟩;refine⟨_,rfl,Jl.of i ?_,j⟩;by_cases d:x<0
   . have k:y<0:=by have:=BK d;rw[<-hs]at this;exact Bf this
     simp only[d,DI,if_true];omega
   . have k:¬y<0:=by have:=decide_eq_false d;rw[<-hs]at this;exact B7 this
     simp only[d,DA,A9,if_false];omega
 . have f:decide (y<0)=!decide (x<0):=by
    revert hs;cases decide (y<0)<;>cases decide (x<0)<;>simp
   rw[f];by_cases s:y.natAbs<=x.natAbs
   . refine(Vp a b la lb ca cb _ _ _ w m l s).mono ?_;rintro e g ⟨c,p,o,rfl,i,j⟩;refine⟨_,rfl,Jl.of i ?_,j⟩;by_cases d:x<0
     . have k:¬y<0:=by rw[BK d]at f;exact B7 f
       simp only[d,DI,if_true];omega
     . have k:y<0:=by rw[decide_eq_false d]at f;exact Bf f
       simp only[d,DA,A9,if_false];omega
   . refine(Vq a b la lb ca cb _ _ _ w m l om).mono ?_;rintro e g ⟨c,p,o,rfl,i,j⟩;refine⟨_,rfl,Jl.of i ?_,j⟩;by_cases d:x<0
     . have k:¬y<0:=by rw[BK d]at f;exact B7 f
       simp only[d,DI,Bool.not_true,A9,if_false];omega
     . have k:y<0:=by rw[decide_eq_false d]at f;exact Bf f
       simp only[d,DA,Bool.not_false,if_true];omega
def Ef(x y:Int):Int:=if x<y then -1 else if y<x then 1 else 0
theorem Nw(w:World)(a b:Obj):Bl w ((w.alloc a).alloc b):=
 (Ba w _).alloc DQ _
theorem Vr(a b:Option Addr)(la lb ca cb m n:Nat)(s t:Bool)(w:World)(d:UN w (B a la ca) m)(g:UN w (B b lb cb) n):
 Calls Tryz.prog 104 #[E #[C s,B a la ca],E #[C t,B b lb cb]] w λe j=>e=.returned (.int .i64 (if s=t then(if s then Y9 n m else Y9 m n)else(if t then 1 else -1)))/\Bl w j:=by
 have c:=Nw w (D #[C s,B a la ca] 63) (D #[C t,B b lb cb] 63);have b0:=(Jn.new w 63 (C s) (B a la ca)).alloc (D #[C t,B b lb cb] 63);have i:=Jn.new (w.alloc (D #[C s,B a la ca] 63)) 63 (C t) (B b lb cb);simp only[A1]at i;cases s<;>cases t
 all_goals
  go_enter Tryz.func104,Tryz.ntmps104
  go_wp2_with(first
   |(go_at_call 132;refine(L2 _ _ n m _ ?_ ?_).mono ?_;exact g.below c;exact d.below c;rintro e w0 ⟨rfl,f⟩)
   |(go_at_call 132;refine(L2 _ _ m n _ ?_ ?_).mono ?_;exact d.below c;exact g.below c;rintro e w0 ⟨rfl,f⟩)
   |(go_at_call 131;refine(NW _ _).mono ?_;rintro e w0 ⟨rfl,rfl⟩))
  go_ret;first
   |exact⟨rfl,Bt c f⟩
   |exact⟨rfl,c⟩
theorem Ii(c d:Value)(x y:Int)(w:World)(m:Jl w c x)(i:Jl w d y):
 Calls Tryz.prog 104 #[c,d] w λe f=>e=.returned (.int .i64 (Ef x y))/\Bl w f:=by
 obtain⟨a,la,ca,rfl,n⟩:=m;obtain⟨b,lb,cb,rfl,j⟩:=i;refine(Vr a b la lb ca cb _ _ _ _ w n j).mono ?_;rintro e f ⟨rfl,k⟩;refine⟨?_,k⟩;congr 2;unfold Ef Y9;by_cases g:x<0<;>by_cases l:y<0<;>simp only[g,l,DI,DA,if_true,if_false,A9,reduceCtorEq]
 all_goals(repeat' split)<;>omega
