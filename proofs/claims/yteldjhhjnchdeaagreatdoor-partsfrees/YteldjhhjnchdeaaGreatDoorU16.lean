import Derived.Test.YteldjhhjnchdeaaGreatDoorU09
import Derived.Test.YteldjhhjnchdeaaGreatDoorU04
open Go.Value renaming slice->B,bool->C,agg->E
open Go.Obj renaming cells->D
set_option maxRecDepth 100000
set_option maxHeartbeats 16000000
namespace Go.Proofs.YteldjhhjnchdeaaGreatDoor
open Go.RowKit Go.Shelf
theorem DI:type_of% @decide_true:=@decide_true
theorem DA:type_of% @decide_false:=@decide_false
theorem B7:type_of% @of_decide_eq_false:=@of_decide_eq_false
theorem Bf:type_of% @of_decide_eq_true:=@of_decide_eq_true
theorem Lw(a b:Value)(m n:Nat)(w:World)(c:UN w a m)(d:UN w b n):
 Calls Tryz.prog 132 #[a,b] w λe f=>e=.returned (.int .i64 (Xf m n))/\Bl w f:=by
 have h:=Nf a b _ _ w c d (Jq Je m) (Jq Je n) (Ym Je m) (Ym Je n);rw[Jp Je,Jp Je]at h;exact h
theorem Vx(a b:Option Addr)(la lb ca cb m n:Nat)(s:Bool)(w:World)(G:UN w (B a la ca) m)(H:UN w (B b lb cb) n)(r:la<1099511627776)(t:lb<1099511627776):
 Calls Tryz.prog 121 #[E #[C s,B a la ca],E #[C s,B b lb cb]] w λe i=>∃c o p,e=.returned (E #[C (s&&decide (0<o)),B c o p])/\UN i (B c o p) (m+n)/\Bl w i:=by
 have I:¬(w.heap.size=w.heap.size+1+1):=J
 go_enter Tryz.func121,Tryz.ntmps121
 go_wp2_with fail
 have f:=Xv w (D #[C s,B a la ca] 63) (D #[C s,B b lb cb] 63) (D #[C false,B none 0 0] 63);have b0:=((Jm.new w 63 (C s) (B a la ca)).alloc (D #[C s,B b lb cb] 63)).alloc (D #[C false,B none 0 0] 63);have g:=(Jm.new (w.alloc (D #[C s,B a la ca] 63)) 63 (C s) (B b lb cb)).alloc (D #[C false,B none 0 0] 63);have d:=Jm.new ((w.alloc (D #[C s,B a la ca] 63)).alloc (D #[C s,B b lb cb] 63)) 63 (C false) (B none 0 0);simp only[A1]at g d;go_region_held3 (λi=>i.cell? ⟨w.heap.size,1,none⟩=some (B a la ca)/\i.cell? ⟨w.heap.size+1,1,none⟩=some (B b lb cb)/\i.cell? ⟨w.heap.size,0,none⟩=some (C s)) (refine⟨?_,?_,?_⟩<;>(first|(go_keep;done)|((repeat rw[JH J]);simp[*];done)))
  (first
   |(go_at_call 142;refine(Pe _ _ _ _ _ _ m n _ ?_ ?_ r t).mono ?_;exact G.below f.drew;exact H.below f.drew;rintro e K ⟨u,rfl,l,k⟩;obtain⟨a',c',rfl⟩:=l.form;have b0:=b0.drew.below k;have g:=g.drew.below k;have d:=d.drew.below k;have f:=Bt f.drew k;have y:=b0.c1;have z:=b0.c0;have A:=g.c1)
   |(go_at_call 119;refine(Ld _ _ _ _ _).mono ?_;rintro e L ⟨rfl,j⟩;have l:=Row.below l j;have b0:=b0.below j;have g:=g.below j;have d:=d.below j;have f:=Bt f j;have y:=b0.c1;have z:=b0.c0;have A:=g.c1;obtain⟨r0,F⟩:=d.cp;obtain⟨f0,f1⟩:=d.fp))
 all_goals go_wp2_with fail
 obtain⟨x,q⟩:=YT (C (s&&decide (0<(Jc Z (m+n)).length))) (B a' (Jc Z (m+n)).length c') f J d rfl rfl l;exact BA (v:=E #[C (s&&decide (0<(Jc Z (m+n)).length)),B a' (Jc Z (m+n)).length c']) (by simp[results,Tryz.results121,go_sem,r0,F]) rfl ⟨_,_,_,rfl,x,q⟩
theorem Vy(a b:Option Addr)(la lb ca cb m n:Nat)(s:Bool)(w:World)(z:UN w (B a la ca) m)(A:UN w (B b lb cb) n)(p:n<=m):
 Calls Tryz.prog 121 #[E #[C s,B a la ca],E #[C (!s),B b lb cb]] w λe i=>∃c q r,e=.returned (E #[C (s&&decide (0<q)),B c q r])/\UN i (B c q r) (m-n)/\Bl w i:=by
 have L:¬(w.heap.size=w.heap.size+1+1):=J
 have hs:(s == !s)=false:=by cases s<;>rfl
 have K:=PL p;have F:Hid (n<=m):=p;clear p;have d:=Xv w (D #[C s,B a la ca] 63) (D #[C (!s),B b lb cb] 63) (D #[C false,B none 0 0] 63);have b0:=((Jm.new w 63 (C s) (B a la ca)).alloc (D #[C (!s),B b lb cb] 63)).alloc (D #[C false,B none 0 0] 63);have f:=(Jm.new (w.alloc (D #[C s,B a la ca] 63)) 63 (C (!s)) (B b lb cb)).alloc (D #[C false,B none 0 0] 63);have g:=Jm.new ((w.alloc (D #[C s,B a la ca] 63)).alloc (D #[C (!s),B b lb cb] 63)) 63 (C false) (B none 0 0);simp only[A1]at f g;go_enter Tryz.func121,Tryz.ntmps121
 go_wp2_with(first
  |(go_at_call 132;refine(Lw _ _ m n _ ?_ ?_).mono ?_;exact z.below d;exact A.below d;rintro e w0 ⟨rfl,k⟩;have b0:=b0.below k;have f:=f.below k;have g:=g.below k;have d:=Bt d k;have t:=b0.c1;have x:=b0.c0;have y:=f.c1))
 go_region_held3 (λi=>i.cell? ⟨w.heap.size,1,none⟩=some (B a la ca)/\i.cell? ⟨w.heap.size+1,1,none⟩=some (B b lb cb)/\i.cell? ⟨w.heap.size,0,none⟩=some (C s)) (refine⟨?_,?_,?_⟩<;>(first|(go_keep;done)|((repeat rw[JH J]);simp[*];done)))
  (first
   |(go_at_call 143;refine(Nd _ _ _ _ _ _ m n _ ?_ ?_ F.o).mono ?_;exact z.below d.drew;exact A.below d.drew;rintro e M ⟨u,rfl,o,l⟩;obtain⟨a',c',rfl⟩:=o.form;have b0:=b0.drew.below l;have f:=f.drew.below l;have g:=g.drew.below l;have d:=Bt d.drew l;have t:=b0.c1;have x:=b0.c0;have y:=f.c1)
   |(go_at_call 119;refine(Ld _ _ _ _ _).mono ?_;rintro e N ⟨rfl,j⟩;have o:=Row.below o j;have b0:=b0.below j;have f:=f.below j;have g:=g.below j;have d:=Bt d j;have t:=b0.c1;have x:=b0.c0;have y:=f.c1;obtain⟨r0,I⟩:=g.cp;obtain⟨f0,f1⟩:=g.fp))
 all_goals go_wp2_with fail
 obtain⟨H,G⟩:=YT (C (s&&decide (0<(Jc Z (m-n)).length))) (B a' (Jc Z (m-n)).length c') d J g rfl rfl o;exact BA (v:=E #[C (s&&decide (0<(Jc Z (m-n)).length)),B a' (Jc Z (m-n)).length c']) (by simp[results,Tryz.results121,go_sem,r0,I]) rfl ⟨_,_,_,rfl,H,G⟩
theorem Vz(a b:Option Addr)(la lb ca cb m n:Nat)(s:Bool)(w:World)(z:UN w (B a la ca) m)(A:UN w (B b lb cb) n)(p:m<n):
 Calls Tryz.prog 121 #[E #[C s,B a la ca],E #[C (!s),B b lb cb]] w λe i=>∃c q r,e=.returned (E #[C ((!s)&&decide (0<q)),B c q r])/\UN i (B c q r) (n-m)/\Bl w i:=by
 have L:¬(w.heap.size=w.heap.size+1+1):=J
 have hs:(s == !s)=false:=by cases s<;>rfl
 have K:Xf m n<0:=by rw[XZ p];omega
 have F:Hid (m<n):=p;clear p;have d:=Xv w (D #[C s,B a la ca] 63) (D #[C (!s),B b lb cb] 63) (D #[C false,B none 0 0] 63);have b0:=((Jm.new w 63 (C s) (B a la ca)).alloc (D #[C (!s),B b lb cb] 63)).alloc (D #[C false,B none 0 0] 63);have f:=(Jm.new (w.alloc (D #[C s,B a la ca] 63)) 63 (C (!s)) (B b lb cb)).alloc (D #[C false,B none 0 0] 63);have g:=Jm.new ((w.alloc (D #[C s,B a la ca] 63)).alloc (D #[C (!s),B b lb cb] 63)) 63 (C false) (B none 0 0);simp only[A1]at f g;go_enter Tryz.func121,Tryz.ntmps121
 go_wp2_with(first
  |(go_at_call 132;refine(Lw _ _ m n _ ?_ ?_).mono ?_;exact z.below d;exact A.below d;rintro e w0 ⟨rfl,k⟩;have b0:=b0.below k;have f:=f.below k;have g:=g.below k;have d:=Bt d k;have t:=b0.c1;obtain⟨x,y⟩:=f.cp))
 go_region_held3 (λi=>i.cell? ⟨w.heap.size,1,none⟩=some (B a la ca)/\i.cell? ⟨w.heap.size+1,1,none⟩=some (B b lb cb)/\i.cell? ⟨w.heap.size+1,0,none⟩=some (C (!s))) (refine⟨?_,?_,?_⟩<;>(first|(go_keep;done)|((repeat rw[JH J]);simp[*];done)))
  (first
   |(go_at_call 143;refine(Nd _ _ _ _ _ _ n m _ ?_ ?_ (FU F.o)).mono ?_;exact A.below d.drew;exact z.below d.drew;rintro e M ⟨u,rfl,o,l⟩;obtain⟨a',c',rfl⟩:=o.form;have b0:=b0.drew.below l;have f:=f.drew.below l;have g:=g.drew.below l;have d:=Bt d.drew l;have t:=b0.c1;obtain⟨x,y⟩:=f.cp)
   |(go_at_call 119;refine(Ld _ _ _ _ _).mono ?_;rintro e N ⟨rfl,j⟩;have o:=Row.below o j;have b0:=b0.below j;have f:=f.below j;have g:=g.below j;have d:=Bt d j;have t:=b0.c1;obtain⟨x,y⟩:=f.cp;obtain⟨r0,I⟩:=g.cp;obtain⟨f0,f1⟩:=g.fp))
 all_goals go_wp2_with fail
 obtain⟨H,G⟩:=YT (C ((!s)&&decide (0<(Jc Z (n-m)).length))) (B a' (Jc Z (n-m)).length c') d J g rfl rfl o;exact BA (v:=E #[C ((!s)&&decide (0<(Jc Z (n-m)).length)),B a' (Jc Z (n-m)).length c']) (by simp[results,Tryz.results121,go_sem,r0,I]) rfl ⟨_,_,_,rfl,H,G⟩
theorem Jk.of{W:World}{s:Bool}{a:Option Addr}{l cap n:Nat}{z:Int}(h:UN W (B a l cap) n)(b:z=if s then -(n:Int)else n):Jk W (E #[C (s&&decide (0<l)),B a l cap]) z:=by
 have hl:=h.len;subst b;refine⟨a,l,cap,PP ?_,?_⟩
 . rw[hl,Cr];simp only[AM,BR];rw[NQ];cases s
   . simp
   . simp;omega
 . have e:(if s then -(n:Int)else n).natAbs=n:=by cases s<;>simp
   rw[e];exact h
theorem Nl(p q:Value)(x y:Int)(w:World)(s:Jk w p x)(t:Jk w q y)(A:(Jc Z x.natAbs).length<1099511627776)(F:(Jc Z y.natAbs).length<1099511627776):
 Calls Tryz.prog 121 #[p,q] w λe k=>∃u,e=.returned u/\Jk k u (x+y)/\Bl w k:=by
 obtain⟨a,la,ca,rfl,l⟩:=s;obtain⟨b,lb,cb,rfl,m⟩:=t;have v:=l.len;have z:=m.len;by_cases hs:decide (y<0)=decide (x<0)
 . rw[hs];refine(Vx a b la lb ca cb _ _ _ w l m J J).mono ?_;rintro e k ⟨c,o,n,rfl,j,i⟩;refine⟨_,rfl,Jk.of j ?_,i⟩;by_cases d:x<0
   . have g:y<0:=by have:=BK d;rw[<-hs]at this;exact Bf this
     simp only[d,DI,if_true];omega
   . have g:¬y<0:=by have:=decide_eq_false d;rw[<-hs]at this;exact B7 this
     simp only[d,DA,Ck,if_false];omega
 . have f:decide (y<0)=!decide (x<0):=by
    revert hs;cases decide (y<0)<;>cases decide (x<0)<;>simp
   rw[f];by_cases r:y.natAbs<=x.natAbs
   . refine(Vy a b la lb ca cb _ _ _ w l m r).mono ?_;rintro e k ⟨c,o,n,rfl,j,i⟩;refine⟨_,rfl,Jk.of j ?_,i⟩;by_cases d:x<0
     . have g:¬y<0:=by rw[BK d]at f;exact B7 f
       simp only[d,DI,if_true];omega
     . have g:y<0:=by rw[decide_eq_false d]at f;exact Bf f
       simp only[d,DA,Ck,if_false];omega
   . refine(Vz a b la lb ca cb _ _ _ w l m J).mono ?_;rintro e k ⟨c,o,n,rfl,j,i⟩;refine⟨_,rfl,Jk.of j ?_,i⟩;by_cases d:x<0
     . have g:¬y<0:=by rw[BK d]at f;exact B7 f
       simp only[d,DI,Bool.not_true,Ck,if_false];omega
     . have g:y<0:=by rw[decide_eq_false d]at f;exact Bf f
       simp only[d,DA,Bool.not_false,if_true];omega
def EX(x y:Int):Int:=if x<y then -1 else if y<x then 1 else 0
theorem Nm(w:World)(a b:Obj):Bl w ((w.alloc a).alloc b):=
 (Ba w _).alloc Y _
theorem WA(a b:Option Addr)(la lb ca cb m n:Nat)(s t:Bool)(w:World)(f:UN w (B a la ca) m)(g:UN w (B b lb cb) n):
 Calls Tryz.prog 104 #[E #[C s,B a la ca],E #[C t,B b lb cb]] w λe j=>e=.returned (.int .i64 (if s=t then(if s then Xf n m else Xf m n)else(if t then 1 else -1)))/\Bl w j:=by
 have c:=Nm w (D #[C s,B a la ca] 63) (D #[C t,B b lb cb] 63);have b0:=(Jm.new w 63 (C s) (B a la ca)).alloc (D #[C t,B b lb cb] 63);have i:=Jm.new (w.alloc (D #[C s,B a la ca] 63)) 63 (C t) (B b lb cb);simp only[A1]at i;cases s<;>cases t
 all_goals
  go_enter Tryz.func104,Tryz.ntmps104
  go_wp2_with(first
   |(go_at_call 132;refine(Lw _ _ n m _ ?_ ?_).mono ?_;exact g.below c;exact f.below c;rintro e w0 ⟨rfl,d⟩)
   |(go_at_call 132;refine(Lw _ _ m n _ ?_ ?_).mono ?_;exact f.below c;exact g.below c;rintro e w0 ⟨rfl,d⟩)
   |(go_at_call 131;refine(NR _ _).mono ?_;rintro e w0 ⟨rfl,rfl⟩))
  go_ret;first
   |exact⟨rfl,Bt c d⟩
   |exact⟨rfl,c⟩
theorem Ir(c d:Value)(x y:Int)(w:World)(m:Jk w c x)(n:Jk w d y):
 Calls Tryz.prog 104 #[c,d] w λe f=>e=.returned (.int .i64 (EX x y))/\Bl w f:=by
 obtain⟨a,la,ca,rfl,k⟩:=m;obtain⟨b,lb,cb,rfl,l⟩:=n;refine(WA a b la lb ca cb _ _ _ _ w k l).mono ?_;rintro e f ⟨rfl,j⟩;refine⟨?_,j⟩;congr 2;unfold EX Xf;by_cases g:x<0<;>by_cases i:y<0<;>simp only[g,i,DI,DA,if_true,if_false,Ck,reduceCtorEq]
 all_goals(repeat' split)<;>omega
