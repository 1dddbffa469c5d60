import Derived.Test.YtakpoihdghihmaaGreatDoorR09
import Derived.Test.YtakpoihdghihmaaGreatDoorR04
open Go.Value renaming slice->B,bool->C,agg->E
open Go.Obj renaming cells->D
set_option maxRecDepth 100000
set_option maxHeartbeats 16000000
namespace Go.Proofs.YtakpoihdghihmaaGreatDoor
open Go.RowKit Go.Shelf
theorem Be:type_of% @of_decide_eq_true:=@of_decide_eq_true
theorem LO(a b:Value)(m n:Nat)(w:World)(c:UN w a m)(d:UN w b n):
 Calls Tryz.prog 126 #[a,b] w λe f=>e=.returned (.int .i64 (XJ m n))/\Bl w f:=by
 have h:=NG a b _ _ w c d (JE Jf m) (JE Jf n) (Ip Jf m) (Ip Jf n);rw[JC Jf,JC Jf]at h;exact h
theorem VQ(a b:Option Addr)(la lb ca cb m n:Nat)(s:Bool)(w:World)(F:UN w (B a la ca) m)(G:UN w (B b lb cb) n)(r:la<1099511627776)(t:lb<1099511627776):
 Calls Tryz.prog 83 #[E #[C s,B a la ca],E #[C s,B b lb cb]] w λe i=>∃c o p,e=.returned (E #[C (s&&decide (0<o)),B c o p])/\UN i (B c o p) (m+n)/\Bl w i:=by
 have H:¬(w.heap.size=w.heap.size+1+1):=O
 go_enter Tryz.func83,Tryz.ntmps83
 go_wp2_with fail
 have f:=IH w (D #[C s,B a la ca] 35) (D #[C s,B b lb cb] 35) (D #[C false,B none 0 0] 35);have b0:=((Jt.new w 35 (C s) (B a la ca)).alloc (D #[C s,B b lb cb] 35)).alloc (D #[C false,B none 0 0] 35);have g:=(Jt.new (w.alloc (D #[C s,B a la ca] 35)) 35 (C s) (B b lb cb)).alloc (D #[C false,B none 0 0] 35);have d:=Jt.new ((w.alloc (D #[C s,B a la ca] 35)).alloc (D #[C s,B b lb cb] 35)) 35 (C false) (B none 0 0);simp only[Ax]at g d;go_region_held3 (λi=>i.cell? ⟨w.heap.size,1,none⟩=some (B a la ca)/\i.cell? ⟨w.heap.size+1,1,none⟩=some (B b lb cb)/\i.cell? ⟨w.heap.size,0,none⟩=some (C s)) (refine⟨?_,?_,?_⟩<;>(first|(go_keep;done)|((repeat rw[Ya O]);simp[*];done)))
  (first
   |(go_at_call 132;refine(PU _ _ _ _ _ _ m n _ ?_ ?_ r t).mono ?_;exact F.below f.drew;exact G.below f.drew;rintro e I ⟨u,rfl,l,k⟩;obtain⟨a',c',rfl⟩:=l.form;have b0:=b0.drew.below k;have g:=g.drew.below k;have d:=d.drew.below k;have f:=Bt f.drew k;have y:=b0.c1;have z:=b0.c0;have A:=g.c1)
   |(go_at_call 72;refine(K8 _ _ _ _ _).mono ?_;rintro e K ⟨rfl,j⟩;have l:=Row.below l j;have b0:=b0.below j;have g:=g.below j;have d:=d.below j;have f:=Bt f j;have y:=b0.c1;have z:=b0.c0;have A:=g.c1;obtain⟨r0,r1⟩:=d.cp;obtain⟨f0,f1⟩:=d.fp))
 all_goals go_wp2_with fail
 obtain⟨x,q⟩:=IG (C (s&&decide (0<(Ji Y (m+n)).length))) (B a' (Ji Y (m+n)).length c') f O d rfl rfl l;exact BB (v:=E #[C (s&&decide (0<(Ji Y (m+n)).length)),B a' (Ji Y (m+n)).length c']) (by simp[results,Tryz.results83,go_sem,r0,r1]) rfl ⟨_,_,_,rfl,x,q⟩
theorem VR(a b:Option Addr)(la lb ca cb m n:Nat)(s:Bool)(w:World)(z:UN w (B a la ca) m)(A:UN w (B b lb cb) n)(p:n<=m):
 Calls Tryz.prog 83 #[E #[C s,B a la ca],E #[C (!s),B b lb cb]] w λe i=>∃c q r,e=.returned (E #[C (s&&decide (0<q)),B c q r])/\UN i (B c q r) (m-n)/\Bl w i:=by
 have L:¬(w.heap.size=w.heap.size+1+1):=O
 have K:(s == !s)=false:=by cases s<;>rfl
 have I:=Tw p;have F:Hid (n<=m):=p;clear p;have d:=IH w (D #[C s,B a la ca] 35) (D #[C (!s),B b lb cb] 35) (D #[C false,B none 0 0] 35);have b0:=((Jt.new w 35 (C s) (B a la ca)).alloc (D #[C (!s),B b lb cb] 35)).alloc (D #[C false,B none 0 0] 35);have f:=(Jt.new (w.alloc (D #[C s,B a la ca] 35)) 35 (C (!s)) (B b lb cb)).alloc (D #[C false,B none 0 0] 35);have g:=Jt.new ((w.alloc (D #[C s,B a la ca] 35)).alloc (D #[C (!s),B b lb cb] 35)) 35 (C false) (B none 0 0);simp only[Ax]at f g;go_enter Tryz.func83,Tryz.ntmps83
 go_wp2_with(first
  |(go_at_call 126;refine(LO _ _ m n _ ?_ ?_).mono ?_;exact z.below d;exact A.below d;rintro e w0 ⟨rfl,k⟩;have b0:=b0.below k;have f:=f.below k;have g:=g.below k;have d:=Bt d k;have t:=b0.c1;have x:=b0.c0;have y:=f.c1))
 go_region_held3 (λi=>i.cell? ⟨w.heap.size,1,none⟩=some (B a la ca)/\i.cell? ⟨w.heap.size+1,1,none⟩=some (B b lb cb)/\i.cell? ⟨w.heap.size,0,none⟩=some (C s)) (refine⟨?_,?_,?_⟩<;>(first|(go_keep;done)|((repeat rw[Ya O]);simp[*];done)))
  (first
   |(go_at_call 133;refine(NF _ _ _ _ _ _ m n _ ?_ ?_ F.o).mono ?_;exact z.below d.drew;exact A.below d.drew;rintro e M ⟨u,rfl,o,l⟩;obtain⟨a',c',rfl⟩:=o.form;have b0:=b0.drew.below l;have f:=f.drew.below l;have g:=g.drew.below l;have d:=Bt d.drew l;have t:=b0.c1;have x:=b0.c0;have y:=f.c1)
   |(go_at_call 72;refine(K8 _ _ _ _ _).mono ?_;rintro e N ⟨rfl,j⟩;have o:=Row.below o j;have b0:=b0.below j;have f:=f.below j;have g:=g.below j;have d:=Bt d j;have t:=b0.c1;have x:=b0.c0;have y:=f.c1;obtain⟨r0,r1⟩:=g.cp;obtain⟨f0,f1⟩:=g.fp))
 all_goals go_wp2_with fail
 obtain⟨H,G⟩:=IG (C (s&&decide (0<(Ji Y (m-n)).length))) (B a' (Ji Y (m-n)).length c') d O g rfl rfl o;exact BB (v:=E #[C (s&&decide (0<(Ji Y (m-n)).length)),B a' (Ji Y (m-n)).length c']) (by simp[results,Tryz.results83,go_sem,r0,r1]) rfl ⟨_,_,_,rfl,H,G⟩
theorem VT(a b:Option Addr)(la lb ca cb m n:Nat)(s:Bool)(w:World)(z:UN w (B a la ca) m)(A:UN w (B b lb cb) n)(p:m<n):
 Calls Tryz.prog 83 #[E #[C s,B a la ca],E #[C (!s),B b lb cb]] w λe i=>∃c q r,e=.returned (E #[C ((!s)&&decide (0<q)),B c q r])/\UN i (B c q r) (n-m)/\Bl w i:=by
 have L:¬(w.heap.size=w.heap.size+1+1):=O
 have K:(s == !s)=false:=by cases s<;>rfl
 have I:XJ m n<0:=by rw[ID p];omega
 have F:Hid (m<n):=p;clear p;have d:=IH w (D #[C s,B a la ca] 35) (D #[C (!s),B b lb cb] 35) (D #[C false,B none 0 0] 35);have b0:=((Jt.new w 35 (C s) (B a la ca)).alloc (D #[C (!s),B b lb cb] 35)).alloc (D #[C false,B none 0 0] 35);have f:=(Jt.new (w.alloc (D #[C s,B a la ca] 35)) 35 (C (!s)) (B b lb cb)).alloc (D #[C false,B none 0 0] 35);have g:=Jt.new ((w.alloc (D #[C s,B a la ca] 35)).alloc (D #[C (!s),B b lb cb] 35)) 35 (C false) (B none 0 0);simp only[Ax]at f g;go_enter Tryz.func83,Tryz.ntmps83
 go_wp2_with(first
  |(go_at_call 126;refine(LO _ _ m n _ ?_ ?_).mono ?_;exact z.below d;exact A.below d;rintro e w0 ⟨rfl,k⟩;have b0:=b0.below k;have f:=f.below k;have g:=g.below k;have d:=Bt d k;have t:=b0.c1;obtain⟨x,y⟩:=f.cp))
 go_region_held3 (λi=>i.cell? ⟨w.heap.size,1,none⟩=some (B a la ca)/\i.cell? ⟨w.heap.size+1,1,none⟩=some (B b lb cb)/\i.cell? ⟨w.heap.size+1,0,none⟩=some (C (!s))) (refine⟨?_,?_,?_⟩<;>(first|(go_keep;done)|((repeat rw[Ya O]);simp[*];done)))
  (first
   |(go_at_call 133;refine(NF _ _ _ _ _ _ n m _ ?_ ?_ (Nat.le_of_lt F.o)).mono ?_;exact A.below d.drew;exact z.below d.drew;rintro e M ⟨u,rfl,o,l⟩;obtain⟨a',c',rfl⟩:=o.form;have b0:=b0.drew.below l;have f:=f.drew.below l;have g:=g.drew.below l;have d:=Bt d.drew l;have t:=b0.c1;obtain⟨x,y⟩:=f.cp)
   |(go_at_call 72;refine(K8 _ _ _ _ _).mono ?_;rintro e N ⟨rfl,j⟩;have o:=Row.below o j;have b0:=b0.below j;have f:=f.below j;have g:=g.below j;have d:=Bt d j;have t:=b0.c1;obtain⟨x,y⟩:=f.cp;obtain⟨r0,r1⟩:=g.cp;obtain⟨f0,f1⟩:=g.fp))
 all_goals go_wp2_with fail
 obtain⟨H,G⟩:=IG (C ((!s)&&decide (0<(Ji Y (n-m)).length))) (B a' (Ji Y (n-m)).length c') d O g rfl rfl o;exact BB (v:=E #[C ((!s)&&decide (0<(Ji Y (n-m)).length)),B a' (Ji Y (n-m)).length c']) (by simp[results,Tryz.results83,go_sem,r0,r1]) rfl ⟨_,_,_,rfl,H,G⟩
theorem Jk.of{W:World}{s:Bool}{a:Option Addr}{l cap n:Nat}{z:Int}(h:UN W (B a l cap) n)(b:z=if s then -(n:Int)else n):Jk W (E #[C (s&&decide (0<l)),B a l cap]) z:=by
 have hl:=h.len;subst b;refine⟨a,l,cap,PM ?_,?_⟩
 . rw[hl,Fc];simp only[Cu,Bn];rw[PL];cases s
   . simp
   . simp;omega
 . have e:(if s then -(n:Int)else n).natAbs=n:=by cases s<;>simp
   rw[e];exact h
theorem NL(q r:Value)(x y:Int)(w:World)(t:Jk w q x)(v:Jk w r y)(F:(Ji Y x.natAbs).length<1099511627776)(G:(Ji Y y.natAbs).length<1099511627776):
 Calls Tryz.prog 83 #[q,r] w λe k=>∃u,e=.returned u/\Jk k u (x+y)/\Bl w k:=by
 obtain⟨a,la,ca,rfl,m⟩:=t;obtain⟨b,lb,cb,rfl,n⟩:=v;have z:=m.len;have A:=n.len;by_cases l:decide (y<0)=decide (x<0)
 . rw[l];refine(VQ a b la lb ca cb _ _ _ w m n O O).mono ?_;rintro e k ⟨c,p,o,rfl,j,i⟩;refine⟨_,rfl,Jk.of j ?_,i⟩;by_cases d:x<0
   . have g:y<0:=by have:=decide_eq_true d;rw[<-l]at this;exact Be this
     simp only[d,decide_true,if_true];omega
   . have g:¬y<0:=by have:=decide_eq_false d;rw[<-l]at this;exact of_decide_eq_false this
     simp only[d,decide_false,CB,if_false];omega
 . have f:decide (y<0)=!decide (x<0):=by
    revert l;cases decide (y<0)<;>cases decide (x<0)<;>simp
   rw[f];by_cases s:y.natAbs<=x.natAbs
   . refine(VR a b la lb ca cb _ _ _ w m n s).mono ?_;rintro e k ⟨c,p,o,rfl,j,i⟩;refine⟨_,rfl,Jk.of j ?_,i⟩;by_cases d:x<0
     . have g:¬y<0:=by rw[decide_eq_true d]at f;exact of_decide_eq_false f
       simp only[d,decide_true,if_true];omega
     . have g:y<0:=by rw[decide_eq_false d]at f;exact Be f
       simp only[d,decide_false,CB,if_false];omega
   . refine(VT a b la lb ca cb _ _ _ w m n O).mono ?_;rintro e k ⟨c,p,o,rfl,j,i⟩;refine⟨_,rfl,Jk.of j ?_,i⟩;by_cases d:x<0
     . have g:¬y<0:=by rw[decide_eq_true d]at f;exact of_decide_eq_false f
       simp only[d,decide_true,Bool.not_true,CB,if_false];omega
     . have g:y<0:=by rw[decide_eq_false d]at f;exact Be f
       simp only[d,decide_false,Bool.not_false,if_true];omega
def D4(x y:Int):Int:=if x<y then -1 else if y<x then 1 else 0
theorem NM(w:World)(a b:Obj):Bl w ((w.alloc a).alloc b):=
 (Ba w _).alloc Z _
theorem VU(a b:Option Addr)(la lb ca cb m n:Nat)(s t:Bool)(w:World)(f:UN w (B a la ca) m)(g:UN w (B b lb cb) n):
 Calls Tryz.prog 64 #[E #[C s,B a la ca],E #[C t,B b lb cb]] w λe j=>e=.returned (.int .i64 (if s=t then(if s then XJ n m else XJ m n)else(if t then 1 else -1)))/\Bl w j:=by
 have c:=NM w (D #[C s,B a la ca] 35) (D #[C t,B b lb cb] 35);have b0:=(Jt.new w 35 (C s) (B a la ca)).alloc (D #[C t,B b lb cb] 35);have i:=Jt.new (w.alloc (D #[C s,B a la ca] 35)) 35 (C t) (B b lb cb);simp only[Ax]at i;cases s<;>cases t
 all_goals
  go_enter Tryz.func64,Tryz.ntmps64
  go_wp2_with(first
   |(go_at_call 126;refine(LO _ _ n m _ ?_ ?_).mono ?_;exact g.below c;exact f.below c;rintro e w0 ⟨rfl,d⟩)
   |(go_at_call 126;refine(LO _ _ m n _ ?_ ?_).mono ?_;exact f.below c;exact g.below c;rintro e w0 ⟨rfl,d⟩)
   |(go_at_call 125;refine(Mu _ _).mono ?_;rintro e w0 ⟨rfl,rfl⟩))
  go_ret;first
   |exact⟨rfl,Bt c d⟩
   |exact⟨rfl,c⟩
theorem IQ(c d:Value)(x y:Int)(w:World)(m:Jk w c x)(n:Jk w d y):
 Calls Tryz.prog 64 #[c,d] w λe f=>e=.returned (.int .i64 (D4 x y))/\Bl w f:=by
 obtain⟨a,la,ca,rfl,k⟩:=m;obtain⟨b,lb,cb,rfl,l⟩:=n;refine(VU a b la lb ca cb _ _ _ _ w k l).mono ?_;rintro e f ⟨rfl,j⟩;refine⟨?_,j⟩;congr 2;unfold D4 XJ;by_cases g:x<0<;>by_cases i:y<0<;>simp only[g,i,decide_true,decide_false,if_true,if_false,CB,reduceCtorEq]
 all_goals(repeat' split)<;>omega
