import Derived.Test.YteldjhhjnchdeaaGreatDoorT09
import Derived.Test.YteldjhhjnchdeaaGreatDoorT04
set_option linter.all false
open Go.Value renaming slice->B,bool->C
open Go.Obj renaming cells->D
set_option maxRecDepth 99999
set_option maxHeartbeats 0
namespace Go.Proofs.YteldjhhjnchdeaaGreatDoor
open Proofs.Tryz
open Go.RowKit Go.Shelf
def L3(a b:Value)(m n:Nat)(w:World)(c:UN w a m)(d:UN w b n):
 Calls Tryz.prog 132 #[a,b] w λe f=>e=.returned (.int .i64 (Xf m n))/\Bl w f:=by
 have h:=Nu a b _ _ w c d (Jo Je m) (Jo Je n) (Yr Je m) (Yr Je n);rw[Jp Je,Jp Je]at h;exact h
def ZD(a b:kR)(la lb ca cb m n:Nat)(s:Bool)(w:World)(A:UN w (B a la ca) m)(E:UN w (B b lb cb) n)(r:la<1099511627776)(t:lb<1099511627776):
 Calls Tryz.prog 121 #[.agg #[C s,B a la ca],.agg #[C s,B b lb cb]] w λe i=>∃c o p,e=.returned (.agg #[C (s&&decide (0<o)),B c o p])/\UN i (B c o p) (m+n)/\Bl w i:=by
 have F:¬(w.heap.size=w.heap.size+1+1):=O
 go_enter func121,ntmps121
 go_wp2_with fail
 have f:=Gp w (D #[C s,B a la ca] 63) (D #[C s,B b lb cb] 63) (D #[C false,B none 0 0] 63);have b0:=((Jn.new w 63 (C s) (B a la ca)).alloc (D #[C s,B b lb cb] 63)).alloc (D #[C false,B none 0 0] 63);have g:=(Jn.new (w.alloc (D #[C s,B a la ca] 63)) 63 (C s) (B b lb cb)).alloc (D #[C false,B none 0 0] 63);have d:=Jn.new ((w.alloc (D #[C s,B a la ca] 63)).alloc (D #[C s,B b lb cb] 63)) 63 (C false) (B none 0 0);simp only[A1]at g d;go_region_held3 (λi=>i.cell? ⟨w.heap.size,1,none⟩=some (B a la ca)/\i.cell? ⟨w.heap.size+1,1,none⟩=some (B b lb cb)/\i.cell? ⟨w.heap.size,0,none⟩=some (C s)) (refine⟨?_,?_,?_⟩<;>(first|(go_keep;done)|((repeat rw[JJ O]);simp[*];done)))
  (first
   |(go_at_call 142;refine(QB _ _ _ _ _ _ m n _ ?_ ?_ r t).mono ?_;exact A.below f.drew;exact E.below f.drew;rintro e G ⟨u,rfl,l,k⟩;obtain⟨a',c',rfl⟩:=l.form;have b0:=b0.drew.below k;have g:=g.drew.below k;have d:=d.drew.below k;have f:=Bt f.drew k;have x:=b0.c1;have y:=b0.c0;have z:=g.c1)
   |(go_at_call 119;refine(Lp _ _ _ _ _).mono ?_;rintro e H ⟨rfl,j⟩;have l:=Row.below l j;have b0:=b0.below j;have g:=g.below j;have d:=d.below j;have f:=Bt f j;have x:=b0.c1;have y:=b0.c0;have z:=g.c1;obtain⟨r0,r1⟩:=d.cp;obtain⟨f0,f1⟩:=d.fp))
 all_goals go_wp2_with fail
 obtain⟨v,q⟩:=YU (C (s&&decide (0<(Jc Z (m+n)).length))) (B a' (Jc Z (m+n)).length c') f O d J J l;exact BA (by simp[results,results121,go_sem,r0,r1]) J ⟨_,_,_,J,v,q⟩
def ZE(a b:kR)(la lb ca cb m n:Nat)(s:Bool)(w:World)(y:UN w (B a la ca) m)(z:UN w (B b lb cb) n)(p:n<=m):
 Calls Tryz.prog 121 #[.agg #[C s,B a la ca],.agg #[C (!s),B b lb cb]] w λe i=>∃c q r,e=.returned (.agg #[C (s&&decide (0<q)),B c q r])/\UN i (B c q r) (m-n)/\Bl w i:=by
 have H:¬(w.heap.size=w.heap.size+1+1):=O
 have hs:(s == !s)=false:=by cases s<;>rfl
 have G:=Pv p;have A:Hid (n<=m):=p;clear p;have d:=Gp w (D #[C s,B a la ca] 63) (D #[C (!s),B b lb cb] 63) (D #[C false,B none 0 0] 63);have b0:=((Jn.new w 63 (C s) (B a la ca)).alloc (D #[C (!s),B b lb cb] 63)).alloc (D #[C false,B none 0 0] 63);have f:=(Jn.new (w.alloc (D #[C s,B a la ca] 63)) 63 (C (!s)) (B b lb cb)).alloc (D #[C false,B none 0 0] 63);have g:=Jn.new ((w.alloc (D #[C s,B a la ca] 63)).alloc (D #[C (!s),B b lb cb] 63)) 63 (C false) (B none 0 0);simp only[A1]at f g;go_enter func121,ntmps121
 go_wp2_with(first
  |(go_at_call 132;refine(L3 _ _ m n _ ?_ ?_).mono ?_;exact y.below d;exact z.below d;rintro e w0 ⟨rfl,k⟩;have b0:=b0.below k;have f:=f.below k;have g:=g.below k;have d:=Bt d k;have t:=b0.c1;have v:=b0.c0;have x:=f.c1))
 go_region_held3 (λi=>i.cell? ⟨w.heap.size,1,none⟩=some (B a la ca)/\i.cell? ⟨w.heap.size+1,1,none⟩=some (B b lb cb)/\i.cell? ⟨w.heap.size,0,none⟩=some (C s)) (refine⟨?_,?_,?_⟩<;>(first|(go_keep;done)|((repeat rw[JJ O]);simp[*];done)))
  (first
   |(go_at_call 143;refine(Nt _ _ _ _ _ _ m n _ ?_ ?_ A.o).mono ?_;exact y.below d.drew;exact z.below d.drew;rintro e I ⟨u,rfl,o,l⟩;obtain⟨a',c',rfl⟩:=o.form;have b0:=b0.drew.below l;have f:=f.drew.below l;have g:=g.drew.below l;have d:=Bt d.drew l;have t:=b0.c1;have v:=b0.c0;have x:=f.c1)
   |(go_at_call 119;refine(Lp _ _ _ _ _).mono ?_;rintro e K ⟨rfl,j⟩;have o:=Row.below o j;have b0:=b0.below j;have f:=f.below j;have g:=g.below j;have d:=Bt d j;have t:=b0.c1;have v:=b0.c0;have x:=f.c1;obtain⟨r0,r1⟩:=g.cp;obtain⟨f0,f1⟩:=g.fp))
 all_goals go_wp2_with fail
 obtain⟨F,E⟩:=YU (C (s&&decide (0<(Jc Z (m-n)).length))) (B a' (Jc Z (m-n)).length c') d O g J J o;exact BA (by simp[results,results121,go_sem,r0,r1]) J ⟨_,_,_,J,F,E⟩
def ZF(a b:kR)(la lb ca cb m n:Nat)(s:Bool)(w:World)(y:UN w (B a la ca) m)(z:UN w (B b lb cb) n)(p:m<n):
 Calls Tryz.prog 121 #[.agg #[C s,B a la ca],.agg #[C (!s),B b lb cb]] w λe i=>∃c q r,e=.returned (.agg #[C ((!s)&&decide (0<q)),B c q r])/\UN i (B c q r) (n-m)/\Bl w i:=by
 have H:¬(w.heap.size=w.heap.size+1+1):=O
 have hs:(s == !s)=false:=by cases s<;>rfl
 have G:Xf m n<0:=by rw[Gc p];omega
 have A:Hid (m<n):=p;clear p;have d:=Gp w (D #[C s,B a la ca] 63) (D #[C (!s),B b lb cb] 63) (D #[C false,B none 0 0] 63);have b0:=((Jn.new w 63 (C s) (B a la ca)).alloc (D #[C (!s),B b lb cb] 63)).alloc (D #[C false,B none 0 0] 63);have f:=(Jn.new (w.alloc (D #[C s,B a la ca] 63)) 63 (C (!s)) (B b lb cb)).alloc (D #[C false,B none 0 0] 63);have g:=Jn.new ((w.alloc (D #[C s,B a la ca] 63)).alloc (D #[C (!s),B b lb cb] 63)) 63 (C false) (B none 0 0);simp only[A1]at f g;go_enter func121,ntmps121
 go_wp2_with(first
  |(go_at_call 132;refine(L3 _ _ m n _ ?_ ?_).mono ?_;exact y.below d;exact z.below d;rintro e w0 ⟨rfl,k⟩;have b0:=b0.below k;have f:=f.below k;have g:=g.below k;have d:=Bt d k;have t:=b0.c1;obtain⟨v,x⟩:=f.cp))
 go_region_held3 (λi=>i.cell? ⟨w.heap.size,1,none⟩=some (B a la ca)/\i.cell? ⟨w.heap.size+1,1,none⟩=some (B b lb cb)/\i.cell? ⟨w.heap.size+1,0,none⟩=some (C (!s))) (refine⟨?_,?_,?_⟩<;>(first|(go_keep;done)|((repeat rw[JJ O]);simp[*];done)))
  (first
   |(go_at_call 143;refine(Nt _ _ _ _ _ _ n m _ ?_ ?_ (FL A.o)).mono ?_;exact z.below d.drew;exact y.below d.drew;rintro e I ⟨u,rfl,o,l⟩;obtain⟨a',c',rfl⟩:=o.form;have b0:=b0.drew.below l;have f:=f.drew.below l;have g:=g.drew.below l;have d:=Bt d.drew l;have t:=b0.c1;obtain⟨v,x⟩:=f.cp)
   |(go_at_call 119;refine(Lp _ _ _ _ _).mono ?_;rintro e K ⟨rfl,j⟩;have o:=Row.below o j;have b0:=b0.below j;have f:=f.below j;have g:=g.below j;have d:=Bt d j;have t:=b0.c1;obtain⟨v,x⟩:=f.cp;obtain⟨r0,r1⟩:=g.cp;obtain⟨f0,f1⟩:=g.fp))
 all_goals go_wp2_with fail
 obtain⟨F,E⟩:=YU (C ((!s)&&decide (0<(Jc Z (n-m)).length))) (B a' (Jc Z (n-m)).length c') d O g J J o;exact BA (by simp[results,results121,go_sem,r0,r1]) J ⟨_,_,_,J,F,E⟩
theorem Jk.of{W:World}{s:Bool}{a:kR}{l cap n:Nat}{z:Int}(h:UN W (B a l cap) n)(b:z=if s then -(n:Int)else n):Jk W (.agg #[C (s&&decide (0<l)),B a l cap]) z:=by
 have hl:=h.len;subst b;refine⟨a,l,cap,Pz ?_,?_⟩
 . grind[NZ]
 . have e:(if s then -(n:Int)else n).natAbs=n:=by cases s<;>simp
   rw[e];exact h
def N0(m n:Value)(x y:Int)(w:World)(q:Jk w m x)(r:Jk w n y)(v:(Jc Z x.natAbs).length<1099511627776)(z:(Jc Z y.natAbs).length<1099511627776):
 Calls Tryz.prog 121 #[m,n] w λe g=>∃u,e=.returned u/\Jk g u (x+y)/\Bl w g:=by
 obtain⟨a,la,ca,rfl,i⟩:=q;obtain⟨b,lb,cb,rfl,j⟩:=r;have s:=i.len;have t:=j.len;by_cases hs:decide (y<0)=decide (x<0)
 . rw[hs];refine(ZD a b la lb ca cb _ _ _ w i j O O).mono ?_;rintro e g ⟨c,l,k,rfl,f,d⟩;refine⟨_,J,Jk.of f ?_,d⟩;grind
 . have p:decide (y<0)=!decide (x<0):=by
    grind
   rw[p];by_cases o:y.natAbs<=x.natAbs
   . refine(ZE a b la lb ca cb _ _ _ w i j o).mono ?_;rintro e g ⟨c,l,k,rfl,f,d⟩;refine⟨_,J,Jk.of f ?_,d⟩;grind
   . refine(ZF a b la lb ca cb _ _ _ w i j O).mono ?_;rintro e g ⟨c,l,k,rfl,f,d⟩;refine⟨_,J,Jk.of f ?_,d⟩;grind
def EC(x y:Int):Int:=if x<y then -1 else if y<x then 1 else 0
def N1(w:World)(a b:Obj):Bl w ((w.alloc a).alloc b):=
 (Ba w _).alloc DK _
def ZG(a b:kR)(la lb ca cb m n:Nat)(s t:Bool)(w:World)(f:UN w (B a la ca) m)(g:UN w (B b lb cb) n):
 Calls Tryz.prog 104 #[.agg #[C s,B a la ca],.agg #[C t,B b lb cb]] w λe j=>e=.returned (.int .i64 (if s=t then(if s then Xf n m else Xf m n)else(if t then 1 else -1)))/\Bl w j:=by
 have c:=N1 w (D #[C s,B a la ca] 63) (D #[C t,B b lb cb] 63);have b0:=(Jn.new w 63 (C s) (B a la ca)).alloc (D #[C t,B b lb cb] 63);have i:=Jn.new (w.alloc (D #[C s,B a la ca] 63)) 63 (C t) (B b lb cb);simp only[A1]at i;cases s<;>cases t
 all_goals
  go_enter func104,ntmps104
  go_wp2_with(first
   |(go_at_call 132;refine(L3 _ _ n m _ ?_ ?_).mono ?_;exact g.below c;exact f.below c;rintro e w0 ⟨rfl,d⟩)
   |(go_at_call 132;refine(L3 _ _ m n _ ?_ ?_).mono ?_;exact f.below c;exact g.below c;rintro e w0 ⟨rfl,d⟩)
   |(go_at_call 131;refine(Na _ _).mono ?_;rintro e w0 ⟨rfl,rfl⟩))
  go_ret;first
   |exact⟨J,Bt c d⟩
   |exact⟨J,c⟩
def Ia(c d:Value)(x y:Int)(w:World)(j:Jk w c x)(k:Jk w d y):
 Calls Tryz.prog 104 #[c,d] w λe f=>e=.returned (.int .i64 (EC x y))/\Bl w f:=by
 obtain⟨a,la,ca,rfl,g⟩:=j;obtain⟨b,lb,cb,rfl,i⟩:=k;refine(ZG a b la lb ca cb _ _ _ _ w g i).mono ?_;rintro e f ⟨rfl,l⟩;grind[EC,Xf]
