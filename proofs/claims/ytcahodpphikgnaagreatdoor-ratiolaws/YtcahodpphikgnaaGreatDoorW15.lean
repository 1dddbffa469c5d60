import Derived.Test.YtcahodpphikgnaaGreatDoorW08
import Derived.Test.YtcahodpphikgnaaGreatDoorW03
set_option linter.all false
set_option maxRecDepth 99999
set_option maxHeartbeats 0
namespace Go.Proofs.YtcahodpphikgnaaGreatDoor
open Proofs.Tryz
open Go.RowKit Go.Shelf
def XQ(va vb:Value)(m n:Nat)(w:World)(ha:UN w va m)(hb:UN w vb n):
 Calls Tryz.prog 72 #[va,vb] w fun e w'=>e=.returned (.int .i64 (Ya m n))∧Bl w w':=by
 have h:=Dy va vb _ _ w ha hb (Jh Jb m) (Jh Jb n) (J6 Jb m) (J6 Jb n);rw[Jg Jb,Jg Jb]at h;exact h
def Id(a b:N)(la lb ca cb m n:Nat)(s:Bool)(w:World)(ra:UN w (.slice a la ca) m)(rb:UN w (.slice b lb cb) n)(hma:la<1099511627776)(hmb:lb<1099511627776):
 Calls Tryz.prog 42 #[.agg #[.bool s,.slice a la ca],.agg #[.bool s,.slice b lb cb]] w fun e w'=>∃c lc cc,e=.returned (.agg #[.bool (s&&decide (0<lc)),.slice c lc cc])∧UN w' (.slice c lc cc) (m+n)∧Bl w w':=by
 have ne2:¬(w.heap.size=w.heap.size+1+1):=by omega
 go_enter func42,ntmps42
 go_wp2_with fail
 have Qa:=Dn w (.cells #[.bool s,.slice a la ca] 25) (.cells #[.bool s,.slice b lb cb] 25) (.cells #[.bool false,.slice none 0 0] 25);have b0:=((Ji.new w 25 (.bool s) (.slice a la ca)).alloc (.cells #[.bool s,.slice b lb cb] 25)).alloc (.cells #[.bool false,.slice none 0 0] 25);have b1:=(Ji.new (w.alloc (.cells #[.bool s,.slice a la ca] 25)) 25 (.bool s) (.slice b lb cb)).alloc (.cells #[.bool false,.slice none 0 0] 25);have bR:=Ji.new ((w.alloc (.cells #[.bool s,.slice a la ca] 25)).alloc (.cells #[.bool s,.slice b lb cb] 25)) 25 (.bool false) (.slice none 0 0);simp only[BA]at b1 bR;go_region_held3 (fun w'=>w'.cell? ⟨w.heap.size,1,none⟩=some (.slice a la ca)∧w'.cell? ⟨w.heap.size+1,1,none⟩=some (.slice b lb cb)∧w'.cell? ⟨w.heap.size,0,none⟩=some (.bool s)) (refine⟨?_,?_,?_⟩<;>(first|(go_keep;done)|((repeat rw[Jw (by omega)]);simp[*];done)))
  (first
   |(go_at_call 75;refine(FI _ _ _ _ _ _ m n _ ?_ ?_ hma hmb).mono ?_;exact ra.below Qa.drew;exact rb.below Qa.drew;rintro e w1 ⟨u,rfl,hu,hb1⟩;obtain⟨a',c',rfl⟩:=hu.form;have b0:=b0.drew.below hb1;have b1:=b1.drew.below hb1;have bR:=bR.drew.below hb1;have Qa:=Bt Qa.drew hb1;have k0:=b0.c1;have k1:=b0.c0;have k2:=b1.c1)
   |(go_at_call 58;refine(XL _ _ _ _ _).mono ?_;rintro e w2 ⟨rfl,hb2⟩;have hu:=Row.below hu hb2;have b0:=b0.below hb2;have b1:=b1.below hb2;have bR:=bR.below hb2;have Qa:=Bt Qa hb2;have k0:=b0.c1;have k1:=b0.c0;have k2:=b1.c1;obtain⟨r0,r1⟩:=bR.cp;obtain⟨f0,f1⟩:=bR.fp))
 all_goals go_wp2_with fail
 obtain⟨hr,hB2⟩:=YA (.bool (s&&decide (0<(Jc O (m+n)).length))) (.slice a' (Jc O (m+n)).length c') Qa (by omega) bR J J hu;exact BB (by simp[results,results42,go_sem,r0,r1]) J ⟨_,_,_,J,hr,hB2⟩
def Ie(a b:N)(la lb ca cb m n:Nat)(s:Bool)(w:World)(ra:UN w (.slice a la ca) m)(rb:UN w (.slice b lb cb) n)(hmn:n≤m):
 Calls Tryz.prog 42 #[.agg #[.bool s,.slice a la ca],.agg #[.bool (!s),.slice b lb cb]] w fun e w'=>∃c lc cc,e=.returned (.agg #[.bool (s&&decide (0<lc)),.slice c lc cc])∧UN w' (.slice c lc cc) (m-n)∧Bl w w':=by
 have ne2:¬(w.heap.size=w.heap.size+1+1):=by omega
 have hs:(s == !s)=false:=by cases s<;>rfl
 have hcmp:=Gq hmn;have HC:Hid (n≤m):=hmn;clear hmn;have Qa:=Dn w (.cells #[.bool s,.slice a la ca] 25) (.cells #[.bool (!s),.slice b lb cb] 25) (.cells #[.bool false,.slice none 0 0] 25);have b0:=((Ji.new w 25 (.bool s) (.slice a la ca)).alloc (.cells #[.bool (!s),.slice b lb cb] 25)).alloc (.cells #[.bool false,.slice none 0 0] 25);have b1:=(Ji.new (w.alloc (.cells #[.bool s,.slice a la ca] 25)) 25 (.bool (!s)) (.slice b lb cb)).alloc (.cells #[.bool false,.slice none 0 0] 25);have bR:=Ji.new ((w.alloc (.cells #[.bool s,.slice a la ca] 25)).alloc (.cells #[.bool (!s),.slice b lb cb] 25)) 25 (.bool false) (.slice none 0 0);simp only[BA]at b1 bR;go_enter func42,ntmps42
 go_wp2_with(first
  |(go_at_call 72;refine(XQ _ _ m n _ ?_ ?_).mono ?_;exact ra.below Qa;exact rb.below Qa;rintro e w0 ⟨rfl,hb0⟩;have b0:=b0.below hb0;have b1:=b1.below hb0;have bR:=bR.below hb0;have Qa:=Bt Qa hb0;have k0:=b0.c1;have k1:=b0.c0;have k2:=b1.c1))
 go_region_held3 (fun w'=>w'.cell? ⟨w.heap.size,1,none⟩=some (.slice a la ca)∧w'.cell? ⟨w.heap.size+1,1,none⟩=some (.slice b lb cb)∧w'.cell? ⟨w.heap.size,0,none⟩=some (.bool s)) (refine⟨?_,?_,?_⟩<;>(first|(go_keep;done)|((repeat rw[Jw (by omega)]);simp[*];done)))
  (first
   |(go_at_call 76;refine(Dx _ _ _ _ _ _ m n _ ?_ ?_ HC.o).mono ?_;exact ra.below Qa.drew;exact rb.below Qa.drew;rintro e w1 ⟨u,rfl,hu,hb1⟩;obtain⟨a',c',rfl⟩:=hu.form;have b0:=b0.drew.below hb1;have b1:=b1.drew.below hb1;have bR:=bR.drew.below hb1;have Qa:=Bt Qa.drew hb1;have k0:=b0.c1;have k1:=b0.c0;have k2:=b1.c1)
   |(go_at_call 58;refine(XL _ _ _ _ _).mono ?_;rintro e w2 ⟨rfl,hb2⟩;have hu:=Row.below hu hb2;have b0:=b0.below hb2;have b1:=b1.below hb2;have bR:=bR.below hb2;have Qa:=Bt Qa hb2;have k0:=b0.c1;have k1:=b0.c0;have k2:=b1.c1;obtain⟨r0,r1⟩:=bR.cp;obtain⟨f0,f1⟩:=bR.fp))
 all_goals go_wp2_with fail
 obtain⟨hr,hB2⟩:=YA (.bool (s&&decide (0<(Jc O (m-n)).length))) (.slice a' (Jc O (m-n)).length c') Qa (by omega) bR J J hu;exact BB (by simp[results,results42,go_sem,r0,r1]) J ⟨_,_,_,J,hr,hB2⟩
def Ig(a b:N)(la lb ca cb m n:Nat)(s:Bool)(w:World)(ra:UN w (.slice a la ca) m)(rb:UN w (.slice b lb cb) n)(hmn:m<n):
 Calls Tryz.prog 42 #[.agg #[.bool s,.slice a la ca],.agg #[.bool (!s),.slice b lb cb]] w fun e w'=>∃c lc cc,e=.returned (.agg #[.bool ((!s)&&decide (0<lc)),.slice c lc cc])∧UN w' (.slice c lc cc) (n-m)∧Bl w w':=by
 have ne2:¬(w.heap.size=w.heap.size+1+1):=by omega
 have hs:(s == !s)=false:=by cases s<;>rfl
 have hcmp:Ya m n<0:=by rw[Xs hmn];omega
 have HC:Hid (m<n):=hmn;clear hmn;have Qa:=Dn w (.cells #[.bool s,.slice a la ca] 25) (.cells #[.bool (!s),.slice b lb cb] 25) (.cells #[.bool false,.slice none 0 0] 25);have b0:=((Ji.new w 25 (.bool s) (.slice a la ca)).alloc (.cells #[.bool (!s),.slice b lb cb] 25)).alloc (.cells #[.bool false,.slice none 0 0] 25);have b1:=(Ji.new (w.alloc (.cells #[.bool s,.slice a la ca] 25)) 25 (.bool (!s)) (.slice b lb cb)).alloc (.cells #[.bool false,.slice none 0 0] 25);have bR:=Ji.new ((w.alloc (.cells #[.bool s,.slice a la ca] 25)).alloc (.cells #[.bool (!s),.slice b lb cb] 25)) 25 (.bool false) (.slice none 0 0);simp only[BA]at b1 bR;go_enter func42,ntmps42
 go_wp2_with(first
  |(go_at_call 72;refine(XQ _ _ m n _ ?_ ?_).mono ?_;exact ra.below Qa;exact rb.below Qa;rintro e w0 ⟨rfl,hb0⟩;have b0:=b0.below hb0;have b1:=b1.below hb0;have bR:=bR.below hb0;have Qa:=Bt Qa hb0;have k0:=b0.c1;obtain⟨k1,k2⟩:=b1.cp))
 go_region_held3 (fun w'=>w'.cell? ⟨w.heap.size,1,none⟩=some (.slice a la ca)∧w'.cell? ⟨w.heap.size+1,1,none⟩=some (.slice b lb cb)∧w'.cell? ⟨w.heap.size+1,0,none⟩=some (.bool (!s))) (refine⟨?_,?_,?_⟩<;>(first|(go_keep;done)|((repeat rw[Jw (by omega)]);simp[*];done)))
  (first
   |(go_at_call 76;refine(Dx _ _ _ _ _ _ n m _ ?_ ?_ (Nat.le_of_lt HC.o)).mono ?_;exact rb.below Qa.drew;exact ra.below Qa.drew;rintro e w1 ⟨u,rfl,hu,hb1⟩;obtain⟨a',c',rfl⟩:=hu.form;have b0:=b0.drew.below hb1;have b1:=b1.drew.below hb1;have bR:=bR.drew.below hb1;have Qa:=Bt Qa.drew hb1;have k0:=b0.c1;obtain⟨k1,k2⟩:=b1.cp)
   |(go_at_call 58;refine(XL _ _ _ _ _).mono ?_;rintro e w2 ⟨rfl,hb2⟩;have hu:=Row.below hu hb2;have b0:=b0.below hb2;have b1:=b1.below hb2;have bR:=bR.below hb2;have Qa:=Bt Qa hb2;have k0:=b0.c1;obtain⟨k1,k2⟩:=b1.cp;obtain⟨r0,r1⟩:=bR.cp;obtain⟨f0,f1⟩:=bR.fp))
 all_goals go_wp2_with fail
 obtain⟨hr,hB2⟩:=YA (.bool ((!s)&&decide (0<(Jc O (n-m)).length))) (.slice a' (Jc O (n-m)).length c') Qa (by omega) bR J J hu;exact BB (by simp[results,results42,go_sem,r0,r1]) J ⟨_,_,_,J,hr,hB2⟩
theorem Jd.of{W:World}{s:Bool}{a:N}{l cap n:Nat}{z:Int}(h:UN W (.slice a l cap) n)(hz:z=if s then -(n:Int)else n):Jd W (.agg #[.bool (s&&decide (0<l)),.slice a l cap]) z:=by
 have hl:=h.len;subst hz;refine⟨a,l,cap,Ep ?_,?_⟩
 · grind[Y1]
 · have e:(if s then -(n:Int)else n).natAbs=n:=by cases s<;>simp
   rw[e];exact h
def DZ(va vb:Value)(x y:Int)(w:World)(hx:Jd w va x)(hy:Jd w vb y)(hlx:(Jc O x.natAbs).length<1099511627776)(hly:(Jc O y.natAbs).length<1099511627776):
 Calls Tryz.prog 42 #[va,vb] w fun e w'=>∃u,e=.returned u∧Jd w' u (x+y)∧Bl w w':=by
 obtain⟨a,la,ca,rfl,hu⟩:=hx;obtain⟨b,lb,cb,rfl,hv⟩:=hy;have ela:=hu.len;have elb:=hv.len;by_cases hs:decide (y<0)=decide (x<0)
 · rw[hs];refine(Id a b la lb ca cb _ _ _ w hu hv (by omega) (by omega)).mono ?_;rintro e w' ⟨c,lc,cc,rfl,hr,hB⟩;refine⟨_,J,Jd.of hr ?_,hB⟩;grind
 · have hs':decide (y<0)=!decide (x<0):=by
    grind
   rw[hs'];by_cases hmn:y.natAbs≤x.natAbs
   · refine(Ie a b la lb ca cb _ _ _ w hu hv hmn).mono ?_;rintro e w' ⟨c,lc,cc,rfl,hr,hB⟩;refine⟨_,J,Jd.of hr ?_,hB⟩;grind
   · refine(Ig a b la lb ca cb _ _ _ w hu hv (by omega)).mono ?_;rintro e w' ⟨c,lc,cc,rfl,hr,hB⟩;refine⟨_,J,Jd.of hr ?_,hB⟩;grind
def Yq(x y:Int):Int:=if x<y then -1 else if y<x then 1 else 0
def XR(w:World)(o1 o2:Obj):Bl w ((w.alloc o1).alloc o2):=
 (Ba w _).alloc (by simp) _
def Ih(a b:N)(la lb ca cb m n:Nat)(s t:Bool)(w:World)(ra:UN w (.slice a la ca) m)(rb:UN w (.slice b lb cb) n):
 Calls Tryz.prog 39 #[.agg #[.bool s,.slice a la ca],.agg #[.bool t,.slice b lb cb]] w fun e w'=>e=.returned (.int .i64 (if s=t then(if s then Ya n m else Ya m n)else(if t then 1 else -1)))∧Bl w w':=by
 have Qa:=XR w (.cells #[.bool s,.slice a la ca] 25) (.cells #[.bool t,.slice b lb cb] 25);have b0:=(Ji.new w 25 (.bool s) (.slice a la ca)).alloc (.cells #[.bool t,.slice b lb cb] 25);have b1:=Ji.new (w.alloc (.cells #[.bool s,.slice a la ca] 25)) 25 (.bool t) (.slice b lb cb);simp only[BA]at b1;cases s<;>cases t
 all_goals
  go_enter func39,ntmps39
  go_wp2_with(first
   |(go_at_call 72;refine(XQ _ _ n m _ ?_ ?_).mono ?_;exact rb.below Qa;exact ra.below Qa;rintro e w0 ⟨rfl,hb0⟩)
   |(go_at_call 72;refine(XQ _ _ m n _ ?_ ?_).mono ?_;exact ra.below Qa;exact rb.below Qa;rintro e w0 ⟨rfl,hb0⟩)
   |(go_at_call 71;refine(Do _ _).mono ?_;rintro e w0 ⟨rfl,rfl⟩))
  go_ret;first
   |exact⟨J,Bt Qa hb0⟩
   |exact⟨J,Qa⟩
def Yr(va vb:Value)(x y:Int)(w:World)(hx:Jd w va x)(hy:Jd w vb y):
 Calls Tryz.prog 39 #[va,vb] w fun e w'=>e=.returned (.int .i64 (Yq x y))∧Bl w w':=by
 obtain⟨a,la,ca,rfl,hu⟩:=hx;obtain⟨b,lb,cb,rfl,hv⟩:=hy;refine(Ih a b la lb ca cb _ _ _ _ w hu hv).mono ?_;rintro e w' ⟨rfl,hB⟩;grind[Yq,Ya]
