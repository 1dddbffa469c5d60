import Derived.Test.YtakpoihdghihmaaGreatDoorL09
import Derived.Test.YtakpoihdghihmaaGreatDoorL04
set_option maxRecDepth 100000
set_option maxHeartbeats 16000000
namespace Go.Proofs.YtakpoihdghihmaaGreatDoor
open Go.RowKit Go.Shelf
theorem Bo:type_of% @of_decide_eq_true:=@of_decide_eq_true
theorem K5(va vb:Value)(m n:Nat)(w:World)(ha:UN w va m)(hb:UN w vb n):
 Calls Tryz.prog 126 #[va,vb] w fun e w'=>e=.returned (.int .i64 (XK m n))∧Bl w w':=by
 have h:=Me va vb _ _ w ha hb (Jy Jf m) (Jy Jf n) (IP Jf m) (IP Jf n);rw[Jw Jf,Jw Jf]at h;exact h
theorem UJ(a b:Option Addr)(la lb ca cb m n:Nat)(s:Bool)(w:World)(ra:UN w (.slice a la ca) m)(rb:UN w (.slice b lb cb) n)(hma:la<1099511627776)(hmb:lb<1099511627776):
 Calls Tryz.prog 83 #[.agg #[.bool s,.slice a la ca],.agg #[.bool s,.slice b lb cb]] w fun e w'=>∃c lc cc,e=.returned (.agg #[.bool (s&&decide (0<lc)),.slice c lc cc])∧UN w' (.slice c lc cc) (m+n)∧Bl w w':=by
 have ne2:¬(w.heap.size=w.heap.size+1+1):=by omega
 go_enter Tryz.func83,Tryz.ntmps83
 go_wp2_with fail
 have Qa:=Hh w (.cells #[.bool s,.slice a la ca] 35) (.cells #[.bool s,.slice b lb cb] 35) (.cells #[.bool false,.slice none 0 0] 35);have b0:=((Jo.new w 35 (.bool s) (.slice a la ca)).alloc (.cells #[.bool s,.slice b lb cb] 35)).alloc (.cells #[.bool false,.slice none 0 0] 35);have b1:=(Jo.new (w.alloc (.cells #[.bool s,.slice a la ca] 35)) 35 (.bool s) (.slice b lb cb)).alloc (.cells #[.bool false,.slice none 0 0] 35);have bR:=Jo.new ((w.alloc (.cells #[.bool s,.slice a la ca] 35)).alloc (.cells #[.bool s,.slice b lb cb] 35)) 35 (.bool false) (.slice none 0 0);simp only[BA]at b1 bR;go_region_held3 (fun w'=>w'.cell? ⟨w.heap.size,1,none⟩=some (.slice a la ca)∧w'.cell? ⟨w.heap.size+1,1,none⟩=some (.slice b lb cb)∧w'.cell? ⟨w.heap.size,0,none⟩=some (.bool s)) (refine⟨?_,?_,?_⟩<;>(first|(go_keep;done)|((repeat rw[J9 (by omega)]);simp[*];done)))
  (first
   |(go_at_call 132;refine(O3 _ _ _ _ _ _ m n _ ?_ ?_ hma hmb).mono ?_;exact ra.below Qa.drew;exact rb.below Qa.drew;rintro e w1 ⟨u,rfl,hu,hb1⟩;obtain⟨a',c',rfl⟩:=hu.form;have b0:=b0.drew.below hb1;have b1:=b1.drew.below hb1;have bR:=bR.drew.below hb1;have Qa:=Bt Qa.drew hb1;have k0:=b0.c1;have k1:=b0.c0;have k2:=b1.c1)
   |(go_at_call 72;refine(Kq _ _ _ _ _).mono ?_;rintro e w2 ⟨rfl,hb2⟩;have hu:=Row.below hu hb2;have b0:=b0.below hb2;have b1:=b1.below hb2;have bR:=bR.below hb2;have Qa:=Bt Qa hb2;have k0:=b0.c1;have k1:=b0.c0;have k2:=b1.c1;obtain⟨r0,r1⟩:=bR.cp;obtain⟨f0,f1⟩:=bR.fp))
 all_goals go_wp2_with fail
 obtain⟨hr,hB2⟩:=Hg (.bool (s&&decide (0<(Ji O (m+n)).length))) (.slice a' (Ji O (m+n)).length c') Qa (by omega) bR rfl rfl hu;exact BB (v:=.agg #[.bool (s&&decide (0<(Ji O (m+n)).length)),.slice a' (Ji O (m+n)).length c']) (by simp[results,Tryz.results83,go_sem,r0,r1]) rfl ⟨_,_,_,rfl,hr,hB2⟩
theorem UK(a b:Option Addr)(la lb ca cb m n:Nat)(s:Bool)(w:World)(ra:UN w (.slice a la ca) m)(rb:UN w (.slice b lb cb) n)(hmn:n≤m):
 Calls Tryz.prog 83 #[.agg #[.bool s,.slice a la ca],.agg #[.bool (!s),.slice b lb cb]] w fun e w'=>∃c lc cc,e=.returned (.agg #[.bool (s&&decide (0<lc)),.slice c lc cc])∧UN w' (.slice c lc cc) (m-n)∧Bl w w':=by
 have ne2:¬(w.heap.size=w.heap.size+1+1):=by omega
 have hs:(s == !s)=false:=by cases s<;>rfl
 have hcmp:=TH hmn;have HC:Hid (n≤m):=hmn;clear hmn;have Qa:=Hh w (.cells #[.bool s,.slice a la ca] 35) (.cells #[.bool (!s),.slice b lb cb] 35) (.cells #[.bool false,.slice none 0 0] 35);have b0:=((Jo.new w 35 (.bool s) (.slice a la ca)).alloc (.cells #[.bool (!s),.slice b lb cb] 35)).alloc (.cells #[.bool false,.slice none 0 0] 35);have b1:=(Jo.new (w.alloc (.cells #[.bool s,.slice a la ca] 35)) 35 (.bool (!s)) (.slice b lb cb)).alloc (.cells #[.bool false,.slice none 0 0] 35);have bR:=Jo.new ((w.alloc (.cells #[.bool s,.slice a la ca] 35)).alloc (.cells #[.bool (!s),.slice b lb cb] 35)) 35 (.bool false) (.slice none 0 0);simp only[BA]at b1 bR;go_enter Tryz.func83,Tryz.ntmps83
 go_wp2_with(first
  |(go_at_call 126;refine(K5 _ _ m n _ ?_ ?_).mono ?_;exact ra.below Qa;exact rb.below Qa;rintro e w0 ⟨rfl,hb0⟩;have b0:=b0.below hb0;have b1:=b1.below hb0;have bR:=bR.below hb0;have Qa:=Bt Qa hb0;have k0:=b0.c1;have k1:=b0.c0;have k2:=b1.c1))
 go_region_held3 (fun w'=>w'.cell? ⟨w.heap.size,1,none⟩=some (.slice a la ca)∧w'.cell? ⟨w.heap.size+1,1,none⟩=some (.slice b lb cb)∧w'.cell? ⟨w.heap.size,0,none⟩=some (.bool s)) (refine⟨?_,?_,?_⟩<;>(first|(go_keep;done)|((repeat rw[J9 (by omega)]);simp[*];done)))
  (first
   |(go_at_call 133;refine(Md _ _ _ _ _ _ m n _ ?_ ?_ HC.o).mono ?_;exact ra.below Qa.drew;exact rb.below Qa.drew;rintro e w1 ⟨u,rfl,hu,hb1⟩;obtain⟨a',c',rfl⟩:=hu.form;have b0:=b0.drew.below hb1;have b1:=b1.drew.below hb1;have bR:=bR.drew.below hb1;have Qa:=Bt Qa.drew hb1;have k0:=b0.c1;have k1:=b0.c0;have k2:=b1.c1)
   |(go_at_call 72;refine(Kq _ _ _ _ _).mono ?_;rintro e w2 ⟨rfl,hb2⟩;have hu:=Row.below hu hb2;have b0:=b0.below hb2;have b1:=b1.below hb2;have bR:=bR.below hb2;have Qa:=Bt Qa hb2;have k0:=b0.c1;have k1:=b0.c0;have k2:=b1.c1;obtain⟨r0,r1⟩:=bR.cp;obtain⟨f0,f1⟩:=bR.fp))
 all_goals go_wp2_with fail
 obtain⟨hr,hB2⟩:=Hg (.bool (s&&decide (0<(Ji O (m-n)).length))) (.slice a' (Ji O (m-n)).length c') Qa (by omega) bR rfl rfl hu;exact BB (v:=.agg #[.bool (s&&decide (0<(Ji O (m-n)).length)),.slice a' (Ji O (m-n)).length c']) (by simp[results,Tryz.results83,go_sem,r0,r1]) rfl ⟨_,_,_,rfl,hr,hB2⟩
theorem UL(a b:Option Addr)(la lb ca cb m n:Nat)(s:Bool)(w:World)(ra:UN w (.slice a la ca) m)(rb:UN w (.slice b lb cb) n)(hmn:m<n):
 Calls Tryz.prog 83 #[.agg #[.bool s,.slice a la ca],.agg #[.bool (!s),.slice b lb cb]] w fun e w'=>∃c lc cc,e=.returned (.agg #[.bool ((!s)&&decide (0<lc)),.slice c lc cc])∧UN w' (.slice c lc cc) (n-m)∧Bl w w':=by
 have ne2:¬(w.heap.size=w.heap.size+1+1):=by omega
 have hs:(s == !s)=false:=by cases s<;>rfl
 have hcmp:XK m n<0:=by rw[Hd hmn];omega
 have HC:Hid (m<n):=hmn;clear hmn;have Qa:=Hh w (.cells #[.bool s,.slice a la ca] 35) (.cells #[.bool (!s),.slice b lb cb] 35) (.cells #[.bool false,.slice none 0 0] 35);have b0:=((Jo.new w 35 (.bool s) (.slice a la ca)).alloc (.cells #[.bool (!s),.slice b lb cb] 35)).alloc (.cells #[.bool false,.slice none 0 0] 35);have b1:=(Jo.new (w.alloc (.cells #[.bool s,.slice a la ca] 35)) 35 (.bool (!s)) (.slice b lb cb)).alloc (.cells #[.bool false,.slice none 0 0] 35);have bR:=Jo.new ((w.alloc (.cells #[.bool s,.slice a la ca] 35)).alloc (.cells #[.bool (!s),.slice b lb cb] 35)) 35 (.bool false) (.slice none 0 0);simp only[BA]at b1 bR;go_enter Tryz.func83,Tryz.ntmps83
 go_wp2_with(first
  |(go_at_call 126;refine(K5 _ _ m n _ ?_ ?_).mono ?_;exact ra.below Qa;exact rb.below Qa;rintro e w0 ⟨rfl,hb0⟩;have b0:=b0.below hb0;have b1:=b1.below hb0;have bR:=bR.below hb0;have Qa:=Bt Qa hb0;have k0:=b0.c1;obtain⟨k1,k2⟩:=b1.cp))
 go_region_held3 (fun w'=>w'.cell? ⟨w.heap.size,1,none⟩=some (.slice a la ca)∧w'.cell? ⟨w.heap.size+1,1,none⟩=some (.slice b lb cb)∧w'.cell? ⟨w.heap.size+1,0,none⟩=some (.bool (!s))) (refine⟨?_,?_,?_⟩<;>(first|(go_keep;done)|((repeat rw[J9 (by omega)]);simp[*];done)))
  (first
   |(go_at_call 133;refine(Md _ _ _ _ _ _ n m _ ?_ ?_ (Nat.le_of_lt HC.o)).mono ?_;exact rb.below Qa.drew;exact ra.below Qa.drew;rintro e w1 ⟨u,rfl,hu,hb1⟩;obtain⟨a',c',rfl⟩:=hu.form;have b0:=b0.drew.below hb1;have b1:=b1.drew.below hb1;have bR:=bR.drew.below hb1;have Qa:=Bt Qa.drew hb1;have k0:=b0.c1;obtain⟨k1,k2⟩:=b1.cp)
   |(go_at_call 72;refine(Kq _ _ _ _ _).mono ?_;rintro e w2 ⟨rfl,hb2⟩;have hu:=Row.below hu hb2;have b0:=b0.below hb2;have b1:=b1.below hb2;have bR:=bR.below hb2;have Qa:=Bt Qa hb2;have k0:=b0.c1;obtain⟨k1,k2⟩:=b1.cp;obtain⟨r0,r1⟩:=bR.cp;obtain⟨f0,f1⟩:=bR.fp))
 all_goals go_wp2_with fail
 obtain⟨hr,hB2⟩:=Hg (.bool ((!s)&&decide (0<(Ji O (n-m)).length))) (.slice a' (Ji O (n-m)).length c') Qa (by omega) bR rfl rfl hu;exact BB (v:=.agg #[.bool ((!s)&&decide (0<(Ji O (n-m)).length)),.slice a' (Ji O (n-m)).length c']) (by simp[results,Tryz.results83,go_sem,r0,r1]) rfl ⟨_,_,_,rfl,hr,hB2⟩
theorem Jk.of{W:World}{s:Bool}{a:Option Addr}{l cap n:Nat}{z:Int}(h:UN W (.slice a l cap) n)(hz:z=if s then -(n:Int)else n):Jk W (.agg #[.bool (s&&decide (0<l)),.slice a l cap]) z:=by
 have hl:=h.len;subst hz;refine⟨a,l,cap,Ou ?_,?_⟩
 · rw[hl,C3];simp only[Co,DA];rw[Ot];cases s
   · simp
   · simp;omega
 · have e:(if s then -(n:Int)else n).natAbs=n:=by cases s<;>simp
   rw[e];exact h
theorem Mj(va vb:Value)(x y:Int)(w:World)(hx:Jk w va x)(hy:Jk w vb y)(hlx:(Ji O x.natAbs).length<1099511627776)(hly:(Ji O y.natAbs).length<1099511627776):
 Calls Tryz.prog 83 #[va,vb] w fun e w'=>∃u,e=.returned u∧Jk w' u (x+y)∧Bl w w':=by
 obtain⟨a,la,ca,rfl,hu⟩:=hx;obtain⟨b,lb,cb,rfl,hv⟩:=hy;have ela:=hu.len;have elb:=hv.len;by_cases hs:decide (y<0)=decide (x<0)
 · rw[hs];refine(UJ a b la lb ca cb _ _ _ w hu hv (by omega) (by omega)).mono ?_;rintro e w' ⟨c,lc,cc,rfl,hr,hB⟩;refine⟨_,rfl,Jk.of hr ?_,hB⟩;by_cases h1:x<0
   · have h2:y<0:=by have:=decide_eq_true h1;rw[←hs]at this;exact Bo this
     simp only[h1,decide_true,if_true];omega
   · have h2:¬y<0:=by have:=decide_eq_false h1;rw[←hs]at this;exact of_decide_eq_false this
     simp only[h1,decide_false,Cu,if_false];omega
 · have hs':decide (y<0)=!decide (x<0):=by
    revert hs;cases decide (y<0)<;>cases decide (x<0)<;>simp
   rw[hs'];by_cases hmn:y.natAbs≤x.natAbs
   · refine(UK a b la lb ca cb _ _ _ w hu hv hmn).mono ?_;rintro e w' ⟨c,lc,cc,rfl,hr,hB⟩;refine⟨_,rfl,Jk.of hr ?_,hB⟩;by_cases h1:x<0
     · have h2:¬y<0:=by rw[decide_eq_true h1]at hs';exact of_decide_eq_false hs'
       simp only[h1,decide_true,if_true];omega
     · have h2:y<0:=by rw[decide_eq_false h1]at hs';exact Bo hs'
       simp only[h1,decide_false,Cu,if_false];omega
   · refine(UL a b la lb ca cb _ _ _ w hu hv (by omega)).mono ?_;rintro e w' ⟨c,lc,cc,rfl,hr,hB⟩;refine⟨_,rfl,Jk.of hr ?_,hB⟩;by_cases h1:x<0
     · have h2:¬y<0:=by rw[decide_eq_true h1]at hs';exact of_decide_eq_false hs'
       simp only[h1,decide_true,Bool.not_true,Cu,if_false];omega
     · have h2:y<0:=by rw[decide_eq_false h1]at hs';exact Bo hs'
       simp only[h1,decide_false,Bool.not_false,if_true];omega
def XR(x y:Int):Int:=if x<y then -1 else if y<x then 1 else 0
theorem Mk(w:World)(o1 o2:Obj):Bl w ((w.alloc o1).alloc o2):=
 (Ba w _).alloc (by simp) _
theorem UM(a b:Option Addr)(la lb ca cb m n:Nat)(s t:Bool)(w:World)(ra:UN w (.slice a la ca) m)(rb:UN w (.slice b lb cb) n):
 Calls Tryz.prog 64 #[.agg #[.bool s,.slice a la ca],.agg #[.bool t,.slice b lb cb]] w fun e w'=>e=.returned (.int .i64 (if s=t then(if s then XK n m else XK m n)else(if t then 1 else -1)))∧Bl w w':=by
 have Qa:=Mk w (.cells #[.bool s,.slice a la ca] 35) (.cells #[.bool t,.slice b lb cb] 35);have b0:=(Jo.new w 35 (.bool s) (.slice a la ca)).alloc (.cells #[.bool t,.slice b lb cb] 35);have b1:=Jo.new (w.alloc (.cells #[.bool s,.slice a la ca] 35)) 35 (.bool t) (.slice b lb cb);simp only[BA]at b1;cases s<;>cases t
 all_goals
  go_enter Tryz.func64,Tryz.ntmps64
  go_wp2_with(first
   |(go_at_call 126;refine(K5 _ _ n m _ ?_ ?_).mono ?_;exact rb.below Qa;exact ra.below Qa;rintro e w0 ⟨rfl,hb0⟩)
   |(go_at_call 126;refine(K5 _ _ m n _ ?_ ?_).mono ?_;exact ra.below Qa;exact rb.below Qa;rintro e w0 ⟨rfl,hb0⟩)
   |(go_at_call 125;refine(MR _ _).mono ?_;rintro e w0 ⟨rfl,rfl⟩))
  go_ret;first
   |exact⟨rfl,Bt Qa hb0⟩
   |exact⟨rfl,Qa⟩
theorem Hp(va vb:Value)(x y:Int)(w:World)(hx:Jk w va x)(hy:Jk w vb y):
 Calls Tryz.prog 64 #[va,vb] w fun e w'=>e=.returned (.int .i64 (XR x y))∧Bl w w':=by
 obtain⟨a,la,ca,rfl,hu⟩:=hx;obtain⟨b,lb,cb,rfl,hv⟩:=hy;refine(UM a b la lb ca cb _ _ _ _ w hu hv).mono ?_;rintro e w' ⟨rfl,hB⟩;refine⟨?_,hB⟩;congr 2;unfold XR XK;by_cases h1:x<0<;>by_cases h2:y<0<;>simp only[h1,h2,decide_true,decide_false,if_true,if_false,Cu,reduceCtorEq]
 all_goals(repeat' split)<;>omega
