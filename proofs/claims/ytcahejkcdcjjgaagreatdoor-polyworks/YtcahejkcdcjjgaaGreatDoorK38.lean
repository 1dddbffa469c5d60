import Derived.Test.YtcahejkcdcjjgaaGreatDoorK37
import Derived.Test.YtcahejkcdcjjgaaGreatDoorK25
import Derived.Test.YtcahejkcdcjjgaaGreatDoorK29
set_option maxRecDepth 100000
set_option maxHeartbeats 16000000
namespace Go.Proofs.YtcahejkcdcjjgaaGreatDoor
open Go.RowKit Go.Shelf
attribute [local go_sem] Oper.semAt_some
def Xz(l:List UInt8)(w:World)(e:Ending)(w':World):Prop:=∃u,e=.returned (.tuple #[u,.bool (YV l).isSome])∧Ji w' u (Jhg l)∧Below w.heap.size w w'
theorem Xz.of{l:List UInt8}{w w':World}{u:Value}{o:Option Rat}(h:YV l=o){b:Bool}(hb:o.isSome=b)(hu:Ji w' u (o.getD 0))(hB:Below w.heap.size w w'):Xz l w (.returned (.tuple #[u,.bool b])) w':=
 ⟨u,by rw[h,hb],by unfold Jhg;rw[h];exact hu,hB⟩
theorem Jtm(s:ByteArray)(h0:2000<s.size)(w:World):Calls Tryz.prog 63 #[.string s] w (Xz (Jd s) w):=by
 have HL:=Ja (Jtl (l:=Jd s) (by have:=JD s;omega));have h1:(2000:Int)<(s.size:Int):=by omega
 have M0:=((Mem.nil w).push (.rat 0) (Jcn _));have M0:Mem w (w.alloc (.cells #[.bool false,.slice none 0 0,.bool false,.slice none 0 0] 38)) [some (w.heap.size,.rat (0))]:=M0;obtain⟨W0,hW0⟩:=ex (w.alloc (.cells #[.bool false,.slice none 0 0,.bool false,.slice none 0 0] 38));have Qa:=Ja hW0;rw[hW0]at M0;have M1:Hid (Mem w W0 [some (w.heap.size,.rat (0))]):=Ja M0;clear M0 hW0;go_enter Tryz.func63,Tryz.ntmps63
 go_upto_region 1 with fail
 rw[Qa.o];clear Qa;obtain⟨s1,a1,l1,c1,t1,b1,k1,d1,n1,r1,i1,j1⟩:=M1.o.rat (i:=0) rfl;have Qg:=n1.c0;have Qd:=n1.c1;have Qe:=n1.c2;have Qb:=n1.c3;have f1a:=n1.f0;have f1b:=n1.f1;have f1c:=n1.f2;have f1d:=n1.f3;have hq:Below W0.heap.size W0 W0:=Below.refl _ _;go_wp2_with fail
 have Qc:=M1.o.2.2.trans (hq.mono M1.o.2.2.size);have Qf:=M1.o.ge 0 rfl;exact bodyPost_ret (v:=.tuple #[.agg #[.bool false,.slice none 0 0,.bool false,.slice none 0 0],.bool false]) (by simp[results,Tryz.results63,go_sem,Qg,Qd,Qe,Qb]) rfl (Xz.of (o:=none) HL.o rfl ((Jcn _).put4 (n1.below hq) rfl rfl rfl rfl _ _ _ _) (Jt Qc Qf _ _ _ _))
theorem Jtn(s:ByteArray)(h0:s.size≤2000)(hs:JS (Jd s)=(Jd s).length)(w:World):Calls Tryz.prog 63 #[.string s] w (Xz (Jd s) w):=by
 have hl:=JD s;have HL:=Ja (Jlb (l:=Jd s) (by omega) hs);have HC:=Ja (fun(V:World)=>Jtk s (by rcases Jcv (Jd s)with⟨h,_⟩|⟨_,h⟩;{omega};{exact h}) V);have HP:=Ja (fun(V:World)=>Jhi s (by omega) V);obtain⟨zv,hzv⟩:=ex (Jhh (Jd s));obtain⟨ok,hok⟩:=ex (good (Jd s));rw[hzv,hok]at HP;have HE:=Ja (show(ok=true→Yz (Jd s)=zv)∧(ok=false→zv=0)by rw[←hok,←hzv];unfold Jhh;exact⟨fun h=>by rw[if_pos h],fun h=>by rw[h];simp⟩);rw[hok]at HL;have h1:¬((2000:Int)<(s.size:Int)):=by omega
 clear hl hs hzv hok h0;have M0:=((Mem.nil w).push (.rat 0) (Jcn _));have M0:Mem w (w.alloc (.cells #[.bool false,.slice none 0 0,.bool false,.slice none 0 0] 38)) [some (w.heap.size,.rat (0))]:=M0;obtain⟨W0,hW0⟩:=ex (w.alloc (.cells #[.bool false,.slice none 0 0,.bool false,.slice none 0 0] 38));have Qf:=Ja hW0;rw[hW0]at M0;have M1:Hid (Mem w W0 [some (w.heap.size,.rat (0))]):=Ja M0;clear M0 hW0;go_enter Tryz.func63,Tryz.ntmps63
 go_upto_region 1 with fail
 rw[Qf.o];clear Qf;go_upto_region 5 with(first
  |(go_at_call 102;refine(HC.o _).mono ?_;clear HC;rintro e w1 ⟨rfl,hb1⟩)
  |(go_at_call 103;refine(HP.o _).mono ?_;clear HP;rintro e w2 ⟨u,rfl,hu,hb2⟩;obtain⟨s90,a90,l90,c90,rfl⟩:=Jj.form2 hu))
 obtain⟨V1,hV⟩:=ex (w2.alloc (.cells #[.bool s90,.slice a90 l90 c90] 36));obtain⟨B1,hBk⟩:=ex (w2.heap.size);have MM:Mem w (w2.alloc (.cells #[.bool s90,.slice a90 l90 c90] 36)) [some (w.heap.size,.rat (0)),some (w2.heap.size,.int (zv))]:=Mem.push ((M1.o.below hb1).below hb2) (.int (zv)) hu;rw[hV,hBk]at MM;rw[hV];rw[hBk];have M2:Hid (Mem w V1 [some (w.heap.size,.rat (0)),some (B1,.int (zv))]):=Ja (MM);clear M1;clear MM hV hBk;clear hu hb1 hb2;obtain⟨s2,a2,l2,c2,n2,i2⟩:=M2.o.int (i:=1) rfl;have e2a:=n2.c0;have e2b:=n2.c1;obtain⟨s3,a3,l3,c3,t3,b3,k3,d3,n3,r3,i3,j3⟩:=M2.o.rat (i:=0) rfl;have Qd:=n3.c0;have Qb:=n3.c1;have Qc:=n3.c2;have Qg:=n3.c3;have f3a:=n3.f0;have f3b:=n3.f1;have f3c:=n3.f2;have f3d:=n3.f3;have Qe:=M2.o.ge 0 rfl;have hB:=M2.o.2.2;cases ok with
 |true=>
  have hr:Ji V1 (.agg #[.bool s2,.slice a2 l2 c2,.bool false,.slice none 0 0]) ((some ((Yz (Jd s):Int):Rat)).getD 0):=Ji.mk (by show Jj _ _ (Yz (Jd s));rw[HE.o.1 rfl];exact i2) (Jam _);have Qa:=Ja (show YV (Jd s)=some ((Yz (Jd s):Int):Rat)by rw[HL.o];rfl);go_wp2_with fail
  exact bodyPost_ret (v:=.tuple #[.agg #[.bool s2,.slice a2 l2 c2,.bool false,.slice none 0 0],.bool true]) (by simp[results,Tryz.results63,go_sem,Qd,Qb,Qc,Qg]) rfl (Xz.of Qa.o rfl (hr.put4 n3 rfl rfl rfl rfl _ _ _ _) (Jt hB Qe _ _ _ _))
 |false=>
  have hr:Ji V1 (.agg #[.bool s2,.slice a2 l2 c2,.bool false,.slice none 0 0]) ((none:Option Rat).getD 0):=Ji.mk (by show Jj _ _ 0;rw[←HE.o.2 rfl];exact i2) (Jam _);have Qa:=Ja (show YV (Jd s)=none by rw[HL.o];rfl);go_wp2_with fail
  exact bodyPost_ret (v:=.tuple #[.agg #[.bool s2,.slice a2 l2 c2,.bool false,.slice none 0 0],.bool false]) (by simp[results,Tryz.results63,go_sem,Qd,Qb,Qc,Qg]) rfl (Xz.of Qa.o rfl (hr.put4 n3 rfl rfl rfl rfl _ _ _ _) (Jt hB Qe _ _ _ _))
theorem Jto(s:ByteArray)(h0:s.size≤2000)(hs:JS (Jd s)<(Jd s).length)(w:World):Calls Tryz.prog 63 #[.string s] w (Xz (Jd s) w):=by
 have hl:=JD s;have HL:=Ja (Jlc (l:=Jd s) (by omega) hs);obtain⟨k,hk⟩:=ex (JS (Jd s));have HC:=Ja (fun(V:World)=>Jrr s k (by rcases Jcv (Jd s)with⟨_,h⟩|⟨h,_⟩;{rw[←hk];exact h};{omega}) (by omega) h0 V);have Qh:=Ja (fun(V:World)=>Jhi (s.extract 0 k) (by rw[Cp];omega) V);have Qi:=Ja (fun(V:World)=>Jhi (s.extract (k+1) s.size) (by rw[Cp];omega) V);rw[Jpg]at Qh;rw[Jph]at Qi;rw[hk]at HL;obtain⟨lA,hlA⟩:=ex ((Jd s).take k);obtain⟨lB,hlB⟩:=ex ((Jd s).drop (k+1));rw[hlA,hlB]at HL;rw[hlA]at Qh;rw[hlB]at Qi;obtain⟨sA,hsA⟩:=ex (s.extract 0 k);obtain⟨sB,hsB⟩:=ex (s.extract (k+1) s.size);rw[hsA,hsB]at HC;rw[hsA]at Qh;rw[hsB]at Qi;obtain⟨za,hza⟩:=ex (Jhh lA);obtain⟨zb,hzb⟩:=ex (Jhh lB);obtain⟨oa,hoa⟩:=ex (good lA);obtain⟨ob,hob⟩:=ex (good lB);have Qq:=Ja (show Sok za by rw[←hza];exact Jld _);have Qy:=Ja (show Sok zb by rw[←hzb];exact Jld _);have HA:=Ja (show(oa=true→Yz lA=za)∧(oa=false→za=0)by rw[←hoa,←hza];unfold Jhh;exact⟨fun h=>by rw[if_pos h],fun h=>by rw[h];simp⟩);have HB:=Ja (show(ob=true→Yz lB=zb)by rw[←hob,←hzb];unfold Jhh;exact fun h=>by rw[if_pos h]);rw[hza,hoa]at Qh;rw[hzb,hob]at Qi;rw[hoa,hob]at HL;have h1:¬((2000:Int)<(s.size:Int)):=by omega
 clear hl hs hk hlA hlB hsA hsB hza hzb hoa hob h0;have M0:=((Mem.nil w).push (.rat 0) (Jcn _));have M0:Mem w (w.alloc (.cells #[.bool false,.slice none 0 0,.bool false,.slice none 0 0] 38)) [some (w.heap.size,.rat (0))]:=M0;obtain⟨W0,hW0⟩:=ex (w.alloc (.cells #[.bool false,.slice none 0 0,.bool false,.slice none 0 0] 38));have Qn:=Ja hW0;rw[hW0]at M0;have M1:Hid (Mem w W0 [some (w.heap.size,.rat (0))]):=Ja M0;clear M0 hW0;go_enter Tryz.func63,Tryz.ntmps63
 go_upto_region 1 with fail
 rw[Qn.o];clear Qn;go_upto_region 5 with(first
  |(go_at_call 102;refine(HC.o _).mono ?_;clear HC;rintro e w1 ⟨rfl,hb1⟩)
  |(go_at_call 103;refine(Qh.o _).mono ?_;clear Qh;rintro e w2 ⟨u,rfl,hu,hb2⟩;obtain⟨s90,a90,l90,c90,rfl⟩:=Jj.form2 hu))
 obtain⟨V1,hV⟩:=ex (w2.alloc (.cells #[.bool s90,.slice a90 l90 c90] 36));obtain⟨B1,hBk⟩:=ex (w2.heap.size);have MM:Mem w (w2.alloc (.cells #[.bool s90,.slice a90 l90 c90] 36)) [some (w.heap.size,.rat (0)),some (w2.heap.size,.int (za))]:=Mem.push ((M1.o.below hb1).below hb2) (.int (za)) hu;rw[hV,hBk]at MM;rw[hV];rw[hBk];have M2:Hid (Mem w V1 [some (w.heap.size,.rat (0)),some (B1,.int (za))]):=Ja (MM);clear M1;clear MM hV hBk;clear hu hb1 hb2;cases oa with
 |false=>
  obtain⟨s2,a2,l2,c2,n2,i2⟩:=M2.o.int (i:=1) rfl;have e2a:=n2.c0;have e2b:=n2.c1;obtain⟨s3,a3,l3,c3,t3,b3,k3,d3,n3,r3,i3,j3⟩:=M2.o.rat (i:=0) rfl;have Qs:=n3.c0;have Qx:=n3.c1;have Qv:=n3.c2;have Qw:=n3.c3;have f3a:=n3.f0;have f3b:=n3.f1;have f3c:=n3.f2;have f3d:=n3.f3;have Qa:=M2.o.ge 0 rfl;have hB:=M2.o.2.2;have hr:Ji V1 (.agg #[.bool s2,.slice a2 l2 c2,.bool false,.slice none 0 0]) ((none:Option Rat).getD 0):=Ji.mk (by show Jj _ _ 0;rw[←HA.o.2 rfl];exact i2) (Jam _);have Qb:=Ja (show YV (Jd s)=none by rw[HL.o];simp);go_wp2_with fail
  exact bodyPost_ret (v:=.tuple #[.agg #[.bool s2,.slice a2 l2 c2,.bool false,.slice none 0 0],.bool false]) (by simp[results,Tryz.results63,go_sem,Qs,Qx,Qv,Qw]) rfl (Xz.of Qb.o rfl (hr.put4 n3 rfl rfl rfl rfl _ _ _ _) (Jt hB Qa _ _ _ _))
 |true=>
  go_upto_region 8 with(go_at_call 103;refine(Qi.o _).mono ?_;clear Qi;rintro e w3 ⟨u,rfl,hu,hb3⟩;obtain⟨s91,a91,l91,c91,rfl⟩:=Jj.form2 hu)
  obtain⟨V4,hV⟩:=ex (w3.alloc (.cells #[.bool s91,.slice a91 l91 c91] 36));obtain⟨B4,hBk⟩:=ex (w3.heap.size);have MM:Mem w (w3.alloc (.cells #[.bool s91,.slice a91 l91 c91] 36)) [some (w.heap.size,.rat (0)),some (B1,.int (za)),some (w3.heap.size,.int (zb))]:=Mem.push (M2.o.below hb3) (.int (zb)) hu;rw[hV,hBk]at MM;rw[hV];rw[hBk];have M3:Hid (Mem w V4 [some (w.heap.size,.rat (0)),some (B1,.int (za)),some (B4,.int (zb))]):=Ja (MM);clear M2;clear MM hV hBk;clear hu hb3;obtain⟨s5,a5,l5,c5,n5,i5⟩:=M3.o.int (i:=1) rfl;have Qt:=n5.c0;have Qu:=n5.c1;obtain⟨s6,a6,l6,c6,n6,i6⟩:=M3.o.int (i:=2) rfl;have Qp:=n6.c0;have Qr:=n6.c1;obtain⟨s7,a7,l7,c7,t7,b7,k7,d7,n7,r7,i7,j7⟩:=M3.o.rat (i:=0) rfl;have Qf:=n7.c0;have Qg:=n7.c1;have Qe:=n7.c2;have Qc:=n7.c3;have Ql:=n7.f0;have Qm:=n7.f1;have Qj:=n7.f2;have Qk:=n7.f3;have Qa:=M3.o.ge 0 rfl;have hB:=M3.o.2.2;have Qo:Below V4.heap.size V4 V4:=Below.refl _ _;have HO:=Ja (Jag _ _ zb 0 V4 i6 (Jam _));cases ob with
  |false=>
   have Qb:=Ja (show YV (Jd s)=none by rw[HL.o];simp);clear HO;go_wp2_with fail
   have Qd:=M3.o.2.2.trans (Qo.mono M3.o.2.2.size);have Qa:=M3.o.ge 0 rfl;exact bodyPost_ret (v:=.tuple #[.agg #[.bool false,.slice none 0 0,.bool false,.slice none 0 0],.bool false]) (by simp[results,Tryz.results63,go_sem,Qf,Qg,Qe,Qc]) rfl (Xz.of (o:=none) Qb.o rfl ((Jcn _).put4 (n7.below Qo) rfl rfl rfl rfl _ _ _ _) (Jt Qd Qa _ _ _ _))
  |true=>
   by_cases hz:0<zb
   · have HZ:=Ja hz;have Qb:=Ja (show YV (Jd s)=some (Rat.divInt za zb)by rw[HL.o,HA.o.1 (by first|rfl|trivial),HB.o (by first|rfl|trivial),if_pos (by first|exact⟨rfl,rfl,hz⟩|exact⟨trivial,rfl,hz⟩|exact⟨trivial,trivial,hz⟩)]);rw[show Jal zb 0=1 from by unfold Jal;rw[if_neg (by omega),if_pos hz]]at HO;clear hz;have HR:=Ja (fun(V:World) (h:Below V4.heap.size V4 V)=>Jii _ _ za zb V (i5.below h) (i6.below h) (by have:=HZ.o;omega) Qq.o Qy.o);go_wp2_with(first
      |(go_at_call 87;refine HO.o.mono ?_;clear HO;rintro e w4 ⟨rfl,hq⟩;have Qt:=(n5.below hq).c0;have Qu:=(n5.below hq).c1;have Qp:=(n6.below hq).c0;have Qr:=(n6.below hq).c1)
      |(go_at_call 104;refine(HR.o _ hq).mono ?_;clear HR;rintro e w5 ⟨u5,rfl,hu5,hb5⟩;obtain⟨s92,a92,l92,c92,t92,b92,k92,d92,rfl⟩:=Ji.form hu5;have hq:=Below.then hq hb5;have Qf:=(n7.below hq).c0;have Qg:=(n7.below hq).c1;have Qe:=(n7.below hq).c2;have Qc:=(n7.below hq).c3;have Ql:=(n7.below hq).f0;have Qm:=(n7.below hq).f1;have Qj:=(n7.below hq).f2;have Qk:=(n7.below hq).f3))
     have Qd:=hB.trans (hq.mono hB.size);exact bodyPost_ret (v:=.tuple #[.agg #[.bool s92,.slice a92 l92 c92,.bool t92,.slice b92 k92 d92],.bool true]) (by simp[results,Tryz.results63,go_sem,Qf,Qg,Qe,Qc]) rfl (Xz.of Qb.o rfl (hu5.put4 (n7.below hq) rfl rfl rfl rfl _ _ _ _) (Jt Qd Qa _ _ _ _))
   · have Qb:=Ja (show YV (Jd s)=none by rw[HL.o,HB.o (by first|rfl|trivial),if_neg (fun h=>hz h.2.2)]);rcases Int.lt_or_eq_of_le (show zb≤0 by omega)with hz1|hz1
     · rw[show Jal zb 0=-1 from by unfold Jal;rw[if_pos hz1]]at HO;clear hz1 hz;go_wp2_with(go_at_call 87;refine HO.o.mono ?_;clear HO;rintro e w4 ⟨rfl,hq⟩;have Qf:=(n7.below hq).c0;have Qg:=(n7.below hq).c1;have Qe:=(n7.below hq).c2;have Qc:=(n7.below hq).c3;have Ql:=(n7.below hq).f0;have Qm:=(n7.below hq).f1;have Qj:=(n7.below hq).f2;have Qk:=(n7.below hq).f3)
       have Qd:=M3.o.2.2.trans (hq.mono M3.o.2.2.size);have Qa:=M3.o.ge 0 rfl;exact bodyPost_ret (v:=.tuple #[.agg #[.bool false,.slice none 0 0,.bool false,.slice none 0 0],.bool false]) (by simp[results,Tryz.results63,go_sem,Qf,Qg,Qe,Qc]) rfl (Xz.of (o:=none) Qb.o rfl ((Jcn _).put4 (n7.below hq) rfl rfl rfl rfl _ _ _ _) (Jt Qd Qa _ _ _ _))
     · rw[show Jal zb 0=0 from by unfold Jal;rw[if_neg (by omega),if_neg (by omega)]]at HO;clear hz1 hz;go_wp2_with(go_at_call 87;refine HO.o.mono ?_;clear HO;rintro e w4 ⟨rfl,hq⟩;have Qf:=(n7.below hq).c0;have Qg:=(n7.below hq).c1;have Qe:=(n7.below hq).c2;have Qc:=(n7.below hq).c3;have Ql:=(n7.below hq).f0;have Qm:=(n7.below hq).f1;have Qj:=(n7.below hq).f2;have Qk:=(n7.below hq).f3)
       have Qd:=M3.o.2.2.trans (hq.mono M3.o.2.2.size);have Qa:=M3.o.ge 0 rfl;exact bodyPost_ret (v:=.tuple #[.agg #[.bool false,.slice none 0 0,.bool false,.slice none 0 0],.bool false]) (by simp[results,Tryz.results63,go_sem,Qf,Qg,Qe,Qc]) rfl (Xz.of (o:=none) Qb.o rfl ((Jcn _).put4 (n7.below hq) rfl rfl rfl rfl _ _ _ _) (Jt Qd Qa _ _ _ _))
theorem Jle(s:ByteArray)(w:World):Calls Tryz.prog 63 #[.string s] w (Xz (Jd s) w):=by
 have hl:=JD s;rcases AC 2000 s.size with h|h
 · exact Jtm s h w
 · rcases Jcv (Jd s)with⟨h1,_⟩|⟨h1,_⟩
   · exact Jto s h h1 w
   · exact Jtn s h h1 w
end Go.Proofs.YtcahejkcdcjjgaaGreatDoor
namespace Go.Proofs.YtcahejkcdcjjgaaGreatDoor
open Go.RowKit Go.Shelf
