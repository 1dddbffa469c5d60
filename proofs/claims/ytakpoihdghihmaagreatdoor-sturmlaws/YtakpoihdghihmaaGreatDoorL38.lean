import Derived.Test.YtakpoihdghihmaaGreatDoorL37
import Derived.Test.YtakpoihdghihmaaGreatDoorL28
import Derived.Test.YtakpoihdghihmaaGreatDoorL24
import Derived.Lib.BitFns
set_option maxRecDepth 100000
set_option maxHeartbeats 16000000
namespace Go.Proofs.YtakpoihdghihmaaGreatDoor
open Go.RowKit Go.Shelf
section
attribute [local go_sem] Oper.semAt_some
def Xy(l:List UInt8)(w:World)(e:Ending)(w':World):Prop:=∃u,e=.returned (.tuple #[u,.bool (Xg l).isSome])∧Jg w' u (Ei l)∧Bl w w'
theorem Xy.of{l:List UInt8}{w w':World}{u:Value}{o:Option Rat}(h:Xg l=o){b:Bool}(hb:o.isSome=b)(hu:Jg w' u (o.getD 0))(hB:Bl w w'):Xy l w (.returned (.tuple #[u,.bool b])) w':=
 ⟨u,by rw[h,hb],by unfold Ei;rw[h];exact hu,hB⟩
theorem aB(s:ByteArray)(h0:2000<s.size)(w:World):Calls Tryz.prog 24 #[.string s] w (Xy (Jj s) w):=by
 have HL:=Ja (QF (l:=Jj s) (by have:=JA s;omega));have h1:(2000:Int)<(s.size:Int):=by omega
 have M0:=((Mem.nil w).push (.rat 0) (Xn _));have M0:Mem w (w.alloc (.cells #[.bool false,.slice none 0 0,.bool false,.slice none 0 0] 37)) [some (w.heap.size,.rat (0))]:=M0;obtain⟨W0,hW0⟩:=ex (w.alloc (.cells #[.bool false,.slice none 0 0,.bool false,.slice none 0 0] 37));have Qa:=Ja hW0;rw[hW0]at M0;have M1:Hid (Mem w W0 [some (w.heap.size,.rat (0))]):=Ja M0;clear M0 hW0;go_enter Tryz.func24,Tryz.ntmps24
 go_upto_region 1 with fail
 rw[Qa.o];clear Qa;obtain⟨s1,a1,l1,c1,t1,b1,k1,d1,n1,r1,i1,j1⟩:=M1.o.rat (i:=0) rfl;obtain⟨Qg,Qc,Qd,Qe⟩:=n1.cq;obtain⟨f1a,f1b,f1c,f1d⟩:=n1.fq;have hq:Bl W0 W0:=BG _ _;go_wp2_with fail
 have Qf:=Bt M1.o.2.2 hq;have Qb:=M1.o.ge 0 rfl;exact BB (v:=.tuple #[.agg #[.bool false,.slice none 0 0,.bool false,.slice none 0 0],.bool false]) (by simp[results,Tryz.results24,go_sem,Qg,Qc,Qd,Qe]) rfl (Xy.of (o:=none) HL.o rfl ((Xn _).put4 (n1.below hq) rfl rfl rfl rfl _ _ _ _) (Jr Qf Qb _ _ _ _))
theorem aC(s:ByteArray)(h0:s.size≤2000)(hs:JT (Jj s)=(Jj s).length)(w:World):Calls Tryz.prog 24 #[.string s] w (Xy (Jj s) w):=by
 have hl:=JA s;obtain⟨HL,HC,HP⟩:=Dg (NT (l:=Jj s) (by omega) hs) (fun(V:World)=>Z7 s (by rcases LO (Jj s)with⟨h,_⟩|⟨_,h⟩;{omega};{exact h}) V) (fun(V:World)=>NW s (by omega) V);obtain⟨zv,hzv⟩:=ex (GC (Jj s));obtain⟨ok,hok⟩:=ex (good (Jj s));rw[hzv,hok]at HP;have HE:=Ja (show(ok=true→Y9 (Jj s)=zv)∧(ok=false→zv=0)by rw[←hok,←hzv];unfold GC;exact⟨fun h=>by rw[BH h],fun h=>by rw[h];simp⟩);rw[hok]at HL;have h1:¬((2000:Int)<(s.size:Int)):=by omega
 clear hl hs hzv hok h0;have M0:=((Mem.nil w).push (.rat 0) (Xn _));have M0:Mem w (w.alloc (.cells #[.bool false,.slice none 0 0,.bool false,.slice none 0 0] 37)) [some (w.heap.size,.rat (0))]:=M0;obtain⟨W0,hW0⟩:=ex (w.alloc (.cells #[.bool false,.slice none 0 0,.bool false,.slice none 0 0] 37));have Qd:=Ja hW0;rw[hW0]at M0;have M1:Hid (Mem w W0 [some (w.heap.size,.rat (0))]):=Ja M0;clear M0 hW0;go_enter Tryz.func24,Tryz.ntmps24
 go_upto_region 1 with fail
 rw[Qd.o];clear Qd;go_upto_region 5 with(first
  |(go_at_call 62;refine(HC.o _).mono ?_;clear HC;rintro e w1 ⟨rfl,hb1⟩)
  |(go_at_call 63;refine(HP.o _).mono ?_;clear HP;rintro e w2 ⟨u,rfl,hu,hb2⟩;obtain⟨s90,a90,l90,c90,rfl⟩:=Jk.form2 hu))
 obtain⟨V1,hV⟩:=ex (w2.alloc (.cells #[.bool s90,.slice a90 l90 c90] 35));obtain⟨B1,hBk⟩:=ex (w2.heap.size);have MM:Mem w (w2.alloc (.cells #[.bool s90,.slice a90 l90 c90] 35)) [some (w.heap.size,.rat (0)),some (w2.heap.size,.int (zv))]:=Mem.push ((M1.o.below hb1).below hb2) (.int (zv)) hu;rw[hV,hBk]at MM;rw[hV];rw[hBk];have M2:Hid (Mem w V1 [some (w.heap.size,.rat (0)),some (B1,.int (zv))]):=Ja (MM);clear M1;clear MM hV hBk;clear hu hb1 hb2;obtain⟨s2,a2,l2,c2,n2,i2⟩:=M2.o.int (i:=1) rfl;obtain⟨e2a,e2b⟩:=n2.cp;obtain⟨s3,a3,l3,c3,t3,b3,k3,d3,n3,r3,i3,j3⟩:=M2.o.rat (i:=0) rfl;obtain⟨Qf,Qe,Qg,Qc⟩:=n3.cq;obtain⟨f3a,f3b,f3c,f3d⟩:=n3.fq;have Qb:=M2.o.ge 0 rfl;have hB:=M2.o.2.2;cases ok with
 |true=>
  have hr:Jg V1 (.agg #[.bool s2,.slice a2 l2 c2,.bool false,.slice none 0 0]) ((some ((Y9 (Jj s):Int):Rat)).getD 0):=Jg.mk (by show Jk _ _ (Y9 (Jj s));rw[HE.o.1 rfl];exact i2) (X2 _);have Qa:=Ja (show Xg (Jj s)=some ((Y9 (Jj s):Int):Rat)by rw[HL.o];rfl);go_wp2_with fail
  exact BB (v:=.tuple #[.agg #[.bool s2,.slice a2 l2 c2,.bool false,.slice none 0 0],.bool true]) (by simp[results,Tryz.results24,go_sem,Qf,Qe,Qg,Qc]) rfl (Xy.of Qa.o rfl (hr.put4 n3 rfl rfl rfl rfl _ _ _ _) (Jr hB Qb _ _ _ _))
 |false=>
  have hr:Jg V1 (.agg #[.bool s2,.slice a2 l2 c2,.bool false,.slice none 0 0]) ((none:Option Rat).getD 0):=Jg.mk (by show Jk _ _ 0;rw[←HE.o.2 rfl];exact i2) (X2 _);have Qa:=Ja (show Xg (Jj s)=none by rw[HL.o];rfl);go_wp2_with fail
  exact BB (v:=.tuple #[.agg #[.bool s2,.slice a2 l2 c2,.bool false,.slice none 0 0],.bool false]) (by simp[results,Tryz.results24,go_sem,Qf,Qe,Qg,Qc]) rfl (Xy.of Qa.o rfl (hr.put4 n3 rfl rfl rfl rfl _ _ _ _) (Jr hB Qb _ _ _ _))
theorem aD(s:ByteArray)(h0:s.size≤2000)(hs:JT (Jj s)<(Jj s).length)(w:World):Calls Tryz.prog 24 #[.string s] w (Xy (Jj s) w):=by
 have hl:=JA s;have HL:=Ja (NU (l:=Jj s) (by omega) hs);obtain⟨k,hk⟩:=ex (JT (Jj s));obtain⟨HC,Qh,Qi⟩:=Dg (fun(V:World)=>Z6 s k (by rcases LO (Jj s)with⟨_,h⟩|⟨h,_⟩;{rw[←hk];exact h};{omega}) (by omega) h0 V) (fun(V:World)=>NW (s.extract 0 k) (by rw[Cr];omega) V) (fun(V:World)=>NW (s.extract (k+1) s.size) (by rw[Cr];omega) V);rw[Z9]at Qh;rw[aA]at Qi;rw[hk]at HL;obtain⟨lA,hlA⟩:=ex ((Jj s).take k);obtain⟨lB,hlB⟩:=ex ((Jj s).drop (k+1));rw[hlA,hlB]at HL;rw[hlA]at Qh;rw[hlB]at Qi;obtain⟨sA,hsA⟩:=ex (s.extract 0 k);obtain⟨sB,hsB⟩:=ex (s.extract (k+1) s.size);rw[hsA,hsB]at HC;rw[hsA]at Qh;rw[hsB]at Qi;obtain⟨za,hza⟩:=ex (GC lA);obtain⟨zb,hzb⟩:=ex (GC lB);obtain⟨oa,hoa⟩:=ex (good lA);obtain⟨ob,hob⟩:=ex (good lB);obtain⟨Qq,Qp,HA,HB⟩:=Dt (show Sok za by rw[←hza];exact QH _) (show Sok zb by rw[←hzb];exact QH _) (show(oa=true→Y9 lA=za)∧(oa=false→za=0)by rw[←hoa,←hza];unfold GC;exact⟨fun h=>by rw[BH h],fun h=>by rw[h];simp⟩) (show(ob=true→Y9 lB=zb)by rw[←hob,←hzb];unfold GC;exact fun h=>by rw[BH h]);rw[hza,hoa]at Qh;rw[hzb,hob]at Qi;rw[hoa,hob]at HL;have h1:¬((2000:Int)<(s.size:Int)):=by omega
 clear hl hs hk hlA hlB hsA hsB hza hzb hoa hob h0;have M0:=((Mem.nil w).push (.rat 0) (Xn _));have M0:Mem w (w.alloc (.cells #[.bool false,.slice none 0 0,.bool false,.slice none 0 0] 37)) [some (w.heap.size,.rat (0))]:=M0;obtain⟨W0,hW0⟩:=ex (w.alloc (.cells #[.bool false,.slice none 0 0,.bool false,.slice none 0 0] 37));have Qn:=Ja hW0;rw[hW0]at M0;have M1:Hid (Mem w W0 [some (w.heap.size,.rat (0))]):=Ja M0;clear M0 hW0;go_enter Tryz.func24,Tryz.ntmps24
 go_upto_region 1 with fail
 rw[Qn.o];clear Qn;go_upto_region 5 with(first
  |(go_at_call 62;refine(HC.o _).mono ?_;clear HC;rintro e w1 ⟨rfl,hb1⟩)
  |(go_at_call 63;refine(Qh.o _).mono ?_;clear Qh;rintro e w2 ⟨u,rfl,hu,hb2⟩;obtain⟨s90,a90,l90,c90,rfl⟩:=Jk.form2 hu))
 obtain⟨V1,hV⟩:=ex (w2.alloc (.cells #[.bool s90,.slice a90 l90 c90] 35));obtain⟨B1,hBk⟩:=ex (w2.heap.size);have MM:Mem w (w2.alloc (.cells #[.bool s90,.slice a90 l90 c90] 35)) [some (w.heap.size,.rat (0)),some (w2.heap.size,.int (za))]:=Mem.push ((M1.o.below hb1).below hb2) (.int (za)) hu;rw[hV,hBk]at MM;rw[hV];rw[hBk];have M2:Hid (Mem w V1 [some (w.heap.size,.rat (0)),some (B1,.int (za))]):=Ja (MM);clear M1;clear MM hV hBk;clear hu hb1 hb2;cases oa with
 |false=>
  obtain⟨s2,a2,l2,c2,n2,i2⟩:=M2.o.int (i:=1) rfl;obtain⟨e2a,e2b⟩:=n2.cp;obtain⟨s3,a3,l3,c3,t3,b3,k3,d3,n3,r3,i3,j3⟩:=M2.o.rat (i:=0) rfl;obtain⟨Qu,Qt,Qy,Qv⟩:=n3.cq;obtain⟨f3a,f3b,f3c,f3d⟩:=n3.fq;have Qa:=M2.o.ge 0 rfl;have hB:=M2.o.2.2;have hr:Jg V1 (.agg #[.bool s2,.slice a2 l2 c2,.bool false,.slice none 0 0]) ((none:Option Rat).getD 0):=Jg.mk (by show Jk _ _ 0;rw[←HA.o.2 rfl];exact i2) (X2 _);have Qb:=Ja (show Xg (Jj s)=none by rw[HL.o];simp);go_wp2_with fail
  exact BB (v:=.tuple #[.agg #[.bool s2,.slice a2 l2 c2,.bool false,.slice none 0 0],.bool false]) (by simp[results,Tryz.results24,go_sem,Qu,Qt,Qy,Qv]) rfl (Xy.of Qb.o rfl (hr.put4 n3 rfl rfl rfl rfl _ _ _ _) (Jr hB Qa _ _ _ _))
 |true=>
  go_upto_region 8 with(go_at_call 63;refine(Qi.o _).mono ?_;clear Qi;rintro e w3 ⟨u,rfl,hu,hb3⟩;obtain⟨s91,a91,l91,c91,rfl⟩:=Jk.form2 hu)
  obtain⟨V4,hV⟩:=ex (w3.alloc (.cells #[.bool s91,.slice a91 l91 c91] 35));obtain⟨B4,hBk⟩:=ex (w3.heap.size);have MM:Mem w (w3.alloc (.cells #[.bool s91,.slice a91 l91 c91] 35)) [some (w.heap.size,.rat (0)),some (B1,.int (za)),some (w3.heap.size,.int (zb))]:=Mem.push (M2.o.below hb3) (.int (zb)) hu;rw[hV,hBk]at MM;rw[hV];rw[hBk];have M3:Hid (Mem w V4 [some (w.heap.size,.rat (0)),some (B1,.int (za)),some (B4,.int (zb))]):=Ja (MM);clear M2;clear MM hV hBk;clear hu hb3;obtain⟨s5,a5,l5,c5,n5,i5⟩:=M3.o.int (i:=1) rfl;obtain⟨Qx,Qr⟩:=n5.cp;obtain⟨s6,a6,l6,c6,n6,i6⟩:=M3.o.int (i:=2) rfl;obtain⟨Qs,Qw⟩:=n6.cp;obtain⟨s7,a7,l7,c7,t7,b7,k7,d7,n7,r7,i7,j7⟩:=M3.o.rat (i:=0) rfl;obtain⟨Qc,Qg,Qe,Qd⟩:=n7.cq;obtain⟨Qk,Ql,Qm,Qj⟩:=n7.fq;have Qa:=M3.o.ge 0 rfl;have hB:=M3.o.2.2;have Qo:Bl V4 V4:=BG _ _;have HO:=Ja (Hp _ _ zb 0 V4 i6 (X2 _));cases ob with
  |false=>
   have Qb:=Ja (show Xg (Jj s)=none by rw[HL.o];simp);clear HO;go_wp2_with fail
   have Qf:=Bt M3.o.2.2 Qo;have Qa:=M3.o.ge 0 rfl;exact BB (v:=.tuple #[.agg #[.bool false,.slice none 0 0,.bool false,.slice none 0 0],.bool false]) (by simp[results,Tryz.results24,go_sem,Qc,Qg,Qe,Qd]) rfl (Xy.of (o:=none) Qb.o rfl ((Xn _).put4 (n7.below Qo) rfl rfl rfl rfl _ _ _ _) (Jr Qf Qa _ _ _ _))
  |true=>
   by_cases hz:0<zb
   · have HZ:=Ja hz;have Qb:=Ja (show Xg (Jj s)=some (Rat.divInt za zb)by rw[HL.o,HA.o.1 (by first|rfl|trivial),HB.o (by first|rfl|trivial),BH (by first|exact⟨rfl,rfl,hz⟩|exact⟨trivial,rfl,hz⟩|exact⟨trivial,trivial,hz⟩)]);rw[show XR zb 0=1 from by unfold XR;rw[BE (by omega),BH hz]]at HO;clear hz;have HR:=Ja (fun(V:World) (h:Bl V4 V)=>Pj _ _ za zb V (i5.below h) (i6.below h) (by have:=HZ.o;omega) Qq.o Qp.o);go_wp2_with(first
      |(go_at_call 64;refine HO.o.mono ?_;clear HO;rintro e w4 ⟨rfl,hq⟩;obtain⟨Qx,Qr⟩:=(n5.below hq).cp;obtain⟨Qs,Qw⟩:=(n6.below hq).cp)
      |(go_at_call 65;refine(HR.o _ hq).mono ?_;clear HR;rintro e w5 ⟨u5,rfl,hu5,hb5⟩;obtain⟨s92,a92,l92,c92,t92,b92,k92,d92,rfl⟩:=Jg.form hu5;have hq:=Bt hq hb5;obtain⟨Qc,Qg,Qe,Qd⟩:=(n7.below hq).cq;obtain⟨Qk,Ql,Qm,Qj⟩:=(n7.below hq).fq))
     have Qf:=Bt hB hq;exact BB (v:=.tuple #[.agg #[.bool s92,.slice a92 l92 c92,.bool t92,.slice b92 k92 d92],.bool true]) (by simp[results,Tryz.results24,go_sem,Qc,Qg,Qe,Qd]) rfl (Xy.of Qb.o rfl (hu5.put4 (n7.below hq) rfl rfl rfl rfl _ _ _ _) (Jr Qf Qa _ _ _ _))
   · have Qb:=Ja (show Xg (Jj s)=none by rw[HL.o,HB.o (by first|rfl|trivial),BE (fun h=>hz h.2.2)]);rcases Int.lt_or_eq_of_le (show zb≤0 by omega)with hz1|hz1
     · rw[show XR zb 0=-1 from by unfold XR;rw[BH hz1]]at HO;clear hz1 hz;go_wp2_with(go_at_call 64;refine HO.o.mono ?_;clear HO;rintro e w4 ⟨rfl,hq⟩;obtain⟨Qc,Qg,Qe,Qd⟩:=(n7.below hq).cq;obtain⟨Qk,Ql,Qm,Qj⟩:=(n7.below hq).fq)
       have Qf:=Bt M3.o.2.2 hq;have Qa:=M3.o.ge 0 rfl;exact BB (v:=.tuple #[.agg #[.bool false,.slice none 0 0,.bool false,.slice none 0 0],.bool false]) (by simp[results,Tryz.results24,go_sem,Qc,Qg,Qe,Qd]) rfl (Xy.of (o:=none) Qb.o rfl ((Xn _).put4 (n7.below hq) rfl rfl rfl rfl _ _ _ _) (Jr Qf Qa _ _ _ _))
     · rw[show XR zb 0=0 from by unfold XR;rw[BE (by omega),BE (by omega)]]at HO;clear hz1 hz;go_wp2_with(go_at_call 64;refine HO.o.mono ?_;clear HO;rintro e w4 ⟨rfl,hq⟩;obtain⟨Qc,Qg,Qe,Qd⟩:=(n7.below hq).cq;obtain⟨Qk,Ql,Qm,Qj⟩:=(n7.below hq).fq)
       have Qf:=Bt M3.o.2.2 hq;have Qa:=M3.o.ge 0 rfl;exact BB (v:=.tuple #[.agg #[.bool false,.slice none 0 0,.bool false,.slice none 0 0],.bool false]) (by simp[results,Tryz.results24,go_sem,Qc,Qg,Qe,Qd]) rfl (Xy.of (o:=none) Qb.o rfl ((Xn _).put4 (n7.below hq) rfl rfl rfl rfl _ _ _ _) (Jr Qf Qa _ _ _ _))
theorem LP(s:ByteArray)(w:World):Calls Tryz.prog 24 #[.string s] w (Xy (Jj s) w):=by
 rcases AV 2000 s.size with h|h
 · exact aB s h w
 · rcases LO (Jj s)with⟨h1,_⟩|⟨h1,_⟩
   · exact aD s h h1 w
   · exact aC s h h1 w
end

