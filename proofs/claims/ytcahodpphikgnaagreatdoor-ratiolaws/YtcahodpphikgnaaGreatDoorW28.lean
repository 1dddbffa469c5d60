import Derived.Test.YtcahodpphikgnaaGreatDoorW24
import Derived.Test.YtcahodpphikgnaaGreatDoorW27
set_option linter.all false
set_option maxRecDepth 99999
set_option maxHeartbeats 0
namespace Go.Proofs.YtcahodpphikgnaaGreatDoor
open List renaming replicate->L0
open Proofs.Tryz
open Go.RowKit Go.Shelf
attribute [local go_sem] Oper.semAt_some
section
open M3
def J1(l:List UInt8)(w:World)(e:Ending)(w':World):Prop:=∃u,e=.returned (.tuple #[u,.bool (JY l).isSome])∧Jf w' u (CT l)∧Bl w w'
theorem J1.of{l:List UInt8}{w w':World}{u:Value}{o:Option Rat}(h:JY l=o){b:Bool}(hb:o.isSome=b)(hu:Jf w' u (o.getD 0))(hB:Bl w w'):J1 l w (.returned (.tuple #[u,.bool b])) w':=
 ⟨u,by rw[h,hb],by unfold CT;rw[h];exact hu,hB⟩
def LL(s:ByteArray)(h0:2000<s.size)(w:World):Calls Tryz.prog 7 #[.string s] w (J1 (Je s) w):=by
 have HL:=Ja (Fn (l:=Je s) (by have:=Jn s;omega));have h1:(2000:Int)<(s.size:Int):=by omega
 obtain⟨W0,HW0,M1⟩:=C5 27 (.rat 0) (X7 _) (w:=w);go_enter func7,ntmps7
 go_upto_region 1 with fail
 rw[HW0.o];clear HW0;obtain⟨s1,a1,l1,c1,t1,b1,k1,d1,n1,r1,i1,j1⟩:=M1.o.rat (i:=0) J;have Qa:=Bx.all n1;have Fn1:=Bx.f n1;have hq:Bl W0 W0:=BC _ _;go_wp2_with fail
 have Qb:=Bt M1.o.2.2 hq;have Qc:=M1.o.ge 0 J;exact BB (by simp[results,results7,go_sem,Qa]) J (J1.of (o:=none) HL.o J ((X7 _).put4 (n1.below hq) J J J J _ _ _ _) (Jq Qb Qc _ _ _ _))
def LM(s:ByteArray)(h0:s.size≤2000)(hs:Jz (Je s)=(Je s).length)(w:World):Calls Tryz.prog 7 #[.string s] w (J1 (Je s) w):=by
 have hl:=Jn s;obtain⟨HL,HC,HP⟩:=CK (Fo (l:=Je s) (by omega) hs) (fun(V:World)=>Ke s (by grind[YN,Je]) V) (fun(V:World)=>X1 s (by omega) V);obtain⟨zv,hzv⟩:=ex (XZ (Je s));obtain⟨ok,hok⟩:=ex (good (Je s));rw[hzv,hok]at HP;have HE:=Ja (show(ok=true→JT (Je s)=zv)∧(ok=false→zv=0)by grind[XZ]);rw[hok]at HL;have h1:¬((2000:Int)<(s.size:Int)):=by omega
 clear hl hs hzv hok h0;obtain⟨W0,HW0,M1⟩:=C5 27 (.rat 0) (X7 _) (w:=w);go_enter func7,ntmps7
 go_upto_region 1 with fail
 rw[HW0.o];clear HW0;go_upto_region 5 with(first
  |(go_at_call 43;refine(HC.o _).mono ?_;clear HC;rintro e w1 ⟨rfl,hb1⟩)
  |(go_at_call 21;refine(HP.o _).mono ?_;clear HP;rintro e w2 ⟨u,rfl,hu,hb2⟩;obtain⟨s90,a90,l90,c90,rfl⟩:=Jd.form2 hu))
 obtain⟨V1,hV⟩:=ex (w2.alloc (.cells #[.bool s90,.slice a90 l90 c90] 25));obtain⟨B1,hBk⟩:=ex (w2.heap.size);have MM:Bk w (w2.alloc (.cells #[.bool s90,.slice a90 l90 c90] 25)) [some (w.heap.size,.rat (0)),some (w2.heap.size,.int (zv))]:=Bk.push ((M1.o.below hb1).below hb2) (.int (zv)) hu;rw[hV,hBk]at MM;rw[hV];rw[hBk];have M2:=Ja (MM);clear M1;clear MM hV hBk;clear hu hb1 hb2;obtain⟨s2,a2,l2,c2,n2,i2⟩:=M2.o.int (i:=1) J;have En2:=Bx.all n2;obtain⟨s3,a3,l3,c3,t3,b3,k3,d3,n3,r3,i3,j3⟩:=M2.o.rat (i:=0) J;have Qc:=Bx.all n3;have Fn3:=Bx.f n3;have Qb:=M2.o.ge 0 J;have hB:=M2.o.2.2;cases ok with
 |true=>
  have hr:Jf V1 (.agg #[.bool s2,.slice a2 l2 c2,.bool false,.slice none 0 0]) ((some ((JT (Je s):Int):Rat)).getD 0):=Jf.mk (by show Jd _ _ (JT (Je s));rw[HE.o.1 J];exact i2) (Xb _);have Qa:=Ja (show JY (Je s)=some ((JT (Je s):Int):Rat)by rw[HL.o];rfl);go_wp2_with fail
  exact BB (by simp[results,results7,go_sem,Qc]) J (J1.of Qa.o J (hr.put4 n3 J J J J _ _ _ _) (Jq hB Qb _ _ _ _))
 |false=>
  have hr:Jf V1 (.agg #[.bool s2,.slice a2 l2 c2,.bool false,.slice none 0 0]) ((none:Option Rat).getD 0):=Jf.mk (by show Jd _ _ 0;rw[←HE.o.2 J];exact i2) (Xb _);have Qa:=Ja (show JY (Je s)=none by rw[HL.o];rfl);go_wp2_with fail
  exact BB (by simp[results,results7,go_sem,Qc]) J (J1.of Qa.o J (hr.put4 n3 J J J J _ _ _ _) (Jq hB Qb _ _ _ _))
def LN(s:ByteArray)(h0:s.size≤2000)(hs:Jz (Je s)<(Je s).length)(w:World):Calls Tryz.prog 7 #[.string s] w (J1 (Je s) w):=by
 have hl:=Jn s;have HL:=Ja (EG (l:=Je s) (by omega) hs);obtain⟨k,hk⟩:=ex (Jz (Je s));obtain⟨HC,Qf,Qe⟩:=CK (fun(V:World)=>Kd s k (by grind[YN,Je]) (by omega) h0 V) (fun(V:World)=>X1 (s.extract 0 k) (by rw[Aw];omega) V) (fun(V:World)=>X1 (s.extract (k+1) s.size) (by rw[Aw];omega) V);rw[Fp]at Qf;rw[Xx]at Qe;rw[hk]at HL;obtain⟨lA,hlA⟩:=ex ((Je s).take k);obtain⟨lB,hlB⟩:=ex ((Je s).drop (k+1));rw[hlA,hlB]at HL;rw[hlA]at Qf;rw[hlB]at Qe;obtain⟨sA,hsA⟩:=ex (s.extract 0 k);obtain⟨sB,hsB⟩:=ex (s.extract (k+1) s.size);rw[hsA,hsB]at HC;rw[hsA]at Qf;rw[hsB]at Qe;obtain⟨za,hza⟩:=ex (XZ lA);obtain⟨zb,hzb⟩:=ex (XZ lB);obtain⟨oa,hoa⟩:=ex (good lA);obtain⟨ob,hob⟩:=ex (good lB);obtain⟨Qk,Qj,HA,HB⟩:=DY (show Sok za by rw[←hza];exact Fq _) (show Sok zb by rw[←hzb];exact Fq _) (show(oa=true→JT lA=za)∧(oa=false→za=0)by grind[XZ]) (show(ob=true→JT lB=zb)by rw[←hob,←hzb];unfold XZ;exact fun h=>by rw[BX h]);rw[hza,hoa]at Qf;rw[hzb,hob]at Qe;rw[hoa,hob]at HL;have h1:¬((2000:Int)<(s.size:Int)):=by omega
 clear hl hs hk hlA hlB hsA hsB hza hzb hoa hob h0;obtain⟨W0,HW0,M1⟩:=C5 27 (.rat 0) (X7 _) (w:=w);go_enter func7,ntmps7
 go_upto_region 1 with fail
 rw[HW0.o];clear HW0;go_upto_region 5 with(first
  |(go_at_call 43;refine(HC.o _).mono ?_;clear HC;rintro e w1 ⟨rfl,hb1⟩)
  |(go_at_call 21;refine(Qf.o _).mono ?_;clear Qf;rintro e w2 ⟨u,rfl,hu,hb2⟩;obtain⟨s90,a90,l90,c90,rfl⟩:=Jd.form2 hu))
 obtain⟨V1,hV⟩:=ex (w2.alloc (.cells #[.bool s90,.slice a90 l90 c90] 25));obtain⟨B1,hBk⟩:=ex (w2.heap.size);have MM:Bk w (w2.alloc (.cells #[.bool s90,.slice a90 l90 c90] 25)) [some (w.heap.size,.rat (0)),some (w2.heap.size,.int (za))]:=Bk.push ((M1.o.below hb1).below hb2) (.int (za)) hu;rw[hV,hBk]at MM;rw[hV];rw[hBk];have M2:=Ja (MM);clear M1;clear MM hV hBk;clear hu hb1 hb2;cases oa with
 |false=>
  obtain⟨s2,a2,l2,c2,n2,i2⟩:=M2.o.int (i:=1) J;have En2:=Bx.all n2;obtain⟨s3,a3,l3,c3,t3,b3,k3,d3,n3,r3,i3,j3⟩:=M2.o.rat (i:=0) J;have Ql:=Bx.all n3;have Fn3:=Bx.f n3;have Qa:=M2.o.ge 0 J;have hB:=M2.o.2.2;have hr:Jf V1 (.agg #[.bool s2,.slice a2 l2 c2,.bool false,.slice none 0 0]) ((none:Option Rat).getD 0):=Jf.mk (by show Jd _ _ 0;rw[←HA.o.2 J];exact i2) (Xb _);have Qb:=Ja (show JY (Je s)=none by rw[HL.o];simp);go_wp2_with fail
  exact BB (by simp[results,results7,go_sem,Ql]) J (J1.of Qb.o J (hr.put4 n3 J J J J _ _ _ _) (Jq hB Qa _ _ _ _))
 |true=>
  go_upto_region 8 with(go_at_call 21;refine(Qe.o _).mono ?_;clear Qe;rintro e w3 ⟨u,rfl,hu,hb3⟩;obtain⟨s91,a91,l91,c91,rfl⟩:=Jd.form2 hu)
  obtain⟨V4,hV⟩:=ex (w3.alloc (.cells #[.bool s91,.slice a91 l91 c91] 25));obtain⟨B4,hBk⟩:=ex (w3.heap.size);have MM:Bk w (w3.alloc (.cells #[.bool s91,.slice a91 l91 c91] 25)) [some (w.heap.size,.rat (0)),some (B1,.int (za)),some (w3.heap.size,.int (zb))]:=Bk.push (M2.o.below hb3) (.int (zb)) hu;rw[hV,hBk]at MM;rw[hV];rw[hBk];have M3:=Ja (MM);clear M2;clear MM hV hBk;clear hu hb3;obtain⟨s5,a5,l5,c5,n5,i5⟩:=M3.o.int (i:=1) J;have Qm:=Bx.all n5;obtain⟨s6,a6,l6,c6,n6,i6⟩:=M3.o.int (i:=2) J;have Qi:=Bx.all n6;obtain⟨s7,a7,l7,c7,t7,b7,k7,d7,n7,r7,i7,j7⟩:=M3.o.rat (i:=0) J;have Qc:=Bx.all n7;have Qg:=Bx.f n7;have Qa:=M3.o.ge 0 J;have hB:=M3.o.2.2;have Qh:Bl V4 V4:=BC _ _;have HO:=Ja (Yr _ _ zb 0 V4 i6 (Xb _));cases ob with
  |false=>
   have Qb:=Ja (show JY (Je s)=none by rw[HL.o];simp);clear HO;go_wp2_with fail
   have Qd:=Bt M3.o.2.2 Qh;have Qa:=M3.o.ge 0 J;exact BB (by simp[results,results7,go_sem,Qc]) J (J1.of (o:=none) Qb.o J ((X7 _).put4 (n7.below Qh) J J J J _ _ _ _) (Jq Qd Qa _ _ _ _))
  |true=>
   by_cases hz:0<zb
   · have HZ:=Ja hz;have Qb:=Ja (show JY (Je s)=some (Rat.divInt za zb)by rw[HL.o,HA.o.1 (by first|rfl|trivial),HB.o (by first|rfl|trivial),BX (by grind)]);rw[show Yq zb 0=1 from by unfold Yq;omega]at HO;clear hz;have HR:=Ja (fun(V:World) (h:Bl V4 V)=>F7 _ _ za zb V (i5.below h) (i6.below h) (by have:=HZ.o;omega) Qk.o Qj.o);go_wp2_with(first
      |(go_at_call 39;refine HO.o.mono ?_;clear HO;rintro e w4 ⟨rfl,hq⟩;have Qm:=Bx.all (n5.below hq);have Qi:=Bx.all (n6.below hq))
      |(go_at_call 44;refine(HR.o _ hq).mono ?_;clear HR;rintro e w5 ⟨u5,rfl,hu5,hb5⟩;obtain⟨s92,a92,l92,c92,t92,b92,k92,d92,rfl⟩:=Jf.form hu5;have hq:=Bt hq hb5;have Qc:=Bx.all (n7.below hq);have Qg:=Bx.f (n7.below hq)))
     have Qd:=Bt hB hq;exact BB (by simp[results,results7,go_sem,Qc]) J (J1.of Qb.o J (hu5.put4 (n7.below hq) J J J J _ _ _ _) (Jq Qd Qa _ _ _ _))
   · have Qb:=Ja (show JY (Je s)=none by rw[HL.o,HB.o (by first|rfl|trivial),BU (fun h=>hz h.2.2)]);rcases Int.lt_or_eq_of_le (show zb≤0 by omega)with hz1|hz1
     · rw[show Yq zb 0=-1 from by unfold Yq;rw[BX hz1]]at HO;clear hz1 hz;go_wp2_with(go_at_call 39;refine HO.o.mono ?_;clear HO;rintro e w4 ⟨rfl,hq⟩;have Qc:=Bx.all (n7.below hq);have Qg:=Bx.f (n7.below hq))
       have Qd:=Bt M3.o.2.2 hq;have Qa:=M3.o.ge 0 J;exact BB (by simp[results,results7,go_sem,Qc]) J (J1.of (o:=none) Qb.o J ((X7 _).put4 (n7.below hq) J J J J _ _ _ _) (Jq Qd Qa _ _ _ _))
     · rw[show Yq zb 0=0 from by unfold Yq;omega]at HO;clear hz1 hz;go_wp2_with(go_at_call 39;refine HO.o.mono ?_;clear HO;rintro e w4 ⟨rfl,hq⟩;have Qc:=Bx.all (n7.below hq);have Qg:=Bx.f (n7.below hq))
       have Qd:=Bt M3.o.2.2 hq;have Qa:=M3.o.ge 0 J;exact BB (by simp[results,results7,go_sem,Qc]) J (J1.of (o:=none) Qb.o J ((X7 _).put4 (n7.below hq) J J J J _ _ _ _) (Jq Qd Qa _ _ _ _))
def GB(s:ByteArray)(w:World):Calls Tryz.prog 7 #[.string s] w (J1 (Je s) w):=by
 rcases AR 2000 s.size with h|h
 · exact LL s h w
 · rcases YN (Je s)with⟨h1,_⟩|⟨h1,_⟩
   · exact LN s h h1 w
   · exact LM s h h1 w
end
def J0(k:Nat)(d:List UInt8):List UInt8:=L0 (k+1-d.length) 48++d
def C1(k:Nat)(p:List UInt8):List UInt8:=if 0<k then p.take (p.length-k)++46::p.drop (p.length-k)else p
def Y6(z:Int)(k:Nat):List UInt8:=if z<0 then 45::C1 k (J0 k (JE z.natAbs))else C1 k (J0 k (JE z.natAbs))
def GC(k:Nat)(d:List UInt8):(J0 k d).length=if d.length≤k then k+1 else d.length:=by
 grind[J0]
theorem LO(n:Nat):(JE n).head?≠some 45:=by
 by_cases hn:n=0
 · rw[hn];decide
 · obtain⟨c,t,h1,_,h2,_⟩:=Yy hn;grind
def GD(z:Int):Jv (JO z)=JE z.natAbs∧decide ((JO z).head?=some 45)=decide (z<0):=by
 grind[Jv,JO,LO]
def GE(va:Value)(x:Int)(k:Nat)(w:World)(ha:Jd w va x)(hk2:k≤200)(hlk:(Jc O x.natAbs).length*k≤400000000000):
 Calls Tryz.prog 41 #[va,.int .i64 (k:Nat)] w fun e w'=>∃u,e=.returned (.tuple #[u,.bool true])∧Jd w' u (x^k)∧Bl w w':=by
 rcases Am k with h|h
 · subst h;obtain⟨s,a,l,c,rfl⟩:=Jd.form2 ha;have h1:=KZ s a l c w;rw[Int.pow_zero];exact h1
 · exact Ka va x k w ha h hk2 hlk
def LP(s:ByteArray)(w:World):Calls Tryz.prog 50 #[.string s,.string ⟨#[45]⟩] w fun e w'=>e=.returned (.tuple #[.string ⟨(Jv (Je s)).toArray⟩,.bool (decide ((Je s).head?=some 45))])∧Bl w w':=by
 refine(DK s w).mono ?_;rintro e w' ⟨rfl,rfl⟩;exact⟨J,BC _ _⟩
def EN(l:List UInt8):Je ⟨l.toArray⟩=l:=by simp[Je]
def LQ(z:Int)(w:World):Calls Tryz.prog 50 #[.string ⟨(JO z).toArray⟩,.string ⟨#[45]⟩] w fun e w'=>e=.returned (.tuple #[.string ⟨(JE z.natAbs).toArray⟩,.bool (decide (z<0))])∧Bl w w':=by
 have h:=LP ⟨(JO z).toArray⟩ w;rw[EN,(GD z).1,(GD z).2]at h;exact h
def repeatL_one(c:Nat):Lib.repeatL [48] c=L0 c 48:=by
 induction c with
 |zero=>rfl
 |succ n ih=>
  grind[Lib.repeatL]
def LR(c:Nat)(hc:c≤1000)(w:World):Calls Tryz.prog 52 #[.string ⟨#[48]⟩,.int .i64 (c:Int)] w fun e w'=>e=.returned (.string ⟨(L0 c 48).toArray⟩)∧Bl w w':=by
 have h:=Tryz.strings_Repeat ⟨#[48]⟩ c w (by omega) (by show 1*_≤_;omega);rw[show Lib.repeatL (⟨#[48]⟩:ByteArray).data.toList c=L0 c 48 from repeatL_one c]at h;exact h
def EO(k:Nat):Sm (k+1) ((10:Int)^k):=by
 unfold Sm;rw[Int.natAbs_pow,AW];have h1:(10:Int).natAbs^k≤O^k:=Cp (by unfold O;decide) k;grind[O]
def GF{q:Rat}{k:Nat}(hq:Sq q)(hk:k≤100):Sok (q.num*10^k):=Sok.of (hq.sm.1.mul (EO k)) (by omega)
def LS(k:Nat)(d:List UInt8):(⟨(L0 (k+1-d.length) 48).toArray⟩:ByteArray)++⟨d.toArray⟩=⟨(J0 k d).toArray⟩:=Xz _ _
def LT{k:Nat}{d:List UInt8}(h:¬d.length≤k):J0 k d=d:=by
 unfold J0;rw[show k+1-d.length=0 by omega];rfl
def LU(z:Int)(k:Nat)(P E1 E2:ByteArray)(m:Nat)(hP:P=⟨(J0 k (JE z.natAbs)).toArray⟩)(hm:m=P.size-k)(h1:P.extract 0 m=E1)(h2:P.extract m P.size=E2):
 (⟨(Y6 z k).toArray⟩:ByteArray)=if z<0 then(if 0<k then(⟨#[45]⟩++E1)++(⟨#[46]⟩++E2)else⟨#[45]⟩++E1)else(if 0<k then E1++(⟨#[46]⟩++E2)else E1):=by
 have hs:P.size=(J0 k (JE z.natAbs)).length:=by rw[hP];show(J0 k (JE z.natAbs)).toArray.size=_;rw[Ae]
 have hw:Je P=J0 k (JE z.natAbs):=by rw[hP,EN]
 have e1:E1=⟨((J0 k (JE z.natAbs)).take m).toArray⟩:=by
  have:=Fp P m;rw[hw,h1]at this;rw[←this];apply Cu;simp[Je]
 have e2:E2=⟨((J0 k (JE z.natAbs)).drop m).toArray⟩:=by
  have:=Xx P m;rw[hw,h2]at this;rw[←this];apply Cu;simp[Je]
 grind[Y6,C1,Xz]
open M3
def LV(va:Value)(q:Rat)(n:Int)(k:Nat)(w:World)(ha:Jf w va q)(hsq:Sq q)(hk:min (max n 0) 100=(k:Int))(htab:Lib.TabIs Tryz.prog w "internal/strconv.uint64pow10" .u64 Lib.pow10Tab):
 Calls Tryz.prog 16 #[va,.int .i64 n] w fun e w'=>e=.returned (.string ⟨(Y6 (q.num*10^k/(q.den:Int)) k).toArray⟩)∧Bl w w':=by
 have Qi:k≤100:=by omega
 have HK:=Ja hk;have HT:=Ja htab;obtain⟨tk,htk⟩:∃t:Int,10^k=t:=⟨_,J⟩;have Qs:=Ja (show Sok tk by rw[←htk];exact Sok.of (EO k) (by omega));have Qq:=Ja (show Sok (q.num*tk)by rw[←htk];exact GF hsq Qi);have Qr:=Ja (fun(V:World) (u:Value) (hu:Jd V u 10)=>show Calls Tryz.prog 41 #[u,.int .i64 (k:Int)] V fun e w'=>∃u,e=.returned (.tuple #[u,.bool true])∧Jd w' u tk∧Bl V w' by
  have h:=GE u 10 k V hu (by omega) (by
   have h1:(Jc O (10:Int).natAbs).length≤1:=JA Jb (by unfold O;decide);have h2:=Ad k h1;omega)
  rw[htk]at h;exact h)
 rw[htk];obtain⟨z,hz⟩:=ex (q.num*tk/(q.den:Int));have HZ:=Ja hz;rw[hz];have Qt:=Ja (show Sok z by rw[←hz];exact Qq.o.div);obtain⟨T,hT⟩:∃S:ByteArray,⟨(JO z).toArray⟩=S:=⟨_,J⟩;obtain⟨D0,hD0⟩:∃S:ByteArray,⟨(JE z.natAbs).toArray⟩=S:=⟨_,J⟩;obtain⟨b,hb⟩:=ex (decide (z<0));have Qv:=Ja hT;have Qo:D0.size=(JE z.natAbs).length:=by rw[←hD0];show(JE z.natAbs).toArray.size=_;rw[Ae]
 have Qw:=Xn z.natAbs;have hw:=Qt.o.words;have zD:D0.size≤400000000000:=by omega
 have Qb:=Ja (fun(V:World)=>LQ z V);rw[hT,hD0,hb]at Qb;obtain⟨P,hP⟩:∃S:ByteArray,S=⟨(J0 k (JE z.natAbs)).toArray⟩:=⟨_,J⟩;have Qm:P.size=if D0.size≤k then k+1 else D0.size:=by rw[Qo,←GC,hP];show(J0 k (JE z.natAbs)).toArray.size=_;rw[Ae]
 have hP1:k<P.size:=by rw[Qm];split<;>omega
 have hP2:P.size≤2000000000000:=by rw[Qm];split<;>omega
 have Qj:=Ja (show ∀R:ByteArray,R=⟨(L0 (k+1-D0.size) 48).toArray⟩→R++D0=P by
  rintro R rfl;rw[Qo,←hD0,LS,hP])
 have Ql:=Ja (show ¬D0.size≤k→D0=P by
  intro h;rw[hP,LT (by omega),hD0])
 obtain⟨m,hm⟩:=ex (P.size-k);obtain⟨E1,Qe⟩:=ex (P.extract 0 m);obtain⟨E2,Qh⟩:=ex (P.extract m P.size);have Qk:=Ja (LU z k P E1 E2 m hP hm.symm Qe Qh);have HB:=Ja (show(b=true↔z<0)by rw[←hb];simp);have zE1:E1.size≤2000000000000:=by rw[←Qe,Aw];omega
 have zE2:E2.size≤2000000000000:=by rw[←Qh,Aw];omega
 obtain⟨Qx,Qu,HM⟩:=CK Qe Qh (show((P.size:Int)-(k:Int))=(m:Int)by omega);have hm1:m≤P.size:=by omega
 clear hk htab htk hz hT hD0 hb Qo Qw hw hP Qm hm Qe Qh;obtain⟨s900,a900,l900,c900,t900,b900,k900,d900,rfl⟩:=Jf.form ha;obtain⟨W0,HW0,M1⟩:=C5 27 (.rat q) ha;have Qg:=Ja hsq;clear ha hsq;go_enter func16,ntmps16
 go_upto_region 1 with fail
 rw[HW0.o];clear HW0;go_upto_region 2 with fail
 rw[HK.o];go_upto_region 3 with(first
  |(go_at_call 40;refine(C7 10 (by omega) (by omega) _).mono ?_;rintro e w1 ⟨u1,rfl,hu1,hb1⟩)
  |(go_at_call 41;refine(Qr.o _ _ hu1).mono ?_;clear Qr;rintro e w2 ⟨u2,rfl,hu2,hb2⟩;obtain⟨s90,a90,l90,c90,rfl⟩:=Jd.form2 hu2))
 obtain⟨V1,hV⟩:=ex (w2.alloc (.cells #[.bool s90,.slice a90 l90 c90] 25));obtain⟨B1,hBk⟩:=ex (w2.heap.size);have MM:Bk w (w2.alloc (.cells #[.bool s90,.slice a90 l90 c90] 25)) [some (w.heap.size,.rat (q)),some (w2.heap.size,.int (tk))]:=Bk.push ((M1.o.below hb1).below hb2) (.int (tk)) hu2;rw[hV,hBk]at MM;rw[hV];rw[hBk];have M2:=Ja (MM);clear M1;clear MM hV hBk;clear hu1 hb1 hu2 hb2;obtain⟨s2,a2,l2,c2,t2,b2,k2,d2,n2,r2,i2,j2⟩:=M2.o.rat (i:=0) J;have Qf:=Bx.all n2;obtain⟨s3,a3,l3,c3,n3,i3⟩:=M2.o.int (i:=1) J;have Qd:=Bx.all n3;have H1:=Ja (fun(V:World) (h:Bl V1 V)=>JX _ _ q.num tk V (i2.below h) (i3.below h) (by have h1:=Qg.o.num.words;have h2:=Qs.o.words;omega));have H2:=Ja (fun(V:World) (h:Bl V1 V) (s:Bool) (a:N) (l c:Nat) (g:Jd V (.agg #[.bool s,.slice a l c]) (q.num*tk))=>show Calls Tryz.prog 15 #[.agg #[.bool s,.slice a l c,.bool t2,.slice b2 k2 d2]] V fun e w'=>∃u,e=.returned u∧Jd w' u z∧Bl V w' by
  have h1:=LK _ (q.num*tk) (Bv q) V ⟨_,_,_,_,_,_,_,_,J,g,j2.below h⟩ Qq.o (by rw[EJ];exact Qg.o.den);rw[EJ,HZ.o]at h1;exact h1)
 have H3:=Ja (fun(V:World) (u:Value) (h:Bl V1 V) (hu:Jd V u z)=>show Calls Tryz.prog 13 #[u] V fun e w'=>e=.returned (.string T)∧Bl V w' by
  have h1:=XY u z V hu (JH HT.o (Bt M2.o.2.2 h));rw[Qv.o]at h1;exact h1)
 have hq:Bl V1 V1.drew:=(BC _ V1).drew;go_region_held3 (fun w'=>(∀i,w'.cell? ⟨w.heap.size,i,none⟩=#[.bool s2,.slice a2 l2 c2,.bool t2,.slice b2 k2 d2][i]?)∧(∀i,w'.cell? ⟨B1,i,none⟩=#[.bool s3,.slice a3 l3 c3][i]?)) (first|grind|(go_keep;done)|(refine⟨?_,?_,?_,?_,?_,?_⟩<;>((repeat rw[Jw (by omega)]);first|assumption|(go_keep;done))))
  (first
   |(go_at_call 51;refine(H1.o _ hq).mono ?_;clear H1;rintro e w3 ⟨u3,rfl,hu3,hb3⟩;obtain⟨s91,a91,l91,c91,rfl⟩:=Jd.form2 hu3;have hq:=Bt hq hb3;have Qf:=Bx.all (n2.below hq);have Qd:=Bx.all (n3.below hq))
   |(go_at_call 15;refine(H2.o _ hq _ _ _ _ hu3).mono ?_;clear H2;rintro e w4 ⟨u4,rfl,hu4,hb4⟩;have hq:=Bt hq hb4;have Qf:=Bx.all (n2.below hq);have Qd:=Bx.all (n3.below hq))
   |(go_at_call 13;refine(H3.o _ _ hq hu4).mono ?_;clear H3;rintro e w5 ⟨rfl,hb5⟩;have hq:=Bt hq hb5;have Qf:=Bx.all (n2.below hq);have Qd:=Bx.all (n3.below hq))
   |(go_at_call 50;refine(Qb.o _).mono ?_;clear Qb;rintro e w6 ⟨rfl,hb6⟩;have hq:=Bt hq hb6;have Qf:=Bx.all (n2.below hq);have Qd:=Bx.all (n3.below hq)))
 have HQ:=Ja (show Bl w w6 from (Bt M2.o.2.2 hq));clear n2 Qf i2 r2 j2 n3 Qd i3 hu3 hu4 hb3 hb4 hb5 hb6 hq M2;have c1:IntKind.i64.wrap ((k:Int)+1)=(k:Int)+1:=by rw[Bc];omega
 have c2:IntKind.i64.wrap ((k:Int)+1-(D0.size:Int))=(k:Int)+1-(D0.size:Int):=by rw[Bc];omega
 go_upto_if 40 with fail
 go_cut [7] (fun v w'=>v=.string P∧Hid (Bl w w'))
 case first=>
  by_cases hd:D0.size≤k
  · have HR:=Ja (fun(V:World)=>LR (k+1-D0.size) (by omega) V);rw[show((k+1-D0.size:Nat):Int)=(k:Int)+1-(D0.size:Int)by omega]at HR;obtain⟨R,hR⟩:∃S:ByteArray,⟨(L0 (k+1-D0.size) 48).toArray⟩=S:=⟨_,J⟩;rw[hR]at HR;have zR:R.size≤1000:=by rw[←hR];show(L0 (k+1-D0.size) 48).toArray.size≤_;simp;omega
    have Qp:=Ja (Qj.o R hR.symm);clear hR Qj Ql;go_wp2_with(go_at_call 52;refine(HR.o _).mono ?_;clear HR;rintro e w7 ⟨rfl,hb7⟩)
    go_meet
    case rel=>exact⟨by rw[Qp.o],Ja (Bt HQ.o hb7)⟩
  · have Qp:=Ja (Ql.o hd);clear Qj Ql;go_wp2_with fail
    go_meet
    case rel=>exact⟨by rw[Qp.o],HQ⟩
 case rest=>
  obtain⟨rfl,HQ2⟩:=hcut;clear HQ Qj Ql c1 c2;have c3:IntKind.i64.wrap ((P.size:Int)-(k:Int))=(m:Int):=by rw[HM.o,Bc];omega
  have c4:(0:Int)≤(m:Int):=by omega
  have c5:(m:Int)≤(P.size:Int):=by omega
  have Qe:=Qx.o;have Qh:=Qu.o;cases b with
  |true=>
   have Qc:=Ja (show z<0 by have:=HB.o;simp at this;omega);rcases Am k with hk0|hk0
   · have Qn:¬(0:Int)<(k:Int):=by omega
     have Qa:=Ja hk0;clear hk0;have HF:=Ja Qk.o;rw[BX Qc.o,BU (by have:=Qa.o;omega)]at HF;go_wp2_with fail
     go_ret;exact⟨by rw[HF.o];rfl,HQ2.o⟩
   · have Qn:(0:Int)<(k:Int):=by omega
     have Qa:=Ja hk0;clear hk0;have HF:=Ja Qk.o;rw[BX Qc.o,BX Qa.o]at HF;go_wp2_with fail
     go_ret;exact⟨by rw[HF.o];rfl,HQ2.o⟩
  |false=>
   have Qc:=Ja (show ¬z<0 by have:=HB.o;simp at this;omega);rcases Am k with hk0|hk0
   · have Qn:¬(0:Int)<(k:Int):=by omega
     have Qa:=Ja hk0;clear hk0;have HF:=Ja Qk.o;rw[BU Qc.o,BU (by have:=Qa.o;omega)]at HF;go_wp2_with fail
     go_ret;exact⟨by rw[HF.o];rfl,HQ2.o⟩
   · have Qn:(0:Int)<(k:Int):=by omega
     have Qa:=Ja hk0;clear hk0;have HF:=Ja Qk.o;rw[BU Qc.o,BX Qa.o]at HF;go_wp2_with fail
     go_ret;exact⟨by rw[HF.o];rfl,HQ2.o⟩

