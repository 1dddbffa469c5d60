import Derived.Test.YtcahodpphikgnaaGreatDoorW09
import Derived.Test.YtcahodpphikgnaaGreatDoorW08
import Derived.Test.YtcahodpphikgnaaGreatDoorW03
set_option linter.all false
set_option maxRecDepth 99999
set_option maxHeartbeats 0
namespace Go.Proofs.YtcahodpphikgnaaGreatDoor
open Go.IntKind renaming u64->L2
open List renaming replicate->L0
open Proofs.Tryz
section
open Go.RowKit Go.Shelf Go.Deep
def hidR{p:Prop}(h:p):Hid p:=h
theorem IG(l:List UInt8)(acc:Nat)(h:l.all Bu=true)(hb:num l+10^l.length*acc<18446744073709551616):Lib.parseUintM (2^64-1) acc l=.ok (num l+10^l.length*acc):=by
 induction l generalizing acc with
 |nil=>simp[Lib.parseUintM,num,B5,val]
 |cons c l ih=>
  have hc:=AJ.1 h c (Cs ..);have hl:l.all Bu=true:=by grind
  have hcb:=Yi hc;have e:num (c::l)=num l+10^l.length*(c.toNat-48):=by
   have:=YZ [c] l;rw[List.singleton_append]at this;rw[this];congr 2
  have e2:num (c::l)+10^(c::l).length*acc=num l+10^l.length*(acc*10+(c.toNat-48)):=by
   grind
  rw[e2]at hb ⊢;have hp:1≤10^l.length:=Nat.one_le_pow _ _ (by omega);have h1:acc*10+(c.toNat-48)≤10^l.length*(acc*10+(c.toNat-48)):=Cj _ (by omega);grind[Lib.parseUintM]
def Dz{l:List UInt8}(h:l.all Bu=true):num l<10^l.length:=by
 have:=JN (Ea h);rwa[XF]at this
def IH{l:List UInt8}(h:l.all Bu=true)(h0:l≠[])(h19:l.length≤19):Lib.parseUintB 64 l=.ok (num l):=by
 have h1:=Dz h;have h2:(10:Nat)^l.length≤10^19:=Ap (by omega) h19;grind[Lib.parseUintB,IG]
def bytesWorld_below(w:World)(e:TypeId)(s:ByteArray):Bl w (Lib.bytesWorld w e s):=by
 unfold Lib.bytesWorld;refine⟨J,J,J,?_,fun k hk=>?_⟩
 · simp[World.freeze]
 · show(Array.modify _ _ _)[k]?=_;rw[Array.getElem?_modify,BU (show ¬w.heap.size=k by omega)];exact Below.heap_alloc w.drew _ k hk
def D4{s:ByteArray}{n:Nat}:Je (s.extract 0 n)=(Je s).take n:=by
 unfold Je;rw[Lib.extract_data];simp
def FU{s:ByteArray}{n:Nat}:Je (s.extract n s.size)=(Je s).drop n:=by
 grind[Je,Lib.extract_data,Jn]
def II(s:ByteArray)(h:(Je s).all Bu=true)(h0:0<s.size)(h19:s.size≤19)(w:World):
 Calls Tryz.prog 96 #[.string s,.int .i64 10,.int .i64 64] w fun e w'=>e=.returned (.tuple #[.int .u64 (num (Je s):Nat),.nilIface])∧Bl w w':=by
 have hl:=Jn s;refine(Tryz.strconv_ParseUint_10_at64_ok s (by omega) _ (IH (l:=Je s) h (by intro e;rw[e]at hl;simp at hl;omega) (by omega)) w).mono ?_;rintro e w' ⟨rfl,rfl|rfl⟩
 · exact⟨J,BC _ _⟩
 · exact⟨J,bytesWorld_below _ _ _⟩
def IJ:Value→Nat|.string s=>s.size|_=>0
def IK{l:List UInt8}(h:l.all Bu=true):(Jc O (num l)).length≤l.length:=by
 refine JA Jb (As (Dz h) (Cp ?_ _));unfold O;omega
def IL{sb:ByteArray}{dn:List UInt8}{c n:Nat}(hc:c=num (Je (sb.extract 0 n)))(hn:n=(sb.size-1)%19+1)(hn1:n≤sb.size)(hd:dn=[]∨sb.size%19=0)(h0:0<sb.size):c+num dn*10000000000000000000=num (dn++Je (sb.extract 0 n)):=by
 have hl:(Je (sb.extract 0 n)).length=n:=by rw[Jn,Aw];omega
 rw[YZ,hl,←hc];rcases hd with rfl|hd
 · simp[num,B5,val]
 · have:n=19:=by omega
   rw[this,Ax]
def IM{c m l over:Nat}{q:Y}(hc:c<O)(hl:l=(Jc O m).length)(h:J3 (c::L0 l 0) (Jc O m) 0 10000000000000000000 l over q):
 (c::L0 l 0)[l]?.getD 0+over<O∧Jr (q++[(c::L0 l 0)[l]?.getD 0+over])=Jc O (c+m*10000000000000000000):=by
 obtain⟨h1,h2,h3,h4⟩:=h;have hv:=Jg Jb m;rw[Ay]at h4;have hz:∀k,val O (L0 k 0)=0:=by
  intro k;induction k with
  |zero=>rfl
  |succ k ih=>rw[A8,JB,ih];rfl
 have Qa:(Jc O m).take l=Jc O m:=Ab (by omega);rw[Qa,hv]at h4;have key:(c::L0 l 0)[l]?.getD 0+over<O∧val O (q++[(c::L0 l 0)[l]?.getD 0+over])=c+m*10000000000000000000:=by
  cases l with
  |zero=>
   grind[val]
  |succ l=>
   grind[Yb,JB]
 refine⟨key.1,?_⟩;rw[←JF Jb (h2.append (Bn.cons key.1 (Bn.nil _))),key.2]
def IP{r d:Nat}(h:r+d<O):L2.wrap ((r:Int)+d)=((r+d:Nat):Int):=by
 unfold O at h;rw[IntKind.wrap_u64];omega
def IQ{w4:World}{nb c l:Nat}{q:Y}(hA:Bo w4 nb (Bq (c::L0 l 0) 0 l q))(hq:q.length=l):
 w4.cell? ⟨nb,l,none⟩=some (.int .u64 ((c::L0 l 0)[l]?.getD 0:Nat))∧w4.frozen? ⟨nb,l,none⟩=false∧∀v,Bo (w4.setCell ⟨nb,l,none⟩ (.int .u64 (v:Nat))) nb (q++[v]):=by
 have e0:Bq (c::L0 l 0) 0 l q=q++[(c::L0 l 0)[l]?.getD 0]:=by
  grind[Bq,AC]
 have hc:=hA.cell (j:=l) (by rw[e0];simp;omega);rw[e0,List.getElem?_append_right (by omega),hq,AO]at hc;refine⟨hc,hA.frozen l,fun v=>?_⟩;have:=hA.set l v;rw[e0,A3 _ _ (by omega),hq,AO]at this;exact this
def IR(s:ByteArray)(hd:(Je s).all Bu=true)(hs:s.size≤2000)(w:World):
 Calls Tryz.prog 59 #[.string s] w fun e w'=>∃u,e=.returned u∧UN w' u (num (Je s))∧Bl w w':=by
 have HD:=hidR hd;clear hd;go_enter func59,ntmps59
 go_wp2;go_loopw [0,3] (fun dv rv wr=>∃(sb:ByteArray) (dn:List UInt8) (a:N) (l cap:Nat),dv=.string sb∧rv=.slice a l cap∧sb.size≤2000∧l≤2000∧UN wr (.slice a l cap) (num dn)∧Hid (Je s=dn++Je sb∧(dn=[]∨sb.size%19=0))∧Bl w wr) (fun dv _ _=>IJ dv)
 case atStart=>exact⟨s,[],none,0,0,J,J,hs,by omega,by unfold UN;simp[num,B5,val,Jp];exact Row.nil _ _,⟨by simp,AE J⟩,BC _ _⟩
 case round=>
  obtain⟨sb,dn,a,l,cap,rfl,rfl,hsb,hl,hU,HI,hB⟩:=hrel;by_cases h0:sb.size=0
  · have Qb:=Ag (by rw[Jn];exact h0);have e:dn=Je s:=by rw[HI.o.1,Qb,List.append_nil]
    have HE:=hidR e;have hz:sb.size≤0:=by omega
    clear e Qb h0;go_wp2;go_ret;exact⟨_,J,by rw[←HE.o];exact hU,hB⟩
  · have h0':0<sb.size:=by omega
    obtain⟨n,hn⟩:∃n,n=(sb.size-1)%19+1:=⟨_,J⟩;have En:=hidR (show(((sb.size:Int)-1)%19+1)=(n:Int)by omega);have Qw:n≤sb.size:=by omega
    have HN:=hidR hn;clear hn;go_upto_region 4 with fail
    rw[En.o];have Qa:(Je (sb.extract 0 n)).all Bu=true:=by
     have h1:=HD.o;rw[HI.o.1,CC,Ca]at h1;rw[D4,AJ];intro c hc;exact AJ.1 h1.2 c (List.mem_of_mem_take hc)
    have Qf:(sb.extract 0 n).size=n:=by rw[Aw];omega
    have Qk:num (Je (sb.extract 0 n))<10000000000000000000:=by
     have h1:=Dz Qa;rw[Jn,Qf]at h1;have h2:(10:Nat)^n≤10^19:=Ap (by omega) (by have:=HN.o;omega);omega
    have Qh:=hidR (fun V=>II (sb.extract 0 n) Qa (by rw[Qf];have:=HN.o;omega) (by rw[Qf];have:=HN.o;omega) V);obtain⟨c,hc⟩:∃c,c=num (Je (sb.extract 0 n)):=⟨_,J⟩;rw[←hc]at Qk Qh;have Uc:=hidR hc;have Qr:=hidR Qk;clear Qa Qf hc Qk;have hnp:0<n:=by have:=HN.o;omega
    have Qj:Hid (Je s=(dn++Je (sb.extract 0 n))++Je (sb.extract n sb.size)∧(dn++Je (sb.extract 0 n)=[]∨(sb.extract n sb.size).size%19=0)):=by
     refine⟨?_,A6 ?_⟩
     · rw[Cw,D4,FU,AA];exact HI.o.1
     · rw[Aw];have:=HN.o;omega
    have Qu:Hid ((Jc O (num (dn++Je (sb.extract 0 n)))).length≤2000):=by
     have h1:=HD.o;rw[Qj.o.1,CC,Ca]at h1;have h2:=IK h1.1;have h3:=congrArg List.length Qj.o.1;rw[Ar,Jn]at h3;exact AV h2 (by omega)
    have Ua:=Xv l (by omega);go_upto_region 7 with(first|(go_at_call 96;refine(Qh.o _).mono ?_;rintro e w1 ⟨rfl,hb1⟩))
    obtain⟨W2,hW2⟩:=ex (w1.alloc (.cells (cellsOf .u64 (L0 (l+1) 0)).toArray 94));have Qg:Bo W2 w1.heap.size (L0 (l+1) 0):=Bo.made (by rw[←hW2];exact BD w1 _);have Qd:=Bt hB hb1;have Qp:Bl w W2:=by rw[←hW2];exact Qd.alloc Qd.size _
    have Qq:UN W2 (.slice a l cap) (num dn):=by rw[←hW2];exact Row.below (Row.below hU hb1) (Ba _ _)
    have Ql:=Qd.size;have Qn:Hid (∀p,a=some p→0<l→p.block≠w1.heap.size):=by
     intro p ep Qi;obtain⟨_,_,_,_,hcs⟩:=Jk hU;obtain⟨b',off',ea,hlt,_⟩:=hcs 0 Qi;rw[ep]at ea;cases ea;have:=hb1.size;simp only;omega
    have Qm:=hU.len;have Qy:=hidR Qm;rw[hW2];clear hW2 Ua hb1 Qd hU Qm Qh hB;generalize w1.heap.size=nb at *;have z0:=Qg.cell (j:=0) (by simp);have z1:=Qg.frozen 0;go_upto_region 8 with fail
    obtain⟨W3,hW3⟩:=ex (W2.setCell ⟨nb,0,none⟩ (.int .u64 (c:Nat)));have Qo:Bo W3 nb (c::L0 l 0):=by rw[←hW3];have:=Qg.set 0 c;simpa[List.replicate_succ]using this
    have Qs:Bl w W3:=by rw[←hW3];exact Qp.setCell Ql _
    have Ub:UN W3 (.slice a l cap) (num dn):=by rw[←hW3];exact Row.grown Qq (JC _ _ _ _) Qn.o
    rw[hW3];clear hW3 Qg Qp Qq z0 z1;have Qi:=Qo.cell (j:=l) (by simp);obtain⟨y,hy⟩:∃y,y=(c::L0 l 0)[l]?.getD 0:=⟨_,J⟩;rw[←hy]at Qi;have HY:=hidR hy;clear hy;have Qv:=hidR (fun V (hV:Bl W3 V)=>XI nb 0 l (l+1) (c::L0 l 0) a cap (Jc O (num dn)) 10000000000000000000 V (Qo.below hV) (Bn.cons (by have:=Qr.o;unfold O;omega) (fun d hd=>by rw[Cb hd];unfold O;omega)) (by simp) (by omega) (Row.below Ub hV) (Jh Jb _) Qn.o (by unfold O;omega));have i0:(0:Int)≤(l:Int):=by omega
    have i1:(l:Int)<(l:Int)+1:=by omega
    have i2:(l:Int)≤(l:Int)+1:=by omega
    go_region_with (first
     |(go_at_call 97;refine(Qv.o _ ?_).mono ?_;exact(BC _ _).drew;rintro e w4 ⟨over,q,rfl,hP,hA4,hg4⟩;obtain⟨k1,k2,k3⟩:=IQ hA4 hP.1;rw[←HY.o]at k1;have Qe:=IM (by have:=Qr.o;unfold O;omega) Qy.o hP;rw[←HY.o]at Qe;have ewr:L2.wrap ((y:Int)+over)=((y+over:Nat):Int):=IP Qe.1;have Qt:=hidR Qe.2;have Qz:=hidR hP.1;clear Qe hP))
    all_goals go_wp2_with fail
    all_goals
     have Qx:Bo (w4.setCell ⟨nb,l,none⟩ (.int .u64 ((y:Int)+over))) nb (q++[y+over]):=by
      have:=k3 (y+over);rwa[Int.natCast_add]at this
     have hql:=Qz.o;have Qc:=Qx.row 0 (l+1) (l+1) (by simp;omega) (by omega) (by omega) (by omega);rw[Ay,Ab (by simp;omega)]at Qc;refine(JQ _ _ _ Qc).mono ?_;rintro e w6 ⟨u,rfl,hu,hb6⟩;rw[Qt.o,IL Uc.o HN.o Qw HI.o.2 h0']at hu;have Ud:=((below_grown Qs.drew hg4 Ql).setCell Ql _).trans (hb6.mono (by have h1:=Qs.size;have h2:=hg4.size;simp[World.setCell]at h2 ⊢;omega));obtain⟨au,cu,eu⟩:=UN.form hu;subst eu;go_wp2;go_roundw
     case rel=>exact⟨sb.extract n sb.size,dn++Je (sb.extract 0 n),au,_,cu,J,J,by rw[Aw];omega,Qu.o,hu,Qj.o,Ud⟩
     case measure=>
      show(sb.extract n sb.size).size<sb.size;rw[Aw];omega
end
open Go.RowKit Go.Shelf
def DJ(b:Bool)(n:Nat):Int:=if b then -(n:Int)else n
def XP(b:Bool)(v:Value)(n:Nat)(w:World)(h:UN w v n):Calls Tryz.prog 58 #[.bool b,v] w fun e w'=>∃u,e=.returned u∧Jd w' u (DJ b n)∧Bl w w':=YB b v n w h
def Xj:Value:=.tuple #[.agg #[.bool false,.slice none 0 0],.bool false]
def DK(s:ByteArray)(w:World):Calls Tryz.prog 50 #[.string s,.string ⟨#[45]⟩] w fun e w'=>e=.returned (.tuple #[.string ⟨(Jv (Je s)).toArray⟩,.bool (decide ((Je s).head?=some 45))])∧w'=w:=by
 refine(Tryz.strings_CutPrefix s ⟨#[45]⟩ w).mono ?_;rintro e w' ⟨rfl,rfl⟩;have e1:Lib.hasPrefix s.data.toList [45]=decide ((Je s).head?=some 45):=by
  unfold Je Lib.hasPrefix;cases s.data.toList with
  |nil=>rfl
  |cons c l=>
   grind
 refine⟨?_,J⟩;have e2:Lib.trimPrefix s.data.toList [45]=Jv (Je s):=by
  grind[Lib.trimPrefix,Jv,Je,List.drop_one]
 grind
theorem D5{l:List UInt8}(h:l.length≤2000):good l=(YT (Jv l) && !(decide (l.head?=some 45)&&decide (Jv l=[48]))):=by
 rw[CB];simp only[good,YT,Ca,Bd,Bool.or_eq_true,Ce,decide_eq_false_iff_not,List.isEmpty_eq_false_iff,Bool.and_eq_false_iff];grind[Jv]
def Yd(l:List UInt8)(w:World)(e:Ending)(w':World):Prop:=
 (good l=true→∃u,e=.returned (.tuple #[u,.bool true])∧Jd w' u (JT l))∧(good l=false→e=.returned Xj)∧Bl w w'
def Yd.no{l:List UInt8}{w w':World}(h:good l=false)(hB:Bl w w'):Yd l w (.returned Xj) w':=
 ⟨fun h'=>(by rw[h]at h';cases h'),fun _=>rfl,hB⟩
def Yd.yes{l:List UInt8}{w w':World}{u:Value}(h:good l=true)(hu:Jd w' u (JT l))(hB:Bl w w'):Yd l w (.returned (.tuple #[u,.bool true])) w':=
 ⟨fun _=>⟨u,J,hu⟩,fun h'=>(by rw[h]at h';cases h'),hB⟩
def IU(s:ByteArray)(h0:2000<s.size)(hs:s.size≤140737488351232)(w:World):Calls Tryz.prog 21 #[.string s] w (Yd (Je s) w):=by
 have HN:=hidR (show good (Je s)=false by
  have:=Jn s;simp[good];omega)
 go_enter func21,ntmps21
 go_wp2_with(first
  |(go_at_call 50;refine(DK _ _).mono ?_;rintro e w' ⟨rfl,rfl⟩))
 exact BB (v:=Xj) (by simp[results,results21,go_sem,Xj]) J (Yd.no HN.o (Ba _ _))
def IV(s:ByteArray)(h0:s.size≤2000)(hn:YT (Jv (Je s))=false)(w:World):Calls Tryz.prog 21 #[.string s] w (Yd (Je s) w):=by
 have HG:=hidR (show good (Je s)=false by rw[D5 (by rw[Jn];exact h0),hn];rfl);obtain⟨tb,htb⟩:=ex ((⟨(Jv (Je s)).toArray⟩:ByteArray):ByteArray);obtain⟨sg,hsg⟩:=ex (decide ((Je s).head?=some 45));have hc:=fun V=>DK s V;rw[htb,hsg]at hc;have hw:Je tb=Jv (Je s):=by rw[←htb];rfl
 have hts:tb.size≤2000:=by
  grind[Jn,Jv]
 have Qa:=hidR (fun V=>XG tb (by omega) V);rw[hw,hn]at Qa;have HC:=hidR hc;clear hc hw hn htb hsg;go_enter func21,ntmps21
 go_wp2_with(first
  |(go_at_call 50;refine(HC.o _).mono ?_;rintro e w' ⟨rfl,rfl⟩)
  |(go_at_call 57;refine(Qa.o _).mono ?_;rintro e w' ⟨rfl,rfl⟩))
 exact BB (v:=Xj) (by simp[results,results21,go_sem,Xj]) J (Yd.no HG.o (Ba _ _))
def IW(s:ByteArray)(h0:s.size≤2000)(hn:YT (Jv (Je s))=true)(hm:(Je s).head?=some 45)(hz:Jv (Je s)=[48])(w:World):Calls Tryz.prog 21 #[.string s] w (Yd (Je s) w):=by
 have HG:=hidR (show good (Je s)=false by grind[D5,Jn]);have hc:=fun V=>DK s V;rw[hz,decide_eq_true hm]at hc;have Qa:=hidR (fun V=>XG ⟨[48].toArray⟩ (by decide) V);have HC:=hidR hc;clear hc hn hm hz;go_enter func21,ntmps21
 go_wp2_with(first
  |(go_at_call 50;refine(HC.o _).mono ?_;rintro e w' ⟨rfl,rfl⟩)
  |(go_at_call 57;refine(Qa.o _).mono ?_;rintro e w' ⟨rfl,rfl⟩))
 exact BB (v:=Xj) (by simp[results,results21,go_sem,Xj]) J (Yd.no HG.o (Ba _ _))
def IX(s tb:ByteArray)(sg:Bool)(h0:s.size≤2000)(HG:Hid (good (Je s)=true))(HC:Hid (∀V,Calls Tryz.prog 50 #[.string s,.string ⟨#[45]⟩] V fun e w'=>e=.returned (.tuple #[.string tb,.bool sg])∧w'=V))
(HNB:Hid (∀V,Calls Tryz.prog 57 #[.string tb] V fun e w'=>e=.returned (.bool true)∧w'=V))(HR:Hid (∀V,Calls Tryz.prog 59 #[.string tb] V fun e w'=>∃u,e=.returned u∧UN w' u (num (Je tb))∧Bl V w'))
(hz:sg=true→(tb.toList == [48])=false)(HV:Hid (JT (Je s)=DJ sg (num (Je tb))))(w:World):Calls Tryz.prog 21 #[.string s] w (Yd (Je s) w):=by
 have bR:=Ji.new w 25 (.bool false) (.slice none 0 0);have Qa:Bl w (w.alloc (.cells #[.bool false,.slice none 0 0] 25)):=Ba _ _;cases sg
 · clear hz;go_enter func21,ntmps21
   go_wp2_with(first
    |(go_at_call 50;refine(HC.o _).mono ?_;rintro e w' ⟨rfl,rfl⟩)
    |(go_at_call 57;refine(HNB.o _).mono ?_;rintro e w' ⟨rfl,rfl⟩)
    |(go_at_call 59;refine(HR.o _).mono ?_;rintro e w1 ⟨u,rfl,hu,hb1⟩;obtain⟨au,cu,rfl⟩:=hu.form;have bR:=bR.below hb1;have Qa:=Bt Qa hb1)
    |(go_at_call 58;refine(XP _ _ _ _ hu).mono ?_;rintro e w2 ⟨v,rfl,hv,hb2⟩;have bR:=bR.below hb2;have Qa:=Bt Qa hb2;rw[←HV.o]at hv;obtain⟨a3,l3,c3,rfl,hr3⟩:=hv;obtain⟨q0,q1⟩:=bR.cp;obtain⟨f0,f1⟩:=bR.fp))
   obtain⟨hr,hB2⟩:=YA (.bool (decide (JT (Je s)<0))) (.slice a3 l3 c3) Qa (Aa _) bR J J hr3;exact BB (by simp[results,results21,go_sem,q0,q1]) J (Yd.yes HG.o ⟨a3,l3,c3,J,hr⟩ hB2)
 · have hz2:=hz J;clear hz;go_enter func21,ntmps21
   go_wp2_with(first
    |(go_at_call 50;refine(HC.o _).mono ?_;rintro e w' ⟨rfl,rfl⟩)
    |(go_at_call 57;refine(HNB.o _).mono ?_;rintro e w' ⟨rfl,rfl⟩)
    |(go_at_call 59;refine(HR.o _).mono ?_;rintro e w1 ⟨u,rfl,hu,hb1⟩;obtain⟨au,cu,rfl⟩:=hu.form;have bR:=bR.below hb1;have Qa:=Bt Qa hb1)
    |(go_at_call 58;refine(XP _ _ _ _ hu).mono ?_;rintro e w2 ⟨v,rfl,hv,hb2⟩;have bR:=bR.below hb2;have Qa:=Bt Qa hb2;rw[←HV.o]at hv;obtain⟨a3,l3,c3,rfl,hr3⟩:=hv;obtain⟨q0,q1⟩:=bR.cp;obtain⟨f0,f1⟩:=bR.fp))
   obtain⟨hr,hB2⟩:=YA (.bool (decide (JT (Je s)<0))) (.slice a3 l3 c3) Qa (Aa _) bR J J hr3;exact BB (by simp[results,results21,go_sem,q0,q1]) J (Yd.yes HG.o ⟨a3,l3,c3,J,hr⟩ hB2)
def IY(s:ByteArray)(hs:s.size≤140737488351232)(w:World):Calls Tryz.prog 21 #[.string s] w (Yd (Je s) w):=by
 by_cases h0:2000<s.size
 · exact IU s h0 hs w
 have h1:s.size≤2000:=by omega
 cases hn:YT (Jv (Je s))
 · exact IV s h1 hn w
 by_cases hc:(Je s).head?=some 45∧Jv (Je s)=[48]
 · exact IW s h1 hn hc.1 hc.2 w
 have hg:good (Je s)=true:=by
  grind[D5,Jn]
 have Qa:(Jv (Je s)).all Bu=true:=by
  grind[YT]
 have hw:Je (⟨(Jv (Je s)).toArray⟩:ByteArray)=Jv (Je s):=rfl;have Qb:(⟨(Jv (Je s)).toArray⟩:ByteArray).size≤2000:=by
  grind[Jn,Jv]
 refine IX s ⟨(Jv (Je s)).toArray⟩ (decide ((Je s).head?=some 45)) h1 hg (fun V=>DK s V) (fun V=>?_) (fun V=>?_) (fun h=>?_) ?_ w
 · have:=XG ⟨(Jv (Je s)).toArray⟩ (by omega) V;rw[hw,hn]at this;exact this
 · exact IR ⟨(Jv (Je s)).toArray⟩ (by rw[hw];exact Qa) Qb V
 · grind[Lib.toList_data]
 · show JT (Je s)=_;grind[JT,DJ]
def row_one(W:World)(v:Nat):Row .u64 (W.alloc (.cells #[.int .u64 (v:Nat)] 94)) (.slice (some ⟨W.heap.size,0,none⟩) 1 1) [v]:=by
 refine⟨_,1,J,by simp,by omega,by simp,A6 ⟨W.heap.size,0,J,⟨_,_,BD W _⟩,fun j hj=>?_⟩⟩
 have:j=0:=by simp at hj;omega
 subst this;exact(BK W 94 (.int .u64 (v:Nat))).cell
def IZ{n:Nat}(h0:n≠0)(h:n<O):Jc O n=[n]:=by
 grind[J5,AU,AL,Jp]
def Ia{n:Nat}(h:n<O):Jr [n]=Jc O n:=by
 have:=JF Jb (ds:=[n]) (Bn.cons h (Bn.nil _));rw[←this];simp[val]
def Ib(N:Nat)(hN:N≤9223372036854775807)(w:World):Calls Tryz.prog 40 #[.int .i64 (N:Int)] w fun e w'=>∃u,e=.returned u∧Jd w' u N∧Bl w w':=by
 have hg:¬((N:Int)<0):=by omega
 have ec:L2.wrap (N:Int)=(N:Int):=by rw[IntKind.wrap_u64];omega
 have HT:=hidR (Ia (n:=N) (by unfold O;omega));have bR:=(Ji.new w 25 (.bool false) (.slice none 0 0)).alloc (.cells #[.int .u64 (N:Nat)] 94);have Qa:Bl w ((w.alloc (.cells #[.bool false,.slice none 0 0] 25)).alloc (.cells #[.int .u64 (N:Nat)] 94)):=(Ba _ _).alloc (by simp) _;have Qb:=row_one (w.alloc (.cells #[.bool false,.slice none 0 0] 25)) N;rw[BA]at Qb;have e0:(N:Int)=DJ false N:=rfl;have HE:=hidR e0;clear e0;go_enter func40,ntmps40
 go_wp2_with(first
  |(go_at_call 73;refine(JQ _ _ _ Qb).mono ?_;rintro e w1 ⟨u,rfl,hu,hb1⟩;rw[HT.o]at hu;obtain⟨au,cu,rfl⟩:=UN.form hu;have bR:=bR.below hb1;have Qa:=Bt Qa hb1)
  |(go_at_call 58;refine(XP _ _ _ _ hu).mono ?_;rintro e w2 ⟨v,rfl,hv,hb2⟩;have bR:=bR.below hb2;have Qa:=Bt Qa hb2;rw[←HE.o]at hv;obtain⟨a3,l3,c3,rfl,hr3⟩:=hv;obtain⟨q0,q1⟩:=bR.cp;obtain⟨f0,f1⟩:=bR.fp))
 obtain⟨hr,hB2⟩:=YA (.bool (decide ((N:Int)<0))) (.slice a3 l3 c3) Qa (Aa _) bR J J hr3;exact BB (v:=.agg #[.bool (decide ((N:Int)<0)),.slice a3 l3 c3]) (by simp[results,results40,go_sem,q0,q1]) J ⟨_,J,⟨a3,l3,c3,J,hr⟩,hB2⟩
def Ic(N:Nat)(h0:1≤N)(hN:N≤9223372036854775808)(w:World):Calls Tryz.prog 40 #[.int .i64 (-(N:Int))] w fun e w'=>∃u,e=.returned u∧Jd w' u (-(N:Int))∧Bl w w':=by
 have hg:-(N:Int)<0:=by omega
 have ec:L2.wrap (-(L2.wrap (-(N:Int))))=(N:Int):=by simp only[IntKind.wrap_u64];omega
 have HT:=hidR (IZ (n:=N) (by omega) (by unfold O;omega));have bR:=(Ji.new w 25 (.bool false) (.slice none 0 0)).alloc (.cells #[.int .u64 (N:Nat)] 94);have Qb:Bl w ((w.alloc (.cells #[.bool false,.slice none 0 0] 25)).alloc (.cells #[.int .u64 (N:Nat)] 94)):=(Ba _ _).alloc (by simp) _;have Qa:=row_one (w.alloc (.cells #[.bool false,.slice none 0 0] 25)) N;rw[BA,←HT.o]at Qa;have Qa:UN ((w.alloc (.cells #[.bool false,.slice none 0 0] 25)).alloc (.cells #[.int .u64 (N:Nat)] 94)) (.slice (some ⟨w.heap.size+1,0,none⟩) 1 1) N:=Qa;have e0:-(N:Int)=DJ true N:=rfl;have HE:=hidR e0;clear e0;go_enter func40,ntmps40
 go_wp2_with(first
  |(go_at_call 58;refine(XP _ _ _ _ Qa).mono ?_;rintro e w2 ⟨v,rfl,hv,hb2⟩;have bR:=bR.below hb2;have Qb:=Bt Qb hb2;rw[←HE.o]at hv;obtain⟨a3,l3,c3,rfl,hr3⟩:=hv;obtain⟨q0,q1⟩:=bR.cp;obtain⟨f0,f1⟩:=bR.fp))
 obtain⟨hr,hB2⟩:=YA (.bool true) (.slice a3 l3 c3) Qb (Aa _) bR J J hr3;exact BB (v:=.agg #[.bool true,.slice a3 l3 c3]) (by simp[results,results40,go_sem,q0,q1]) J ⟨_,J,⟨a3,l3,c3,by rw[show decide (-(N:Int)<0)=true from decide_eq_true hg],hr⟩,hB2⟩
def C7(n:Int)(h1:-9223372036854775808≤n)(h2:n≤9223372036854775807)(w:World):Calls Tryz.prog 40 #[.int .i64 n] w fun e w'=>∃u,e=.returned u∧Jd w' u n∧Bl w w':=by
 by_cases h:n<0
 · have e:n=-(n.natAbs:Int):=by omega
   rw[e];exact Ic n.natAbs (by omega) (by omega) w
 · have e:n=(n.natAbs:Int):=by omega
   rw[e];exact Ib n.natAbs (by omega) w

