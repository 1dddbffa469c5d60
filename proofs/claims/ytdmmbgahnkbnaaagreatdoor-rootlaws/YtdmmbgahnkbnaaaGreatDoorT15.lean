import Derived.Test.YtdmmbgahnkbnaaaGreatDoorT10
import Derived.Test.YtdmmbgahnkbnaaaGreatDoorT09
import Derived.Deep.DeepCutAuto
import Derived.Deep.RegionHeld3
import Derived.Deep.RegionWith
import Derived.Deep.OwnRows
import Derived.Test.YtdmmbgahnkbnaaaGreatDoorT04
set_option linter.all false
open Go.Proofs.Tryz renaming prog->B
open Go.Value renaming slice->C,string->D,bool->E
open Go renaming World->F,Calls->G
set_option maxRecDepth 99999
set_option maxHeartbeats 0
namespace Go.Proofs.YtdmmbgahnkbnaaaGreatDoor
section
open Go.RowKit Go.Shelf Go.Deep
variable{s:ByteArray}{q:List Nat}{l:List UInt8}{c n:Nat}
def hidR{p:Prop}(h:p):Hid p:=h
theorem fL(l:List UInt8)(a:Nat)(h:l.all Dc=true)(d:num l+10^l.length*a<18446744073709551616):Lib.parseUintM (2^64-1) a l=.ok (num l+10^l.length*a):=by
 induction l generalizing a with
 |nil=>simp[Lib.parseUintM,num,D9,val]
 |cons c l j=>
  have f:=AN.1 h c (AF ..);have hl:l.all Dc=true:=DK
  have i:=Xz f;have e:num (c::l)=num l+10^l.length*(c.toNat-48):=by
   have:=Lp [c] l;rw[List.singleton_append]at this;rw[this];congr 2
  have b:num (c::l)+10^(c::l).length*a=num l+10^l.length*(a*10+(c.toNat-48)):=by
   grind
  rw[b]at d ⊢;have hp:1<=10^l.length:=Nat.one_le_pow _ _ O;have g:a*10+(c.toNat-48)<=10^l.length*(a*10+(c.toNat-48)):=Cl _ O;grind[Lib.parseUintM]
def Pk(h:l.all Dc=true):num l<10^l.length:=by
 have:=YS (NC h);rwa[Lo]at this
def fM(h:l.all Dc=true)(b:l≠[])(a:l.length<=19):Lib.parseUintB 64 l=.ok (num l):=by
 have c:=Pk h;have d:(10:Nat)^l.length<=10^19:=AC O a;grind[Lib.parseUintB,fL]
def bytesWorld_below(w:F)(e:TypeId)(s:ByteArray):Bl w (Lib.bytesWorld w e s):=by
 unfold Lib.bytesWorld;refine⟨J,J,J,?_,λk hk=>?_⟩
 . simp[World.freeze]
 . show(Array.modify _ _ _)[k]?=_;rw[Array.getElem?_modify,BE (show ¬w.heap.size=k by omega)];exact Bi w.drew _ k hk
def Pl:Jj (s.extract 0 n)=(Jj s).take n:=by
 unfold Jj;rw[Lib.extract_data];simp
def Tj:Jj (s.extract n s.size)=(Jj s).drop n:=by
 grind[Jj,Lib.extract_data,JS]
def fN(s:ByteArray)(h:(Jj s).all Dc=true)(a:0<s.size)(b:s.size<=19)(w:F):
 G B 180 #[D s,.int .i64 10,.int .i64 64] w λe w'=>e=.returned (.tuple #[.int .u64 (num (Jj s):Nat),.nilIface])/\Bl w w':=by
 have hl:=JS s;refine(Tryz.strconv_ParseUint_10_at64_ok s O _ (fM (l:=Jj s) h (by intro e;rw[e]at hl;simp at hl;omega) O) w).mono ?_;rintro e w' ⟨rfl,rfl|rfl⟩
 . exact⟨J,BB _ _⟩
 . exact⟨J,bytesWorld_below _ _ _⟩
def fO:Value->Nat|D s=>s.size|_=>0
def fP(h:l.all Dc=true):(Jh Y (num l)).length<=l.length:=by
 refine Yq Jf (AJ (Pk h) (CG ?_ _));unfold Y;omega
def fQ{sb:ByteArray}{a:List UInt8}(d:c=num (Jj (sb.extract 0 n)))(hn:n=(sb.size-1)%19+1)(f:n<=sb.size)(b:a=[]\/sb.size%19=0)(e:0<sb.size):c+num a*10000000000000000000=num (a++Jj (sb.extract 0 n)):=by
 have hl:(Jj (sb.extract 0 n)).length=n:=by rw[JS,Ck];omega
 rw[Lp,hl,<-d];rcases b with rfl|b
 . simp[num,D9,val]
 . have:n=19:=O
   rw[this,AV]
def fR{m l a:Nat}(n:c<Y)(hl:l=(Jh Y m).length)(h:F5 (c::List.replicate l 0) (Jh Y m) 0 10000000000000000000 l a q):
 (c::List.replicate l 0)[l]?.getD 0+a<Y/\J2 (q++[(c::List.replicate l 0)[l]?.getD 0+a])=Jh Y (c+m*10000000000000000000):=by
 obtain⟨i,f,j,d⟩:=h;have hv:=JA Jf m;rw[Cm]at d;have o:∀k,val Y (List.replicate k 0)=0:=by
  intro k;induction k with
  |zero=>rfl
  |succ k g=>rw[Fc,Yv,g];rfl
 have e:(Jh Y m).take l=Jh Y m:=Af O;rw[e,hv]at d;have b:(c::List.replicate l 0)[l]?.getD 0+a<Y/\val Y (q++[(c::List.replicate l 0)[l]?.getD 0+a])=c+m*10000000000000000000:=by
  cases l with
  |zero=>
   grind[val]
  |succ l=>
   grind[IP,Yv]
 refine⟨b.1,?_⟩;rw[<-YJ Jf (f.append (DR.cons b.1 (DR.nil _))),b.2]
def fS{r d:Nat}(h:r+d<Y):IntKind.u64.wrap ((r:Int)+d)=((r+d:Nat):Int):=by
 unfold Y at h;rw[IntKind.wrap_u64];omega
def fT{a:F}{nb l:Nat}(hA:DU a nb (mid (c::List.replicate l 0) 0 l q))(hq:q.length=l):
 a.cell? ⟨nb,l,none⟩=some (.int .u64 ((c::List.replicate l 0)[l]?.getD 0:Nat))/\a.frozen? ⟨nb,l,none⟩=false/\∀v,DU (a.setCell ⟨nb,l,none⟩ (.int .u64 (v:Nat))) nb (q++[v]):=by
 have b:mid (c::List.replicate l 0) 0 l q=q++[(c::List.replicate l 0)[l]?.getD 0]:=by
  grind[mid,AY]
 have d:=hA.cell (j:=l) (by rw[b];simp;omega);rw[b,A9 O,hq,Cr]at d;refine⟨d,hA.frozen l,λv=>?_⟩;have:=hA.set l v;rw[b,CO _ _ O,hq,Cr]at this;exact this
def fU(s:ByteArray)(N:(Jj s).all Dc=true)(hs:s.size<=2000)(w:F):
 G B 98 #[D s] w λe w'=>∃u,e=.returned u/\UN w' u (num (Jj s))/\Bl w w':=by
 have HD:=hidR N;clear N;go_enter Tryz.func98,Tryz.ntmps98
 go_wp2;go_loopw [0,3] (λdv rv wr=>∃(sb:ByteArray) (b:List UInt8) (a:Option Addr) (l cap:Nat),dv=D sb/\rv=C a l cap/\sb.size<=2000/\l<=2000/\UN wr (C a l cap) (num b)/\Hid (Jj s=b++Jj sb/\(b=[]\/sb.size%19=0))/\Bl w wr) λdv _ _=>fO dv
 case atStart=>exact⟨s,[],none,0,0,rfl,rfl,hs,O,by unfold UN;simp[num,D9,val,JV];exact Row.nil _ _,⟨DL,Or.inl rfl⟩,BB _ _⟩
 case round=>
  obtain⟨sb,b,a,l,cap,rfl,rfl,az,hl,i,t,X⟩:=hrel;by_cases h0:sb.size=0
  . have Qb:=AM (by rw[JS];exact h0);have e:b=Jj s:=by rw[t.o.1,Qb,CR]
    have HE:=hidR e;have hz:sb.size<=0:=O
    clear e Qb h0;go_wp2;go_ret;exact⟨_,rfl,by rw[<-HE.o];exact i,X⟩
  . have ah:0<sb.size:=O
    obtain⟨n,hn⟩:∃n,n=(sb.size-1)%19+1:=⟨_,rfl⟩;have En:=hidR (show(((sb.size:Int)-1)%19+1)=(n:Int)by omega);have Qw:n<=sb.size:=O
    have g:=hidR hn;clear hn;go_upto_region 4 with fail
    rw[En.o];have P:(Jj (sb.extract 0 n)).all Dc=true:=by
     have f:=HD.o;rw[t.o.1,Fx,CS]at f;rw[Pl,AN];intro c o;exact AN.1 f.2 c (List.mem_of_mem_take o)
    have z:(sb.extract 0 n).size=n:=by rw[Ck];omega
    have U:num (Jj (sb.extract 0 n))<10000000000000000000:=by
     have f:=Pk P;rw[JS,z]at f;have K:(10:Nat)^n<=10^19:=AC O (by have:=g.o;omega);omega
    have Q:=hidR λV=>fN (sb.extract 0 n) P (by rw[z];have:=g.o;omega) (by rw[z];have:=g.o;omega) V;obtain⟨c,o⟩:∃c,c=num (Jj (sb.extract 0 n)):=⟨_,rfl⟩;rw[<-o]at U Q;have Uc:=hidR o;have Qr:=hidR U;clear P z o U;have aq:0<n:=by have:=g.o;omega
    have S:Hid (Jj s=(b++Jj (sb.extract 0 n))++Jj (sb.extract n sb.size)/\(b++Jj (sb.extract 0 n)=[]\/(sb.extract n sb.size).size%19=0)):=by
     refine⟨?_,Or.inr ?_⟩
     . rw[CT,Pl,Tj,A4];exact t.o.1
     . rw[Ck];have:=g.o;omega
    have Qu:Hid ((Jh Y (num (b++Jj (sb.extract 0 n)))).length<=2000):=by
     have f:=HD.o;rw[S.o.1,Fx,CS]at f;have K:=fP f.1;have h3:=congrArg List.length S.o.1;rw[Aw,JS]at h3;exact Ad K O
    have Ua:=NO l O;go_upto_region 7 with(first|(go_at_call 180;refine(Q.o _).mono ?_;rintro e w1 ⟨rfl,M⟩))
    obtain⟨H,k⟩:=ex (w1.alloc (.cells (cellsOf .u64 (List.replicate (l+1) 0)).toArray 141));have A:DU H w1.heap.size (List.replicate (l+1) 0):=DU.made (by rw[<-k];exact BD w1 _);have v:=Bt X M;have Qp:Bl w H:=by rw[<-k];exact v.alloc v.size _
    have Qq:UN H (C a l cap) (num b):=by rw[<-k];exact Row.below (Row.below i M) (Ba _ _)
    have W:=v.size;have Qo:Hid (∀p,a=some p->0<l->p.block≠w1.heap.size):=by
     intro p ep R;obtain⟨_,_,_,_,aj⟩:=JB i;obtain⟨b',bf,ea,ap,_⟩:=aj 0 R;rw[ep]at ea;cases ea;have:=M.size;simp only;omega
    have Qn:=i.len;have Qy:=hidR Qn;rw[k];clear k Ua M v i Qn Q X;generalize w1.heap.size=nb at *;have z0:=A.cell (j:=0) DL;have z1:=A.frozen 0;go_upto_region 8 with fail
    obtain⟨I,m⟩:=ex (H.setCell ⟨nb,0,none⟩ (.int .u64 (c:Nat)));have T:DU I nb (c::List.replicate l 0):=by rw[<-m];have:=A.set 0 c;simpa[List.replicate_succ]using this
    have Qs:Bl w I:=by rw[<-m];exact Qp.setCell W _
    have Ub:UN I (C a l cap) (num b):=by rw[<-m];exact Row.grown Qq (J1 _ _ _ _) Qo.o
    rw[m];clear m A Qp Qq z0 z1;have R:=T.cell (j:=l) DL;have an:=T.frozen l;obtain⟨y,hy⟩:∃y,y=(c::List.replicate l 0)[l]?.getD 0:=⟨_,rfl⟩;rw[<-hy]at R;have HY:=hidR hy;clear hy;have Qv:=hidR λV (hV:Bl I V)=>Pi nb 0 l (l+1) (c::List.replicate l 0) a cap (Jh Y (num b)) 10000000000000000000 V (T.below hV) (DR.cons (by have:=Qr.o;unfold Y;omega) λd N=>by rw[C6 N];unfold Y;omega) DL O (Row.below Ub hV) (Jy Jf _) Qo.o uo;have i0:(0:Int)<=(l:Int):=O
    have i1:(l:Int)<(l:Int)+1:=O
    have i2:(l:Int)<=(l:Int)+1:=O
    go_region_with (first
     |(go_at_call 181;refine(Qv.o _ ?_).mono ?_;exact(BB _ _).drew;rintro e w4 ⟨r,q,rfl,L,hA4,ae⟩;obtain⟨k1,k2,k3⟩:=fT hA4 L.1;rw[<-HY.o]at k1;have x:=fR (by have:=Qr.o;unfold Y;omega) Qy.o L;rw[<-HY.o]at x;have am:IntKind.u64.wrap ((y:Int)+r)=((y+r:Nat):Int):=fS x.1;have Qt:=hidR x.2;have Qz:=hidR L.1;clear x L))
    all_goals go_wp2_with fail
    all_goals
     have Qx:DU (w4.setCell ⟨nb,l,none⟩ (.int .u64 ((y:Int)+r))) nb (q++[y+r]):=by
      have:=k3 (y+r);rwa[Int.natCast_add]at this
     have ay:=Qz.o;have Qc:=Qx.row 0 (l+1) (l+1) si O O O;rw[Cm,Af si]at Qc;refine(Xq _ _ _ Qc).mono ?_;rintro e w6 ⟨u,rfl,hu,ai⟩;rw[Qt.o,fQ Uc.o g.o Qw t.o.2 ah]at hu;have Ud:=((below_grown Qs.drew ae W).setCell W _).trans (ai.mono (by have f:=Qs.size;have K:=ae.size;simp[World.setCell]at K ⊢;omega));obtain⟨au,cu,eu⟩:=UN.form hu;subst eu;go_wp2;go_roundw
     case rel=>exact⟨sb.extract n sb.size,b++Jj (sb.extract 0 n),au,_,cu,rfl,rfl,by rw[Ck];omega,Qu.o,hu,S.o,Ud⟩
     case measure=>
      show(sb.extract n sb.size).size<sb.size;rw[Ck];omega
end
open Go.RowKit Go.Shelf
def Lw(b:Bool)(n:Nat):Int:=if b then -(n:Int)else n
variable{l:List UInt8}{n:Nat}{w w':F}
def NT(b:Bool)(v:Value)(n:Nat)(w:F)(h:UN w v n):G B 94 #[E b,v] w λe w'=>∃u,e=.returned u/\Jk w' u (Lw b n)/\Bl w w':=KT b v n w h
def I3:Value:=.tuple #[.agg #[E false,C none 0 0],E false]
def Lx(s:ByteArray)(w:F):G B 89 #[D s,D ⟨#[45]⟩] w λe w'=>e=.returned (.tuple #[D ⟨(Yc (Jj s)).toArray⟩,E (decide ((Jj s).head?=some 45))])/\w'=w:=by
 refine(Tryz.strings_CutPrefix s ⟨#[45]⟩ w).mono ?_;rintro e w' ⟨rfl,rfl⟩;have a:Lib.hasPrefix s.data.toList [45]=decide ((Jj s).head?=some 45):=by
  unfold Jj Lib.hasPrefix;cases s.data.toList with
  |nil=>rfl
  |cons c l=>
   grind
 refine⟨?_,J⟩;have b:Lib.trimPrefix s.data.toList [45]=Yc (Jj s):=by
  grind[Lib.trimPrefix,Yc,Jj,List.drop_one]
 grind
theorem Pm(h:l.length<=2000):good l=(Gb (Yc l) && !(decide (l.head?=some 45)&&decide (Yc l=[48]))):=by
 rw[FH];simp only[good,Gb,CS,Bw,Bool.or_eq_true,CU,Bu,List.isEmpty_eq_false_iff,Bool.and_eq_false_iff];grind[Yc]
def GM(l:List UInt8)(w:F)(e:Ending)(w':F):Prop:=
 (good l=true->∃u,e=.returned (.tuple #[u,E true])/\Jk w' u (D5 l))/\(good l=false->e=.returned I3)/\Bl w w'
def GM.no(h:good l=false)(b:Bl w w'):GM l w (.returned I3) w':=
 ⟨λa=>(by rw[h]at a;cases a),λ_=>rfl,b⟩
def GM.yes{u:Value}(h:good l=true)(c:Jk w' u (D5 l))(b:Bl w w'):GM l w (.returned (.tuple #[u,E true])) w':=
 ⟨λ_=>⟨u,J,c⟩,λa=>(by rw[h]at a;cases a),b⟩
def fV(s:ByteArray)(b:2000<s.size)(hs:s.size<=140737488351232)(w:F):G B 37 #[D s] w (GM (Jj s) w):=by
 have a:=hidR (show good (Jj s)=false by
  have:=JS s;simp[good];omega)
 go_enter Tryz.func37,Tryz.ntmps37
 go_wp2_with(first
  |(go_at_call 89;refine(Lx _ _).mono ?_;rintro e w' ⟨rfl,rfl⟩))
 exact BA (v:=I3) (by simp[results,Tryz.results37,go_sem,I3]) rfl (GM.no a.o (Ba _ _))
def fW(s:ByteArray)(j:s.size<=2000)(hn:Gb (Yc (Jj s))=false)(w:F):G B 37 #[D s] w (GM (Jj s) w):=by
 have i:=hidR (show good (Jj s)=false by rw[Pm (by rw[JS];exact j),hn];rfl);obtain⟨tb,b⟩:=ex ((⟨(Yc (Jj s)).toArray⟩:ByteArray):ByteArray);obtain⟨sg,d⟩:=ex (decide ((Jj s).head?=some 45));have a:=λV=>Lx s V;rw[b,d]at a;have f:Jj tb=Yc (Jj s):=by rw[<-b];rfl
 have k:tb.size<=2000:=by
  grind[JS,Yc]
 have c:=hidR λV=>PZ tb O V;rw[f,hn]at c;have g:=hidR a;clear a f hn b d;go_enter Tryz.func37,Tryz.ntmps37
 go_wp2_with(first
  |(go_at_call 89;refine(g.o _).mono ?_;rintro e w' ⟨rfl,rfl⟩)
  |(go_at_call 97;refine(c.o _).mono ?_;rintro e w' ⟨rfl,rfl⟩))
 exact BA (v:=I3) (by simp[results,Tryz.results37,go_sem,I3]) rfl (GM.no i.o (Ba _ _))
def fX(s:ByteArray)(i:s.size<=2000)(hn:Gb (Yc (Jj s))=true)(b:(Jj s).head?=some 45)(c:Yc (Jj s)=[48])(w:F):G B 37 #[D s] w (GM (Jj s) w):=by
 have f:=hidR (show good (Jj s)=false by grind[Pm,JS]);have a:=λV=>Lx s V;rw[c,decide_eq_true b]at a;have g:=hidR λV=>PZ ⟨[48].toArray⟩ DN V;have d:=hidR a;clear a hn b c;go_enter Tryz.func37,Tryz.ntmps37
 go_wp2_with(first
  |(go_at_call 89;refine(d.o _).mono ?_;rintro e w' ⟨rfl,rfl⟩)
  |(go_at_call 97;refine(g.o _).mono ?_;rintro e w' ⟨rfl,rfl⟩))
 exact BA (v:=I3) (by simp[results,Tryz.results37,go_sem,I3]) rfl (GM.no f.o (Ba _ _))
def fY(s tb:ByteArray)(sg:Bool)(y:s.size<=2000)(o:Hid (good (Jj s)=true))(n:Hid (∀V,G B 89 #[D s,D ⟨#[45]⟩] V λe w'=>e=.returned (.tuple #[D tb,E sg])/\w'=V))
(p:Hid (∀V,G B 97 #[D tb] V λe w'=>e=.returned (E true)/\w'=V))(q:Hid (∀V,G B 98 #[D tb] V λe w'=>∃u,e=.returned u/\UN w' u (num (Jj tb))/\Bl V w'))
(m:sg=true->(tb.toList == [48])=false)(r:Hid (D5 (Jj s)=Lw sg (num (Jj tb))))(w:F):G B 37 #[D s] w (GM (Jj s) w):=by
 have a:=JD.new w 39 (E false) (C none 0 0);have b:Bl w (w.alloc (.cells #[E false,C none 0 0] 39)):=Ba _ _;cases sg
 . clear m;go_enter Tryz.func37,Tryz.ntmps37
   go_wp2_with(first
    |(go_at_call 89;refine(n.o _).mono ?_;rintro e w' ⟨rfl,rfl⟩)
    |(go_at_call 97;refine(p.o _).mono ?_;rintro e w' ⟨rfl,rfl⟩)
    |(go_at_call 98;refine(q.o _).mono ?_;rintro e w1 ⟨u,rfl,g,d⟩;obtain⟨t,x,rfl⟩:=g.form;have a:=a.below d;have b:=Bt b d)
    |(go_at_call 94;refine(NT _ _ _ _ g).mono ?_;rintro e w2 ⟨v,rfl,hv,f⟩;have a:=a.below f;have b:=Bt b f;rw[<-r.o]at hv;obtain⟨c,i,c3,rfl,l⟩:=hv;obtain⟨q0,q1⟩:=a.cp;obtain⟨f0,f1⟩:=a.fp))
   obtain⟨k,j⟩:=KR (E (decide (D5 (Jj s)<0))) (C c i c3) b (Aa _) a rfl rfl l;exact BA (by simp[results,Tryz.results37,go_sem,q0,q1]) rfl (GM.yes o.o ⟨c,i,c3,rfl,k⟩ j)
 . have z:=m rfl;clear m;go_enter Tryz.func37,Tryz.ntmps37
   go_wp2_with(first
    |(go_at_call 89;refine(n.o _).mono ?_;rintro e w' ⟨rfl,rfl⟩)
    |(go_at_call 97;refine(p.o _).mono ?_;rintro e w' ⟨rfl,rfl⟩)
    |(go_at_call 98;refine(q.o _).mono ?_;rintro e w1 ⟨u,rfl,g,d⟩;obtain⟨t,x,rfl⟩:=g.form;have a:=a.below d;have b:=Bt b d)
    |(go_at_call 94;refine(NT _ _ _ _ g).mono ?_;rintro e w2 ⟨v,rfl,hv,f⟩;have a:=a.below f;have b:=Bt b f;rw[<-r.o]at hv;obtain⟨c,i,c3,rfl,l⟩:=hv;obtain⟨q0,q1⟩:=a.cp;obtain⟨f0,f1⟩:=a.fp))
   obtain⟨k,j⟩:=KR (E (decide (D5 (Jj s)<0))) (C c i c3) b (Aa _) a rfl rfl l;exact BA (by simp[results,Tryz.results37,go_sem,q0,q1]) rfl (GM.yes o.o ⟨c,i,c3,rfl,k⟩ j)
def fZ(s:ByteArray)(hs:s.size<=140737488351232)(w:F):G B 37 #[D s] w (GM (Jj s) w):=by
 by_cases f:2000<s.size
 . exact fV s f hs w
 have a:s.size<=2000:=O
 cases hn:Gb (Yc (Jj s))
 . exact fW s a hn w
 by_cases b:(Jj s).head?=some 45/\Yc (Jj s)=[48]
 . exact fX s a hn b.1 b.2 w
 have hg:good (Jj s)=true:=by
  grind[Pm,JS]
 have d:(Yc (Jj s)).all Dc=true:=by
  grind[Gb]
 have c:Jj (⟨(Yc (Jj s)).toArray⟩:ByteArray)=Yc (Jj s):=rfl;have e:(⟨(Yc (Jj s)).toArray⟩:ByteArray).size<=2000:=by
  grind[JS,Yc]
 refine fY s ⟨(Yc (Jj s)).toArray⟩ (decide ((Jj s).head?=some 45)) a hg (λV=>Lx s V) (λV=>?_) (λV=>?_) (λh=>?_) ?_ w
 . have:=PZ ⟨(Yc (Jj s)).toArray⟩ O V;rw[c,hn]at this;exact this
 . exact fU ⟨(Yc (Jj s)).toArray⟩ (by rw[c];exact d) e V
 . grind[Lib.toList_data]
 . show D5 (Jj s)=_;grind[D5,Lw]
def row_one(W:F)(v:Nat):Row .u64 (W.alloc (.cells #[.int .u64 (v:Nat)] 141)) (C (some ⟨W.heap.size,0,none⟩) 1 1) [v]:=by
 refine⟨_,1,J,DL,O,DL,Or.inr ⟨W.heap.size,0,J,⟨_,_,BD W _⟩,λj a=>?_⟩⟩
 have:j=0:=by simp at a;omega
 subst this;exact(BH W 141 (.int .u64 (v:Nat))).cell
def fu(a:n≠0)(h:n<Y):Jh Y n=[n]:=by
 grind[Ix,Cx,Ct,JV]
def fv(h:n<Y):J2 [n]=Jh Y n:=by
 have:=YJ Jf (ds:=[n]) (DR.cons h (DR.nil _));rw[<-this];simp[val]
def fw(N:Nat)(x:N<=9223372036854775807)(w:F):G B 35 #[.int .i64 (N:Int)] w λe w'=>∃u,e=.returned u/\Jk w' u N/\Bl w w':=by
 have hg:¬((N:Int)<0):=O
 have t:IntKind.u64.wrap (N:Int)=(N:Int):=by rw[IntKind.wrap_u64];omega
 have m:=hidR (fv (n:=N) uo);have a:=(JD.new w 39 (E false) (C none 0 0)).alloc (.cells #[.int .u64 (N:Nat)] 141);have b:Bl w ((w.alloc (.cells #[E false,C none 0 0] 39)).alloc (.cells #[.int .u64 (N:Nat)] 141)):=(Ba _ _).alloc DL _;have g:=row_one (w.alloc (.cells #[E false,C none 0 0] 39)) N;rw[Ax]at g;have i:(N:Int)=Lw false N:=rfl;have l:=hidR i;clear i;go_enter Tryz.func35,Tryz.ntmps35
 go_wp2_with(first
  |(go_at_call 95;refine(Xq _ _ _ g).mono ?_;rintro e w1 ⟨u,rfl,d,j⟩;rw[m.o]at d;obtain⟨r,s,rfl⟩:=UN.form d;have a:=a.below j;have b:=Bt b j)
  |(go_at_call 94;refine(NT _ _ _ _ d).mono ?_;rintro e w2 ⟨v,rfl,hv,k⟩;have a:=a.below k;have b:=Bt b k;rw[<-l.o]at hv;obtain⟨c,f,c3,rfl,q⟩:=hv;obtain⟨q0,q1⟩:=a.cp;obtain⟨f0,f1⟩:=a.fp))
 obtain⟨p,o⟩:=KR (E (decide ((N:Int)<0))) (C c f c3) b (Aa _) a rfl rfl q;exact BA (v:=.agg #[E (decide ((N:Int)<0)),C c f c3]) (by simp[results,Tryz.results35,go_sem,q0,q1]) rfl ⟨_,rfl,⟨c,f,c3,rfl,p⟩,o⟩
def gA(N:Nat)(q:1<=N)(r:N<=9223372036854775808)(w:F):G B 35 #[.int .i64 (-(N:Int))] w λe w'=>∃u,e=.returned u/\Jk w' u (-(N:Int))/\Bl w w':=by
 have hg:-(N:Int)<0:=O
 have p:IntKind.u64.wrap (-(IntKind.u64.wrap (-(N:Int))))=(N:Int):=by simp only[IntKind.wrap_u64];omega
 have k:=hidR (fu (n:=N) O uo);have a:=(JD.new w 39 (E false) (C none 0 0)).alloc (.cells #[.int .u64 (N:Nat)] 141);have c:Bl w ((w.alloc (.cells #[E false,C none 0 0] 39)).alloc (.cells #[.int .u64 (N:Nat)] 141)):=(Ba _ _).alloc DL _;have b:=row_one (w.alloc (.cells #[E false,C none 0 0] 39)) N;rw[Ax,<-k.o]at b;have b:UN ((w.alloc (.cells #[E false,C none 0 0] 39)).alloc (.cells #[.int .u64 (N:Nat)] 141)) (C (some ⟨w.heap.size+1,0,none⟩) 1 1) N:=b;have g:-(N:Int)=Lw true N:=rfl;have j:=hidR g;clear g;go_enter Tryz.func35,Tryz.ntmps35
 go_wp2_with(first
  |(go_at_call 94;refine(NT _ _ _ _ b).mono ?_;rintro e w2 ⟨v,rfl,hv,i⟩;have a:=a.below i;have c:=Bt c i;rw[<-j.o]at hv;obtain⟨d,f,c3,rfl,o⟩:=hv;obtain⟨q0,q1⟩:=a.cp;obtain⟨f0,f1⟩:=a.fp))
 obtain⟨m,l⟩:=KR (E true) (C d f c3) c (Aa _) a rfl rfl o;exact BA (v:=.agg #[E true,C d f c3]) (by simp[results,Tryz.results35,go_sem,q0,q1]) rfl ⟨_,rfl,⟨d,f,c3,by rw[show decide (-(N:Int)<0)=true from decide_eq_true hg],m⟩,l⟩
def F6(n:Int)(a:-9223372036854775808<=n)(b:n<=9223372036854775807)(w:F):G B 35 #[.int .i64 n] w λe w'=>∃u,e=.returned u/\Jk w' u n/\Bl w w':=by
 by_cases h:n<0
 . have e:n=-(n.natAbs:Int):=O
   rw[e];exact gA n.natAbs O O w
 . have e:n=(n.natAbs:Int):=O
   rw[e];exact fw n.natAbs O w

