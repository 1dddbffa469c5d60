import Derived.Test.YtdmmbgahnkbnaaaGreatDoorU10
import Derived.Test.YtdmmbgahnkbnaaaGreatDoorU09
import Derived.Deep.DeepCutAuto
import Derived.Deep.RegionHeld3
import Derived.Deep.RegionWith
import Derived.Deep.OwnRows
import Derived.Test.YtdmmbgahnkbnaaaGreatDoorU04
set_option linter.all false
open Go.Proofs.Tryz renaming prog->B
open Go.Value renaming slice->C,string->D,bool->E
open Go renaming World->F,Calls->G
set_option maxRecDepth 99999
set_option maxHeartbeats 0
namespace Go.Proofs.YtdmmbgahnkbnaaaGreatDoor
section
open Go.RowKit Go.Shelf Go.Deep
variable{s:ByteArray}{q:List Nat}{l:List UInt8}{c n:Nat}
def hidR{p:Prop}(h:p):Hid p:=h
theorem eM(l:List UInt8)(a:Nat)(h:l.all DW=true)(d:num l+10^l.length*a<18446744073709551616):Lib.parseUintM (2^64-1) a l=.ok (num l+10^l.length*a):=by
 induction l generalizing a with
 |nil=>simp[Lib.parseUintM,num,Dw,val]
 |cons c l j=>
  have f:=AD.1 h c (AH ..);have hl:l.all DW=true:=DG
  have i:=YY f;have e:num (c::l)=num l+10^l.length*(c.toNat-48):=by
   have:=Lc [c] l;rw[List.singleton_append]at this;rw[this];congr 2
  have b:num (c::l)+10^(c::l).length*a=num l+10^l.length*(a*10+(c.toNat-48)):=by
   grind
  rw[b]at d ⊢;have hp:1<=10^l.length:=Nat.one_le_pow _ _ O;have g:a*10+(c.toNat-48)<=10^l.length*(a*10+(c.toNat-48)):=Cc _ O;grind[Lib.parseUintM]
def Pb(h:l.all DW=true):num l<10^l.length:=by
 have:=YR (My h);rwa[Lb]at this
theorem eN(h:l.all DW=true)(b:l≠[])(a:l.length<=19):Lib.parseUintB 64 l=.ok (num l):=by
 have c:=Pb h;have d:(10:Nat)^l.length<=10^19:=An O a;grind[Lib.parseUintB,eM]
def bytesWorld_below(w:F)(e:TypeId)(s:ByteArray):Bl w (Lib.bytesWorld w e s):=by
 unfold Lib.bytesWorld;refine⟨rfl,rfl,rfl,?_,λk hk=>?_⟩
 . simp[World.freeze]
 . show(Array.modify _ _ _)[k]?=_;rw[Array.getElem?_modify,BG (show ¬w.heap.size=k by omega)];exact Bf w.drew _ k hk
def Pc:Jk (s.extract 0 n)=(Jk s).take n:=by
 unfold Jk;rw[Lib.extract_data];simp
theorem TL:Jk (s.extract n s.size)=(Jk s).drop n:=by
 grind[Jk,Lib.extract_data,JQ]
def eQ(s:ByteArray)(h:(Jk s).all DW=true)(a:0<s.size)(b:s.size<=19)(w:F):
 G B 180 #[D s,.int .i64 10,.int .i64 64] w λe w'=>e=.returned (.tuple #[.int .u64 (num (Jk s):Nat),.nilIface])/\Bl w w':=by
 have hl:=JQ s;refine(Tryz.strconv_ParseUint_10_at64_ok s O _ (eN (l:=Jk s) h (by intro e;rw[e]at hl;simp at hl;omega) O) w).mono ?_;rintro e w' ⟨rfl,rfl|rfl⟩
 . exact⟨rfl,BD _ _⟩
 . exact⟨rfl,bytesWorld_below _ _ _⟩
def eS:Value->Nat|D s=>s.size|_=>0
def eT(h:l.all DW=true):(Jh Y (num l)).length<=l.length:=by
 refine Ya Jf (AB (Pb h) (Cy ?_ _));unfold Y;omega
def eU{sb:ByteArray}{a:List UInt8}(d:c=num (Jk (sb.extract 0 n)))(hn:n=(sb.size-1)%19+1)(f:n<=sb.size)(b:a=[]\/sb.size%19=0)(e:0<sb.size):c+num a*10000000000000000000=num (a++Jk (sb.extract 0 n)):=by
 have hl:(Jk (sb.extract 0 n)).length=n:=by rw[JQ,A2];omega
 rw[Lc,hl,<-d];rcases b with rfl|b
 . simp[num,Dw,val]
 . have:n=19:=O
   rw[this,AM]
theorem eV{m l a:Nat}(n:c<Y)(hl:l=(Jh Y m).length)(h:X9 (c::List.replicate l 0) (Jh Y m) 0 10000000000000000000 l a q):
 (c::List.replicate l 0)[l]?.getD 0+a<Y/\J1 (q++[(c::List.replicate l 0)[l]?.getD 0+a])=Jh Y (c+m*10000000000000000000):=by
 obtain⟨i,f,j,d⟩:=h;have hv:=Jy Jf m;rw[Ce]at d;have o:∀k,val Y (List.replicate k 0)=0:=by
  intro k;induction k with
  |zero=>rfl
  |succ k g=>rw[CQ,Yr,g];rfl
 have e:(Jh Y m).take l=Jh Y m:=Af O;rw[e,hv]at d;have b:(c::List.replicate l 0)[l]?.getD 0+a<Y/\val Y (q++[(c::List.replicate l 0)[l]?.getD 0+a])=c+m*10000000000000000000:=by
  cases l with
  |zero=>
   grind[val]
  |succ l=>
   grind[IH,Yr]
 refine⟨b.1,?_⟩;rw[<-YJ Jf (f.append (DN.cons b.1 (DN.nil _))),b.2]
def eX{r d:Nat}(h:r+d<Y):IntKind.u64.wrap ((r:Int)+d)=((r+d:Nat):Int):=by
 unfold Y at h;rw[IntKind.wrap_u64];omega
theorem eY{a:F}{nb l:Nat}(hA:DP a nb (mid (c::List.replicate l 0) 0 l q))(hq:q.length=l):
 a.cell? ⟨nb,l,none⟩=some (.int .u64 ((c::List.replicate l 0)[l]?.getD 0:Nat))/\a.frozen? ⟨nb,l,none⟩=false/\∀v,DP (a.setCell ⟨nb,l,none⟩ (.int .u64 (v:Nat))) nb (q++[v]):=by
 have b:mid (c::List.replicate l 0) 0 l q=q++[(c::List.replicate l 0)[l]?.getD 0]:=by
  grind[mid,AK]
 have d:=hA.cell (j:=l) (by rw[b];simp;omega);rw[b,AZ O,hq,Cl]at d;refine⟨d,hA.frozen l,λv=>?_⟩;have:=hA.set l v;rw[b,CJ _ _ O,hq,Cl]at this;exact this
def eZ(s:ByteArray)(N:(Jk s).all DW=true)(hs:s.size<=2000)(w:F):
 G B 98 #[D s] w λe w'=>∃u,e=.returned u/\UN w' u (num (Jk s))/\Bl w w':=by
 have HD:=hidR N;clear N;go_enter Tryz.func98,Tryz.ntmps98
 go_wp2;go_loopw [0,3] (λdv rv wr=>∃(sb:ByteArray) (b:List UInt8) (a:Option Addr) (l cap:Nat),dv=D sb/\rv=C a l cap/\sb.size<=2000/\l<=2000/\UN wr (C a l cap) (num b)/\Hid (Jk s=b++Jk sb/\(b=[]\/sb.size%19=0))/\Bl w wr) λdv _ _=>eS dv
 case atStart=>exact⟨s,[],none,0,0,rfl,rfl,hs,O,by unfold UN;simp[num,Dw,val,JV];exact Row.nil _ _,⟨DH,Or.inl rfl⟩,BD _ _⟩
 case round=>
  obtain⟨sb,b,a,l,cap,rfl,rfl,az,hl,i,t,X⟩:=hrel;by_cases h0:sb.size=0
  . have Qb:=AG (by rw[JQ];exact h0);have e:b=Jk s:=by rw[t.o.1,Qb,CC]
    have HE:=hidR e;have hz:sb.size<=0:=O
    clear e Qb h0;go_wp2;go_ret;exact⟨_,rfl,by rw[<-HE.o];exact i,X⟩
  . have ah:0<sb.size:=O
    obtain⟨n,hn⟩:∃n,n=(sb.size-1)%19+1:=⟨_,rfl⟩;have En:=hidR (show(((sb.size:Int)-1)%19+1)=(n:Int)by omega);have Qw:n<=sb.size:=O
    have g:=hidR hn;clear hn;go_upto_region 4 with fail
    rw[En.o];have P:(Jk (sb.extract 0 n)).all DW=true:=by
     have f:=HD.o;rw[t.o.1,Fp,C6]at f;rw[Pc,AD];intro c o;exact AD.1 f.2 c (Fz o)
    have z:(sb.extract 0 n).size=n:=by rw[A2];omega
    have U:num (Jk (sb.extract 0 n))<10000000000000000000:=by
     have f:=Pb P;rw[JQ,z]at f;have K:(10:Nat)^n<=10^19:=An O (by have:=g.o;omega);omega
    have Q:=hidR λV=>eQ (sb.extract 0 n) P (by rw[z];have:=g.o;omega) (by rw[z];have:=g.o;omega) V;obtain⟨c,o⟩:∃c,c=num (Jk (sb.extract 0 n)):=⟨_,rfl⟩;rw[<-o]at U Q;have Uc:=hidR o;have Qr:=hidR U;clear P z o U;have aq:0<n:=by have:=g.o;omega
    have S:Hid (Jk s=(b++Jk (sb.extract 0 n))++Jk (sb.extract n sb.size)/\(b++Jk (sb.extract 0 n)=[]\/(sb.extract n sb.size).size%19=0)):=by
     refine⟨?_,Or.inr ?_⟩
     . rw[Cz,Pc,TL,AP];exact t.o.1
     . rw[A2];have:=g.o;omega
    have Qu:Hid ((Jh Y (num (b++Jk (sb.extract 0 n)))).length<=2000):=by
     have f:=HD.o;rw[S.o.1,Fp,C6]at f;have K:=eT f.1;have h3:=congrArg List.length S.o.1;rw[Aw,JQ]at h3;exact Ac K O
    have Ua:=NK l O;go_upto_region 7 with(first|(go_at_call 180;refine(Q.o _).mono ?_;rintro e w1 ⟨rfl,M⟩))
    obtain⟨H,k⟩:=ex (w1.alloc (.cells (cellsOf .u64 (List.replicate (l+1) 0)).toArray 141));have A:DP H w1.heap.size (List.replicate (l+1) 0):=DP.made (by rw[<-k];exact BF w1 _);have v:=Bt X M;have Qp:Bl w H:=by rw[<-k];exact v.alloc v.size _
    have Qq:UN H (C a l cap) (num b):=by rw[<-k];exact Row.below (Row.below i M) (Ba _ _)
    have W:=v.size;have Qo:Hid (∀p,a=some p->0<l->p.block≠w1.heap.size):=by
     intro p ep R;obtain⟨_,_,_,_,aj⟩:=Jz i;obtain⟨b',bf,ea,ap,_⟩:=aj 0 R;rw[ep]at ea;cases ea;have:=M.size;simp only;omega
    have Qn:=i.len;have Qy:=hidR Qn;rw[k];clear k Ua M v i Qn Q X;generalize w1.heap.size=nb at *;have z0:=A.cell (j:=0) DH;have z1:=A.frozen 0;go_upto_region 8 with fail
    obtain⟨I,m⟩:=ex (H.setCell ⟨nb,0,none⟩ (.int .u64 (c:Nat)));have T:DP I nb (c::List.replicate l 0):=by rw[<-m];have:=A.set 0 c;simpa[List.replicate_succ]using this
    have Qs:Bl w I:=by rw[<-m];exact Qp.setCell W _
    have Ub:UN I (C a l cap) (num b):=by rw[<-m];exact Row.grown Qq (J0 _ _ _ _) Qo.o
    rw[m];clear m A Qp Qq z0 z1;have R:=T.cell (j:=l) DH;have an:=T.frozen l;obtain⟨y,hy⟩:∃y,y=(c::List.replicate l 0)[l]?.getD 0:=⟨_,rfl⟩;rw[<-hy]at R;have HY:=hidR hy;clear hy;have Qv:=hidR λV (hV:Bl I V)=>PZ nb 0 l (l+1) (c::List.replicate l 0) a cap (Jh Y (num b)) 10000000000000000000 V (T.below hV) (DN.cons (by have:=Qr.o;unfold Y;omega) λd N=>by rw[CK N];unfold Y;omega) DH O (Row.below Ub hV) (Jv Jf _) Qo.o uo;have i0:(0:Int)<=(l:Int):=O
    have i1:(l:Int)<(l:Int)+1:=O
    have i2:(l:Int)<=(l:Int)+1:=O
    go_region_with (first
     |(go_at_call 181;refine(Qv.o _ ?_).mono ?_;exact(BD _ _).drew;rintro e w4 ⟨r,q,rfl,L,hA4,ae⟩;obtain⟨k1,k2,k3⟩:=eY hA4 L.1;rw[<-HY.o]at k1;have x:=eV (by have:=Qr.o;unfold Y;omega) Qy.o L;rw[<-HY.o]at x;have am:IntKind.u64.wrap ((y:Int)+r)=((y+r:Nat):Int):=eX x.1;have Qt:=hidR x.2;have Qz:=hidR L.1;clear x L))
    all_goals go_wp2_with fail
    all_goals
     have Qx:DP (w4.setCell ⟨nb,l,none⟩ (.int .u64 ((y:Int)+r))) nb (q++[y+r]):=by
      have:=k3 (y+r);rwa[Int.natCast_add]at this
     have ay:=Qz.o;have Qc:=Qx.row 0 (l+1) (l+1) si O O O;rw[Ce,Af si]at Qc;refine(Xs _ _ _ Qc).mono ?_;rintro e w6 ⟨u,rfl,hu,ai⟩;rw[Qt.o,eU Uc.o g.o Qw t.o.2 ah]at hu;have Ud:=((below_grown Qs.drew ae W).setCell W _).trans (ai.mono (by have f:=Qs.size;have K:=ae.size;simp[World.setCell]at K ⊢;omega));obtain⟨au,cu,eu⟩:=UN.form hu;subst eu;go_wp2;go_roundw
     case rel=>exact⟨sb.extract n sb.size,b++Jk (sb.extract 0 n),au,_,cu,rfl,rfl,by rw[A2];omega,Qu.o,hu,S.o,Ud⟩
     case measure=>
      show(sb.extract n sb.size).size<sb.size;rw[A2];omega
end
open Go.RowKit Go.Shelf
def Li(b:Bool)(n:Nat):Int:=if b then -(n:Int)else n
variable{l:List UInt8}{n:Nat}{w w':F}
def NQ(b:Bool)(v:Value)(n:Nat)(w:F)(h:UN w v n):G B 94 #[E b,v] w λe w'=>∃u,e=.returned u/\Ji w' u (Li b n)/\Bl w w':=KQ b v n w h
def Iz:Value:=.tuple #[.agg #[E false,C none 0 0],E false]
theorem Lj(s:ByteArray)(w:F):G B 89 #[D s,D ⟨#[45]⟩] w λe w'=>e=.returned (.tuple #[D ⟨(J2 (Jk s)).toArray⟩,E (decide ((Jk s).head?=some 45))])/\w'=w:=by
 refine(Tryz.strings_CutPrefix s ⟨#[45]⟩ w).mono ?_;rintro e w' ⟨rfl,rfl⟩;have a:Lib.hasPrefix s.data.toList [45]=decide ((Jk s).head?=some 45):=by
  unfold Jk Lib.hasPrefix;cases s.data.toList with
  |nil=>rfl
  |cons c l=>
   grind
 refine⟨?_,rfl⟩;have b:Lib.trimPrefix s.data.toList [45]=J2 (Jk s):=by
  grind[Lib.trimPrefix,J2,Jk,List.drop_one]
 grind
theorem Pd(h:l.length<=2000):good l=(GW (J2 l) && !(decide (l.head?=some 45)&&decide (J2 l=[48]))):=by
 rw[FD];simp only[good,GW,C6,Bu,Bool.or_eq_true,CX,Bn,List.isEmpty_eq_false_iff,Bool.and_eq_false_iff];grind[J2]
def GH(l:List UInt8)(w:F)(e:Ending)(w':F):Prop:=
 (good l=true->∃u,e=.returned (.tuple #[u,E true])/\Ji w' u (XW l))/\(good l=false->e=.returned Iz)/\Bl w w'
def GH.no(h:good l=false)(b:Bl w w'):GH l w (.returned Iz) w':=
 ⟨λa=>(by rw[h]at a;cases a),λ_=>rfl,b⟩
def GH.yes{u:Value}(h:good l=true)(c:Ji w' u (XW l))(b:Bl w w'):GH l w (.returned (.tuple #[u,E true])) w':=
 ⟨λ_=>⟨u,rfl,c⟩,λa=>(by rw[h]at a;cases a),b⟩
def ec(s:ByteArray)(b:2000<s.size)(hs:s.size<=140737488351232)(w:F):G B 37 #[D s] w (GH (Jk s) w):=by
 have a:=hidR (show good (Jk s)=false by
  have:=JQ s;simp[good];omega)
 go_enter Tryz.func37,Tryz.ntmps37
 go_wp2_with(first
  |(go_at_call 89;refine(Lj _ _).mono ?_;rintro e w' ⟨rfl,rfl⟩))
 exact BC (v:=Iz) (by simp[results,Tryz.results37,go_sem,Iz]) rfl (GH.no a.o (Ba _ _))
theorem ef(s:ByteArray)(j:s.size<=2000)(hn:GW (J2 (Jk s))=false)(w:F):G B 37 #[D s] w (GH (Jk s) w):=by
 have i:=hidR (show good (Jk s)=false by rw[Pd (by rw[JQ];exact j),hn];rfl);obtain⟨tb,b⟩:=ex ((⟨(J2 (Jk s)).toArray⟩:ByteArray):ByteArray);obtain⟨sg,d⟩:=ex (decide ((Jk s).head?=some 45));have a:=λV=>Lj s V;rw[b,d]at a;have f:Jk tb=J2 (Jk s):=by rw[<-b];rfl
 have k:tb.size<=2000:=by
  grind[JQ,J2]
 have c:=hidR λV=>PR tb O V;rw[f,hn]at c;have g:=hidR a;clear a f hn b d;go_enter Tryz.func37,Tryz.ntmps37
 go_wp2_with(first
  |(go_at_call 89;refine(g.o _).mono ?_;rintro e w' ⟨rfl,rfl⟩)
  |(go_at_call 97;refine(c.o _).mono ?_;rintro e w' ⟨rfl,rfl⟩))
 exact BC (v:=Iz) (by simp[results,Tryz.results37,go_sem,Iz]) rfl (GH.no i.o (Ba _ _))
theorem eh(s:ByteArray)(i:s.size<=2000)(hn:GW (J2 (Jk s))=true)(b:(Jk s).head?=some 45)(c:J2 (Jk s)=[48])(w:F):G B 37 #[D s] w (GH (Jk s) w):=by
 have f:=hidR (show good (Jk s)=false by grind[Pd,JQ]);have a:=λV=>Lj s V;rw[c,decide_eq_true b]at a;have g:=hidR λV=>PR ⟨[48].toArray⟩ DJ V;have d:=hidR a;clear a hn b c;go_enter Tryz.func37,Tryz.ntmps37
 go_wp2_with(first
  |(go_at_call 89;refine(d.o _).mono ?_;rintro e w' ⟨rfl,rfl⟩)
  |(go_at_call 97;refine(g.o _).mono ?_;rintro e w' ⟨rfl,rfl⟩))
 exact BC (v:=Iz) (by simp[results,Tryz.results37,go_sem,Iz]) rfl (GH.no f.o (Ba _ _))
def ej(s tb:ByteArray)(sg:Bool)(y:s.size<=2000)(o:Hid (good (Jk s)=true))(n:Hid (∀V,G B 89 #[D s,D ⟨#[45]⟩] V λe w'=>e=.returned (.tuple #[D tb,E sg])/\w'=V))
(p:Hid (∀V,G B 97 #[D tb] V λe w'=>e=.returned (E true)/\w'=V))(q:Hid (∀V,G B 98 #[D tb] V λe w'=>∃u,e=.returned u/\UN w' u (num (Jk tb))/\Bl V w'))
(m:sg=true->(tb.toList == [48])=false)(r:Hid (XW (Jk s)=Li sg (num (Jk tb))))(w:F):G B 37 #[D s] w (GH (Jk s) w):=by
 have a:=JB.new w 39 (E false) (C none 0 0);have b:Bl w (w.alloc (.cells #[E false,C none 0 0] 39)):=Ba _ _;cases sg
 . clear m;go_enter Tryz.func37,Tryz.ntmps37
   go_wp2_with(first
    |(go_at_call 89;refine(n.o _).mono ?_;rintro e w' ⟨rfl,rfl⟩)
    |(go_at_call 97;refine(p.o _).mono ?_;rintro e w' ⟨rfl,rfl⟩)
    |(go_at_call 98;refine(q.o _).mono ?_;rintro e w1 ⟨u,rfl,g,d⟩;obtain⟨t,x,rfl⟩:=g.form;have a:=a.below d;have b:=Bt b d)
    |(go_at_call 94;refine(NQ _ _ _ _ g).mono ?_;rintro e w2 ⟨v,rfl,hv,f⟩;have a:=a.below f;have b:=Bt b f;rw[<-r.o]at hv;obtain⟨c,i,c3,rfl,l⟩:=hv;obtain⟨q0,q1⟩:=a.cp;obtain⟨f0,f1⟩:=a.fp))
   obtain⟨k,j⟩:=KO (E (decide (XW (Jk s)<0))) (C c i c3) b (Aa _) a rfl rfl l;exact BC (by simp[results,Tryz.results37,go_sem,q0,q1]) rfl (GH.yes o.o ⟨c,i,c3,rfl,k⟩ j)
 . have z:=m rfl;clear m;go_enter Tryz.func37,Tryz.ntmps37
   go_wp2_with(first
    |(go_at_call 89;refine(n.o _).mono ?_;rintro e w' ⟨rfl,rfl⟩)
    |(go_at_call 97;refine(p.o _).mono ?_;rintro e w' ⟨rfl,rfl⟩)
    |(go_at_call 98;refine(q.o _).mono ?_;rintro e w1 ⟨u,rfl,g,d⟩;obtain⟨t,x,rfl⟩:=g.form;have a:=a.below d;have b:=Bt b d)
    |(go_at_call 94;refine(NQ _ _ _ _ g).mono ?_;rintro e w2 ⟨v,rfl,hv,f⟩;have a:=a.below f;have b:=Bt b f;rw[<-r.o]at hv;obtain⟨c,i,c3,rfl,l⟩:=hv;obtain⟨q0,q1⟩:=a.cp;obtain⟨f0,f1⟩:=a.fp))
   obtain⟨k,j⟩:=KO (E (decide (XW (Jk s)<0))) (C c i c3) b (Aa _) a rfl rfl l;exact BC (by simp[results,Tryz.results37,go_sem,q0,q1]) rfl (GH.yes o.o ⟨c,i,c3,rfl,k⟩ j)
theorem TM(s:ByteArray)(hs:s.size<=140737488351232)(w:F):G B 37 #[D s] w (GH (Jk s) w):=by
 by_cases f:2000<s.size
 . exact ec s f hs w
 have a:s.size<=2000:=O
 cases hn:GW (J2 (Jk s))
 . exact ef s a hn w
 by_cases b:(Jk s).head?=some 45/\J2 (Jk s)=[48]
 . exact eh s a hn b.1 b.2 w
 have hg:good (Jk s)=true:=by
  grind[Pd,JQ]
 have d:(J2 (Jk s)).all DW=true:=by
  grind[GW]
 have c:Jk (⟨(J2 (Jk s)).toArray⟩:ByteArray)=J2 (Jk s):=rfl;have e:(⟨(J2 (Jk s)).toArray⟩:ByteArray).size<=2000:=by
  grind[JQ,J2]
 refine ej s ⟨(J2 (Jk s)).toArray⟩ (decide ((Jk s).head?=some 45)) a hg (λV=>Lj s V) (λV=>?_) (λV=>?_) (λh=>?_) ?_ w
 . have:=PR ⟨(J2 (Jk s)).toArray⟩ O V;rw[c,hn]at this;exact this
 . exact eZ ⟨(J2 (Jk s)).toArray⟩ (by rw[c];exact d) e V
 . grind[Lib.toList_data]
 . show XW (Jk s)=_;grind[XW,Li]
def row_one(W:F)(v:Nat):Row .u64 (W.alloc (.cells #[.int .u64 (v:Nat)] 141)) (C (some ⟨W.heap.size,0,none⟩) 1 1) [v]:=by
 refine⟨_,1,rfl,DH,O,DH,Or.inr ⟨W.heap.size,0,rfl,⟨_,_,BF W _⟩,λj a=>?_⟩⟩
 have:j=0:=by simp at a;omega
 subst this;exact(BI W 141 (.int .u64 (v:Nat))).cell
theorem eo(a:n≠0)(h:n<Y):Jh Y n=[n]:=by
 grind[Ir,Ct,Cm,JV]
def ey(h:n<Y):J1 [n]=Jh Y n:=by
 have:=YJ Jf (ds:=[n]) (DN.cons h (DN.nil _));rw[<-this];simp[val]
def ez(N:Nat)(x:N<=9223372036854775807)(w:F):G B 35 #[.int .i64 (N:Int)] w λe w'=>∃u,e=.returned u/\Ji w' u N/\Bl w w':=by
 have hg:¬((N:Int)<0):=O
 have t:IntKind.u64.wrap (N:Int)=(N:Int):=by rw[IntKind.wrap_u64];omega
 have m:=hidR (ey (n:=N) uo);have a:=(JB.new w 39 (E false) (C none 0 0)).alloc (.cells #[.int .u64 (N:Nat)] 141);have b:Bl w ((w.alloc (.cells #[E false,C none 0 0] 39)).alloc (.cells #[.int .u64 (N:Nat)] 141)):=(Ba _ _).alloc DH _;have g:=row_one (w.alloc (.cells #[E false,C none 0 0] 39)) N;rw[Ax]at g;have i:(N:Int)=Li false N:=rfl;have l:=hidR i;clear i;go_enter Tryz.func35,Tryz.ntmps35
 go_wp2_with(first
  |(go_at_call 95;refine(Xs _ _ _ g).mono ?_;rintro e w1 ⟨u,rfl,d,j⟩;rw[m.o]at d;obtain⟨r,s,rfl⟩:=UN.form d;have a:=a.below j;have b:=Bt b j)
  |(go_at_call 94;refine(NQ _ _ _ _ d).mono ?_;rintro e w2 ⟨v,rfl,hv,k⟩;have a:=a.below k;have b:=Bt b k;rw[<-l.o]at hv;obtain⟨c,f,c3,rfl,q⟩:=hv;obtain⟨q0,q1⟩:=a.cp;obtain⟨f0,f1⟩:=a.fp))
 obtain⟨p,o⟩:=KO (E (decide ((N:Int)<0))) (C c f c3) b (Aa _) a rfl rfl q;exact BC (v:=.agg #[E (decide ((N:Int)<0)),C c f c3]) (by simp[results,Tryz.results35,go_sem,q0,q1]) rfl ⟨_,rfl,⟨c,f,c3,rfl,p⟩,o⟩
def e9(N:Nat)(q:1<=N)(r:N<=9223372036854775808)(w:F):G B 35 #[.int .i64 (-(N:Int))] w λe w'=>∃u,e=.returned u/\Ji w' u (-(N:Int))/\Bl w w':=by
 have hg:-(N:Int)<0:=O
 have p:IntKind.u64.wrap (-(IntKind.u64.wrap (-(N:Int))))=(N:Int):=by simp only[IntKind.wrap_u64];omega
 have k:=hidR (eo (n:=N) O uo);have a:=(JB.new w 39 (E false) (C none 0 0)).alloc (.cells #[.int .u64 (N:Nat)] 141);have c:Bl w ((w.alloc (.cells #[E false,C none 0 0] 39)).alloc (.cells #[.int .u64 (N:Nat)] 141)):=(Ba _ _).alloc DH _;have b:=row_one (w.alloc (.cells #[E false,C none 0 0] 39)) N;rw[Ax,<-k.o]at b;have b:UN ((w.alloc (.cells #[E false,C none 0 0] 39)).alloc (.cells #[.int .u64 (N:Nat)] 141)) (C (some ⟨w.heap.size+1,0,none⟩) 1 1) N:=b;have g:-(N:Int)=Li true N:=rfl;have j:=hidR g;clear g;go_enter Tryz.func35,Tryz.ntmps35
 go_wp2_with(first
  |(go_at_call 94;refine(NQ _ _ _ _ b).mono ?_;rintro e w2 ⟨v,rfl,hv,i⟩;have a:=a.below i;have c:=Bt c i;rw[<-j.o]at hv;obtain⟨d,f,c3,rfl,o⟩:=hv;obtain⟨q0,q1⟩:=a.cp;obtain⟨f0,f1⟩:=a.fp))
 obtain⟨m,l⟩:=KO (E true) (C d f c3) c (Aa _) a rfl rfl o;exact BC (v:=.agg #[E true,C d f c3]) (by simp[results,Tryz.results35,go_sem,q0,q1]) rfl ⟨_,rfl,⟨d,f,c3,by rw[show decide (-(N:Int)<0)=true from decide_eq_true hg],m⟩,l⟩
def Ex(n:Int)(a:-9223372036854775808<=n)(b:n<=9223372036854775807)(w:F):G B 35 #[.int .i64 n] w λe w'=>∃u,e=.returned u/\Ji w' u n/\Bl w w':=by
 by_cases h:n<0
 . have e:n=-(n.natAbs:Int):=O
   rw[e];exact e9 n.natAbs O O w
 . have e:n=(n.natAbs:Int):=O
   rw[e];exact ez n.natAbs O w

