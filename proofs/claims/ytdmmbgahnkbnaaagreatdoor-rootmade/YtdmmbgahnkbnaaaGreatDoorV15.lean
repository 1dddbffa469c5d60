import Derived.Test.YtdmmbgahnkbnaaaGreatDoorV10
import Derived.Test.YtdmmbgahnkbnaaaGreatDoorV09
import Derived.Deep.DeepCutAuto
import Derived.Deep.RegionHeld3
import Derived.Deep.RegionWith
import Derived.Deep.OwnRows
import Derived.Test.YtdmmbgahnkbnaaaGreatDoorV04
set_option linter.all false
open Go.Proofs.Tryz renaming prog->B
open Go.Value renaming slice->C,string->D,bool->E
open Go renaming World->F,Calls->G
set_option maxRecDepth 99999
set_option maxHeartbeats 0
namespace Go.Proofs.YtdmmbgahnkbnaaaGreatDoor
section
open Go.RowKit Go.Shelf Go.Deep
variable{s:ByteArray}{q:List Nat}{l:List UInt8}{c n:Nat}
def hidR{p:Prop}(h:p):Hid p:=h
theorem fE(l:List UInt8)(a:Nat)(h:l.all DZ=true)(d:num l+10^l.length*a<18446744073709551616):Lib.parseUintM (2^64-1) a l=.ok (num l+10^l.length*a):=by
 induction l generalizing a with
 |nil=>simp[Lib.parseUintM,num,D5,val]
 |cons c l j=>
  have f:=AJ.1 h c (Ao ..);have hl:l.all DZ=true:=DH
  have i:=Y5 f;have e:num (c::l)=num l+10^l.length*(c.toNat-48):=by
   have:=Lu [c] l;rw[List.singleton_append]at this;rw[this];congr 2
  have b:num (c::l)+10^(c::l).length*a=num l+10^l.length*(a*10+(c.toNat-48)):=by
   grind
  rw[b]at d ⊢;have hp:1<=10^l.length:=Nat.one_le_pow _ _ O;have g:a*10+(c.toNat-48)<=10^l.length*(a*10+(c.toNat-48)):=Cs _ O;grind[Lib.parseUintM]
def Ps(h:l.all DZ=true):num l<10^l.length:=by
 have:=Y4 (PW h);rwa[NH]at this
theorem fF(h:l.all DZ=true)(b:l≠[])(a:l.length<=19):Lib.parseUintB 64 l=.ok (num l):=by
 have c:=Ps h;have d:(10:Nat)^l.length<=10^19:=AE O a;grind[Lib.parseUintB,fE]
def bytesWorld_below(w:F)(e:TypeId)(s:ByteArray):Bl w (Lib.bytesWorld w e s):=by
 unfold Lib.bytesWorld;refine⟨rfl,rfl,rfl,?_,λk hk=>?_⟩
 . simp[World.freeze]
 . show(Array.modify _ _ _)[k]?=_;rw[Array.getElem?_modify,BE (show ¬w.heap.size=k by omega)];exact Be w.drew _ k hk
def Pt:Jk (s.extract 0 n)=(Jk s).take n:=by
 unfold Jk;rw[Lib.extract_data];simp
theorem Tu:Jk (s.extract n s.size)=(Jk s).drop n:=by
 grind[Jk,Lib.extract_data,JS]
def fG(s:ByteArray)(h:(Jk s).all DZ=true)(a:0<s.size)(b:s.size<=19)(w:F):
 G B 180 #[D s,.int .i64 10,.int .i64 64] w λe w'=>e=.returned (.tuple #[.int .u64 (num (Jk s):Nat),.nilIface])/\Bl w w':=by
 have hl:=JS s;refine(Tryz.strconv_ParseUint_10_at64_ok s O _ (fF (l:=Jk s) h (by intro e;rw[e]at hl;simp at hl;omega) O) w).mono ?_;rintro e w' ⟨rfl,rfl|rfl⟩
 . exact⟨rfl,BB _ _⟩
 . exact⟨rfl,bytesWorld_below _ _ _⟩
def fH:Value->Nat|D s=>s.size|_=>0
def fI(h:l.all DZ=true):(Jh Y (num l)).length<=l.length:=by
 refine Yr Jg (An (Ps h) (CG ?_ _));unfold Y;omega
def fJ{sb:ByteArray}{a:List UInt8}(d:c=num (Jk (sb.extract 0 n)))(hn:n=(sb.size-1)%19+1)(f:n<=sb.size)(b:a=[]\/sb.size%19=0)(e:0<sb.size):c+num a*10000000000000000000=num (a++Jk (sb.extract 0 n)):=by
 have hl:(Jk (sb.extract 0 n)).length=n:=by rw[JS,Cg];omega
 rw[Lu,hl,<-d];rcases b with rfl|b
 . simp[num,D5,val]
 . have:n=19:=O
   rw[this,AP]
theorem fK{m l a:Nat}(n:c<Y)(hl:l=(Jh Y m).length)(h:F9 (c::List.replicate l 0) (Jh Y m) 0 10000000000000000000 l a q):
 (c::List.replicate l 0)[l]?.getD 0+a<Y/\J3 (q++[(c::List.replicate l 0)[l]?.getD 0+a])=Jh Y (c+m*10000000000000000000):=by
 obtain⟨i,f,j,d⟩:=h;have hv:=Jz Jg m;rw[Ch]at d;have o:∀k,val Y (List.replicate k 0)=0:=by
  intro k;induction k with
  |zero=>rfl
  |succ k g=>rw[C1,Yw,g];rfl
 have e:(Jh Y m).take l=Jh Y m:=Af O;rw[e,hv]at d;have b:(c::List.replicate l 0)[l]?.getD 0+a<Y/\val Y (q++[(c::List.replicate l 0)[l]?.getD 0+a])=c+m*10000000000000000000:=by
  cases l with
  |zero=>
   grind[val]
  |succ l=>
   grind[IP,Yw]
 refine⟨b.1,?_⟩;rw[<-YK Jg (f.append (DO.cons b.1 (DO.nil _))),b.2]
def fL{r d:Nat}(h:r+d<Y):IntKind.u64.wrap ((r:Int)+d)=((r+d:Nat):Int):=by
 unfold Y at h;rw[IntKind.wrap_u64];omega
theorem fM{a:F}{nb l:Nat}(hA:DS a nb (mid (c::List.replicate l 0) 0 l q))(hq:q.length=l):
 a.cell? ⟨nb,l,none⟩=some (.int .u64 ((c::List.replicate l 0)[l]?.getD 0:Nat))/\a.frozen? ⟨nb,l,none⟩=false/\∀v,DS (a.setCell ⟨nb,l,none⟩ (.int .u64 (v:Nat))) nb (q++[v]):=by
 have b:mid (c::List.replicate l 0) 0 l q=q++[(c::List.replicate l 0)[l]?.getD 0]:=by
  grind[mid,AQ]
 have d:=hA.cell (j:=l) (by rw[b];simp;omega);rw[b,A7 O,hq,Cm]at d;refine⟨d,hA.frozen l,λv=>?_⟩;have:=hA.set l v;rw[b,CH _ _ O,hq,Cm]at this;exact this
def fN(s:ByteArray)(N:(Jk s).all DZ=true)(hs:s.size<=2000)(w:F):
 G B 98 #[D s] w λe w'=>∃u,e=.returned u/\UN w' u (num (Jk s))/\Bl w w':=by
 have HD:=hidR N;clear N;go_enter Tryz.func98,Tryz.ntmps98
 go_wp2;go_loopw [0,3] (λdv rv wr=>∃(sb:ByteArray) (b:List UInt8) (a:Option Addr) (l cap:Nat),dv=D sb/\rv=C a l cap/\sb.size<=2000/\l<=2000/\UN wr (C a l cap) (num b)/\Hid (Jk s=b++Jk sb/\(b=[]\/sb.size%19=0))/\Bl w wr) λdv _ _=>fH dv
 case atStart=>exact⟨s,[],none,0,0,rfl,rfl,hs,O,by unfold UN;simp[num,D5,val,JW];exact Row.nil _ _,⟨DI,Or.inl rfl⟩,BB _ _⟩
 case round=>
  obtain⟨sb,b,a,l,cap,rfl,rfl,ay,hl,i,t,W⟩:=hrel;by_cases h0:sb.size=0
  . have Qb:=AH (by rw[JS];exact h0);have e:b=Jk s:=by rw[t.o.1,Qb,CC]
    have HE:=hidR e;have hz:sb.size<=0:=O
    clear e Qb h0;go_wp2;go_ret;exact⟨_,rfl,by rw[<-HE.o];exact i,W⟩
  . have ah:0<sb.size:=O
    obtain⟨n,hn⟩:∃n,n=(sb.size-1)%19+1:=⟨_,rfl⟩;have En:=hidR (show(((sb.size:Int)-1)%19+1)=(n:Int)by omega);have Qw:n<=sb.size:=O
    have g:=hidR hn;clear hn;go_upto_region 4 with fail
    rw[En.o];have P:(Jk (sb.extract 0 n)).all DZ=true:=by
     have f:=HD.o;rw[t.o.1,Fn,C5]at f;rw[Pt,AJ];intro c o;exact AJ.1 f.2 c (Fw o)
    have z:(sb.extract 0 n).size=n:=by rw[Cg];omega
    have T:num (Jk (sb.extract 0 n))<10000000000000000000:=by
     have f:=Ps P;rw[JS,z]at f;have K:(10:Nat)^n<=10^19:=AE O (by have:=g.o;omega);omega
    have Q:=hidR λV=>fG (sb.extract 0 n) P (by rw[z];have:=g.o;omega) (by rw[z];have:=g.o;omega) V;obtain⟨c,o⟩:∃c,c=num (Jk (sb.extract 0 n)):=⟨_,rfl⟩;rw[<-o]at T Q;have Uc:=hidR o;have Qr:=hidR T;clear P z o T;have ap:0<n:=by have:=g.o;omega
    have S:Hid (Jk s=(b++Jk (sb.extract 0 n))++Jk (sb.extract n sb.size)/\(b++Jk (sb.extract 0 n)=[]\/(sb.extract n sb.size).size%19=0)):=by
     refine⟨?_,Or.inr ?_⟩
     . rw[CM,Pt,Tu,AW];exact t.o.1
     . rw[Cg];have:=g.o;omega
    have Qu:Hid ((Jh Y (num (b++Jk (sb.extract 0 n)))).length<=2000):=by
     have f:=HD.o;rw[S.o.1,Fn,C5]at f;have K:=fI f.1;have h3:=congrArg List.length S.o.1;rw[Am,JS]at h3;exact Ac K O
    have Ua:=NU l O;go_upto_region 7 with(first|(go_at_call 180;refine(Q.o _).mono ?_;rintro e w1 ⟨rfl,M⟩))
    obtain⟨H,k⟩:=ex (w1.alloc (.cells (cellsOf .u64 (List.replicate (l+1) 0)).toArray 141));have A:DS H w1.heap.size (List.replicate (l+1) 0):=DS.made (by rw[<-k];exact BD w1 _);have v:=Bt W M;have Qp:Bl w H:=by rw[<-k];exact v.alloc v.size _
    have Qq:UN H (C a l cap) (num b):=by rw[<-k];exact Row.below (Row.below i M) (Ba _ _)
    have U:=v.size;have Qn:Hid (∀p,a=some p->0<l->p.block≠w1.heap.size):=by
     intro p ep R;obtain⟨_,_,_,_,aj⟩:=JK i;obtain⟨b',az,ea,an,_⟩:=aj 0 R;rw[ep]at ea;cases ea;have:=M.size;simp only;omega
    have Qm:=i.len;have Qy:=hidR Qm;rw[k];clear k Ua M v i Qm Q W;generalize w1.heap.size=nb at *;have z0:=A.cell (j:=0) DI;have z1:=A.frozen 0;go_upto_region 8 with fail
    obtain⟨I,m⟩:=ex (H.setCell ⟨nb,0,none⟩ (.int .u64 (c:Nat)));have Qo:DS I nb (c::List.replicate l 0):=by rw[<-m];have:=A.set 0 c;simpa[List.replicate_succ]using this
    have Qs:Bl w I:=by rw[<-m];exact Qp.setCell U _
    have Ub:UN I (C a l cap) (num b):=by rw[<-m];exact Row.grown Qq (J2 _ _ _ _) Qn.o
    rw[m];clear m A Qp Qq z0 z1;have R:=Qo.cell (j:=l) DI;obtain⟨y,hy⟩:∃y,y=(c::List.replicate l 0)[l]?.getD 0:=⟨_,rfl⟩;rw[<-hy]at R;have HY:=hidR hy;clear hy;have Qv:=hidR λV (hV:Bl I V)=>Pq nb 0 l (l+1) (c::List.replicate l 0) a cap (Jh Y (num b)) 10000000000000000000 V (Qo.below hV) (DO.cons (by have:=Qr.o;unfold Y;omega) λd N=>by rw[CT N];unfold Y;omega) DI O (Row.below Ub hV) (JA Jg _) Qn.o uo;have i0:(0:Int)<=(l:Int):=O
    have i1:(l:Int)<(l:Int)+1:=O
    have i2:(l:Int)<=(l:Int)+1:=O
    go_region_with (first
     |(go_at_call 181;refine(Qv.o _ ?_).mono ?_;exact(BB _ _).drew;rintro e w4 ⟨r,q,rfl,L,hA4,ae⟩;obtain⟨k1,k2,k3⟩:=fM hA4 L.1;rw[<-HY.o]at k1;have x:=fK (by have:=Qr.o;unfold Y;omega) Qy.o L;rw[<-HY.o]at x;have am:IntKind.u64.wrap ((y:Int)+r)=((y+r:Nat):Int):=fL x.1;have Qt:=hidR x.2;have Qz:=hidR L.1;clear x L))
    all_goals go_wp2_with fail
    all_goals
     have Qx:DS (w4.setCell ⟨nb,l,none⟩ (.int .u64 ((y:Int)+r))) nb (q++[y+r]):=by
      have:=k3 (y+r);rwa[Int.natCast_add]at this
     have aq:=Qz.o;have Qc:=Qx.row 0 (l+1) (l+1) si O O O;rw[Ch,Af si]at Qc;refine(Xv _ _ _ Qc).mono ?_;rintro e w6 ⟨u,rfl,X,ai⟩;rw[Qt.o,fJ Uc.o g.o Qw t.o.2 ah]at X;have Ud:=((below_grown Qs.drew ae U).setCell U _).trans (ai.mono (by have f:=Qs.size;have K:=ae.size;simp[World.setCell]at K ⊢;omega));obtain⟨au,cu,eu⟩:=UN.form X;subst eu;go_wp2;go_roundw
     case rel=>exact⟨sb.extract n sb.size,b++Jk (sb.extract 0 n),au,_,cu,rfl,rfl,by rw[Cg];omega,Qu.o,X,S.o,Ud⟩
     case measure=>
      show(sb.extract n sb.size).size<sb.size;rw[Cg];omega
end
open Go.RowKit Go.Shelf
def L1(b:Bool)(n:Nat):Int:=if b then -(n:Int)else n
variable{l:List UInt8}{n:Nat}{w w':F}
def Na(b:Bool)(v:Value)(n:Nat)(w:F)(h:UN w v n):G B 94 #[E b,v] w λe w'=>∃u,e=.returned u/\Jj w' u (L1 b n)/\Bl w w':=Kb b v n w h
def I5:Value:=.tuple #[.agg #[E false,C none 0 0],E false]
theorem L2(s:ByteArray)(w:F):G B 89 #[D s,D ⟨#[45]⟩] w λe w'=>e=.returned (.tuple #[D ⟨(Yb (Jk s)).toArray⟩,E (decide ((Jk s).head?=some 45))])/\w'=w:=by
 refine(Tryz.strings_CutPrefix s ⟨#[45]⟩ w).mono ?_;rintro e w' ⟨rfl,rfl⟩;have a:Lib.hasPrefix s.data.toList [45]=decide ((Jk s).head?=some 45):=by
  unfold Jk Lib.hasPrefix;cases s.data.toList with
  |nil=>rfl
  |cons c l=>
   grind
 refine⟨?_,rfl⟩;have b:Lib.trimPrefix s.data.toList [45]=Yb (Jk s):=by
  grind[Lib.trimPrefix,Yb,Jk,List.drop_one]
 grind
theorem Pv(h:l.length<=2000):good l=(GZ (Yb l) && !(decide (l.head?=some 45)&&decide (Yb l=[48]))):=by
 rw[FC];simp only[good,GZ,C5,Bw,Bool.or_eq_true,CW,Bk,List.isEmpty_eq_false_iff,Bool.and_eq_false_iff];grind[Yb]
def GN(l:List UInt8)(w:F)(e:Ending)(w':F):Prop:=
 (good l=true->∃u,e=.returned (.tuple #[u,E true])/\Jj w' u (Dz l))/\(good l=false->e=.returned I5)/\Bl w w'
def GN.no(h:good l=false)(b:Bl w w'):GN l w (.returned I5) w':=
 ⟨λa=>(by rw[h]at a;cases a),λ_=>rfl,b⟩
def GN.yes{u:Value}(h:good l=true)(c:Jj w' u (Dz l))(b:Bl w w'):GN l w (.returned (.tuple #[u,E true])) w':=
 ⟨λ_=>⟨u,rfl,c⟩,λa=>(by rw[h]at a;cases a),b⟩
def fO(s:ByteArray)(b:2000<s.size)(hs:s.size<=140737488351232)(w:F):G B 37 #[D s] w (GN (Jk s) w):=by
 have a:=hidR (show good (Jk s)=false by
  have:=JS s;simp[good];omega)
 go_enter Tryz.func37,Tryz.ntmps37
 go_wp2_with(first
  |(go_at_call 89;refine(L2 _ _).mono ?_;rintro e w' ⟨rfl,rfl⟩))
 exact BA (v:=I5) (by simp[results,Tryz.results37,go_sem,I5]) rfl (GN.no a.o (Ba _ _))
theorem fP(s:ByteArray)(j:s.size<=2000)(hn:GZ (Yb (Jk s))=false)(w:F):G B 37 #[D s] w (GN (Jk s) w):=by
 have i:=hidR (show good (Jk s)=false by rw[Pv (by rw[JS];exact j),hn];rfl);obtain⟨tb,b⟩:=ex ((⟨(Yb (Jk s)).toArray⟩:ByteArray):ByteArray);obtain⟨sg,d⟩:=ex (decide ((Jk s).head?=some 45));have a:=λV=>L2 s V;rw[b,d]at a;have f:Jk tb=Yb (Jk s):=by rw[<-b];rfl
 have k:tb.size<=2000:=by
  grind[JS,Yb]
 have c:=hidR λV=>Pi tb O V;rw[f,hn]at c;have g:=hidR a;clear a f hn b d;go_enter Tryz.func37,Tryz.ntmps37
 go_wp2_with(first
  |(go_at_call 89;refine(g.o _).mono ?_;rintro e w' ⟨rfl,rfl⟩)
  |(go_at_call 97;refine(c.o _).mono ?_;rintro e w' ⟨rfl,rfl⟩))
 exact BA (v:=I5) (by simp[results,Tryz.results37,go_sem,I5]) rfl (GN.no i.o (Ba _ _))
theorem fQ(s:ByteArray)(i:s.size<=2000)(hn:GZ (Yb (Jk s))=true)(b:(Jk s).head?=some 45)(c:Yb (Jk s)=[48])(w:F):G B 37 #[D s] w (GN (Jk s) w):=by
 have f:=hidR (show good (Jk s)=false by grind[Pv,JS]);have a:=λV=>L2 s V;rw[c,decide_eq_true b]at a;have g:=hidR λV=>Pi ⟨[48].toArray⟩ DK V;have d:=hidR a;clear a hn b c;go_enter Tryz.func37,Tryz.ntmps37
 go_wp2_with(first
  |(go_at_call 89;refine(d.o _).mono ?_;rintro e w' ⟨rfl,rfl⟩)
  |(go_at_call 97;refine(g.o _).mono ?_;rintro e w' ⟨rfl,rfl⟩))
 exact BA (v:=I5) (by simp[results,Tryz.results37,go_sem,I5]) rfl (GN.no f.o (Ba _ _))
def fR(s tb:ByteArray)(sg:Bool)(y:s.size<=2000)(o:Hid (good (Jk s)=true))(n:Hid (∀V,G B 89 #[D s,D ⟨#[45]⟩] V λe w'=>e=.returned (.tuple #[D tb,E sg])/\w'=V))
(p:Hid (∀V,G B 97 #[D tb] V λe w'=>e=.returned (E true)/\w'=V))(q:Hid (∀V,G B 98 #[D tb] V λe w'=>∃u,e=.returned u/\UN w' u (num (Jk tb))/\Bl V w'))
(m:sg=true->(tb.toList == [48])=false)(r:Hid (Dz (Jk s)=L1 sg (num (Jk tb))))(w:F):G B 37 #[D s] w (GN (Jk s) w):=by
 have a:=JC.new w 39 (E false) (C none 0 0);have b:Bl w (w.alloc (.cells #[E false,C none 0 0] 39)):=Ba _ _;cases sg
 . clear m;go_enter Tryz.func37,Tryz.ntmps37
   go_wp2_with(first
    |(go_at_call 89;refine(n.o _).mono ?_;rintro e w' ⟨rfl,rfl⟩)
    |(go_at_call 97;refine(p.o _).mono ?_;rintro e w' ⟨rfl,rfl⟩)
    |(go_at_call 98;refine(q.o _).mono ?_;rintro e w1 ⟨u,rfl,g,d⟩;obtain⟨t,x,rfl⟩:=g.form;have a:=a.below d;have b:=Bt b d)
    |(go_at_call 94;refine(Na _ _ _ _ g).mono ?_;rintro e w2 ⟨v,rfl,hv,f⟩;have a:=a.below f;have b:=Bt b f;rw[<-r.o]at hv;obtain⟨c,i,c3,rfl,l⟩:=hv;obtain⟨q0,q1⟩:=a.cp;obtain⟨f0,f1⟩:=a.fp))
   obtain⟨k,j⟩:=KZ (E (decide (Dz (Jk s)<0))) (C c i c3) b (Aa _) a rfl rfl l;exact BA (by simp[results,Tryz.results37,go_sem,q0,q1]) rfl (GN.yes o.o ⟨c,i,c3,rfl,k⟩ j)
 . have z:=m rfl;clear m;go_enter Tryz.func37,Tryz.ntmps37
   go_wp2_with(first
    |(go_at_call 89;refine(n.o _).mono ?_;rintro e w' ⟨rfl,rfl⟩)
    |(go_at_call 97;refine(p.o _).mono ?_;rintro e w' ⟨rfl,rfl⟩)
    |(go_at_call 98;refine(q.o _).mono ?_;rintro e w1 ⟨u,rfl,g,d⟩;obtain⟨t,x,rfl⟩:=g.form;have a:=a.below d;have b:=Bt b d)
    |(go_at_call 94;refine(Na _ _ _ _ g).mono ?_;rintro e w2 ⟨v,rfl,hv,f⟩;have a:=a.below f;have b:=Bt b f;rw[<-r.o]at hv;obtain⟨c,i,c3,rfl,l⟩:=hv;obtain⟨q0,q1⟩:=a.cp;obtain⟨f0,f1⟩:=a.fp))
   obtain⟨k,j⟩:=KZ (E (decide (Dz (Jk s)<0))) (C c i c3) b (Aa _) a rfl rfl l;exact BA (by simp[results,Tryz.results37,go_sem,q0,q1]) rfl (GN.yes o.o ⟨c,i,c3,rfl,k⟩ j)
theorem fS(s:ByteArray)(hs:s.size<=140737488351232)(w:F):G B 37 #[D s] w (GN (Jk s) w):=by
 by_cases f:2000<s.size
 . exact fO s f hs w
 have a:s.size<=2000:=O
 cases hn:GZ (Yb (Jk s))
 . exact fP s a hn w
 by_cases b:(Jk s).head?=some 45/\Yb (Jk s)=[48]
 . exact fQ s a hn b.1 b.2 w
 have hg:good (Jk s)=true:=by
  grind[Pv,JS]
 have d:(Yb (Jk s)).all DZ=true:=by
  grind[GZ]
 have c:Jk (⟨(Yb (Jk s)).toArray⟩:ByteArray)=Yb (Jk s):=rfl;have e:(⟨(Yb (Jk s)).toArray⟩:ByteArray).size<=2000:=by
  grind[JS,Yb]
 refine fR s ⟨(Yb (Jk s)).toArray⟩ (decide ((Jk s).head?=some 45)) a hg (λV=>L2 s V) (λV=>?_) (λV=>?_) (λh=>?_) ?_ w
 . have:=Pi ⟨(Yb (Jk s)).toArray⟩ O V;rw[c,hn]at this;exact this
 . exact fN ⟨(Yb (Jk s)).toArray⟩ (by rw[c];exact d) e V
 . grind[Lib.toList_data]
 . show Dz (Jk s)=_;grind[Dz,L1]
def row_one(W:F)(v:Nat):Row .u64 (W.alloc (.cells #[.int .u64 (v:Nat)] 141)) (C (some ⟨W.heap.size,0,none⟩) 1 1) [v]:=by
 refine⟨_,1,rfl,DI,O,DI,Or.inr ⟨W.heap.size,0,rfl,⟨_,_,BD W _⟩,λj a=>?_⟩⟩
 have:j=0:=by simp at a;omega
 subst this;exact(BG W 141 (.int .u64 (v:Nat))).cell
theorem fT(a:n≠0)(h:n<Y):Jh Y n=[n]:=by
 grind[Iz,Cr,Cn,JW]
def fU(h:n<Y):J3 [n]=Jh Y n:=by
 have:=YK Jg (ds:=[n]) (DO.cons h (DO.nil _));rw[<-this];simp[val]
def fV(N:Nat)(x:N<=9223372036854775807)(w:F):G B 35 #[.int .i64 (N:Int)] w λe w'=>∃u,e=.returned u/\Jj w' u N/\Bl w w':=by
 have hg:¬((N:Int)<0):=O
 have t:IntKind.u64.wrap (N:Int)=(N:Int):=by rw[IntKind.wrap_u64];omega
 have m:=hidR (fU (n:=N) uo);have a:=(JC.new w 39 (E false) (C none 0 0)).alloc (.cells #[.int .u64 (N:Nat)] 141);have b:Bl w ((w.alloc (.cells #[E false,C none 0 0] 39)).alloc (.cells #[.int .u64 (N:Nat)] 141)):=(Ba _ _).alloc DI _;have g:=row_one (w.alloc (.cells #[E false,C none 0 0] 39)) N;rw[Ax]at g;have i:(N:Int)=L1 false N:=rfl;have l:=hidR i;clear i;go_enter Tryz.func35,Tryz.ntmps35
 go_wp2_with(first
  |(go_at_call 95;refine(Xv _ _ _ g).mono ?_;rintro e w1 ⟨u,rfl,d,j⟩;rw[m.o]at d;obtain⟨r,s,rfl⟩:=UN.form d;have a:=a.below j;have b:=Bt b j)
  |(go_at_call 94;refine(Na _ _ _ _ d).mono ?_;rintro e w2 ⟨v,rfl,hv,k⟩;have a:=a.below k;have b:=Bt b k;rw[<-l.o]at hv;obtain⟨c,f,c3,rfl,q⟩:=hv;obtain⟨q0,q1⟩:=a.cp;obtain⟨f0,f1⟩:=a.fp))
 obtain⟨p,o⟩:=KZ (E (decide ((N:Int)<0))) (C c f c3) b (Aa _) a rfl rfl q;exact BA (v:=.agg #[E (decide ((N:Int)<0)),C c f c3]) (by simp[results,Tryz.results35,go_sem,q0,q1]) rfl ⟨_,rfl,⟨c,f,c3,rfl,p⟩,o⟩
def fW(N:Nat)(q:1<=N)(r:N<=9223372036854775808)(w:F):G B 35 #[.int .i64 (-(N:Int))] w λe w'=>∃u,e=.returned u/\Jj w' u (-(N:Int))/\Bl w w':=by
 have hg:-(N:Int)<0:=O
 have p:IntKind.u64.wrap (-(IntKind.u64.wrap (-(N:Int))))=(N:Int):=by simp only[IntKind.wrap_u64];omega
 have k:=hidR (fT (n:=N) O uo);have a:=(JC.new w 39 (E false) (C none 0 0)).alloc (.cells #[.int .u64 (N:Nat)] 141);have c:Bl w ((w.alloc (.cells #[E false,C none 0 0] 39)).alloc (.cells #[.int .u64 (N:Nat)] 141)):=(Ba _ _).alloc DI _;have b:=row_one (w.alloc (.cells #[E false,C none 0 0] 39)) N;rw[Ax,<-k.o]at b;have b:UN ((w.alloc (.cells #[E false,C none 0 0] 39)).alloc (.cells #[.int .u64 (N:Nat)] 141)) (C (some ⟨w.heap.size+1,0,none⟩) 1 1) N:=b;have g:-(N:Int)=L1 true N:=rfl;have j:=hidR g;clear g;go_enter Tryz.func35,Tryz.ntmps35
 go_wp2_with(first
  |(go_at_call 94;refine(Na _ _ _ _ b).mono ?_;rintro e w2 ⟨v,rfl,hv,i⟩;have a:=a.below i;have c:=Bt c i;rw[<-j.o]at hv;obtain⟨d,f,c3,rfl,o⟩:=hv;obtain⟨q0,q1⟩:=a.cp;obtain⟨f0,f1⟩:=a.fp))
 obtain⟨m,l⟩:=KZ (E true) (C d f c3) c (Aa _) a rfl rfl o;exact BA (v:=.agg #[E true,C d f c3]) (by simp[results,Tryz.results35,go_sem,q0,q1]) rfl ⟨_,rfl,⟨d,f,c3,by rw[show decide (-(N:Int)<0)=true from decide_eq_true hg],m⟩,l⟩
def FM(n:Int)(a:-9223372036854775808<=n)(b:n<=9223372036854775807)(w:F):G B 35 #[.int .i64 n] w λe w'=>∃u,e=.returned u/\Jj w' u n/\Bl w w':=by
 by_cases h:n<0
 . have e:n=-(n.natAbs:Int):=O
   rw[e];exact fW n.natAbs O O w
 . have e:n=(n.natAbs:Int):=O
   rw[e];exact fV n.natAbs O w

