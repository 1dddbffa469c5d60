import Derived.Test.YthnpdhlepglmlaaGreatDoorV10
import Derived.Test.YthnpdhlepglmlaaGreatDoorV09
set_option linter.all false
open Go.Proofs.Tryz renaming prog->B
open Go.Value renaming slice->C,string->D,bool->E
open Go renaming World->F,Calls->G
set_option maxRecDepth 99999
set_option maxHeartbeats 0
namespace Go.Proofs.YthnpdhlepglmlaaGreatDoor
open Go.IntKind renaming u64->yC
open List renaming replicate->yA
open Proofs.Tryz
section
open Go.RowKit Go.Shelf Go.Deep
variable{s:ByteArray}{q:m0}{l:List UInt8}{c n:Nat}
def hidR{p:Prop}(h:p):Hid p:=h
theorem iU(l:List UInt8)(a:Nat)(h:l.all DX=true)(hb:num l+10^l.length*a<18446744073709551616):Lib.parseUintM (2^64-1) a l=.ok (num l+10^l.length*a):=by
 induction l generalizing a with
 |nil=>simp[Lib.parseUintM,num,D5,val]
 |cons c l i=>
  have d:=AZ.1 h c (Au ..);have hl:l.all DX=true:=DH
  have g:=Xc d;have e:num (c::l)=num l+10^l.length*(c.toNat-48):=by
   have:=MZ [c] l;rw[List.singleton_append]at this;rw[this];congr 2
  have b:num (c::l)+10^(c::l).length*a=num l+10^l.length*(a*10+(c.toNat-48)):=by
   grind
  rw[b]at hb ⊢;have hp:1<=10^l.length:=Nat.one_le_pow _ _ O;have f:a*10+(c.toNat-48)<=10^l.length*(a*10+(c.toNat-48)):=CI _ O;grind[Lib.parseUintM]
def RF(h:l.all DX=true):num l<10^l.length:=by
 have:=YZ (OC h);rwa[MY]at this
theorem iV(h:l.all DX=true)(b:l≠[])(a:l.length<=19):Lib.parseUintB 64 l=.ok (num l):=by
 have c:=RF h;have d:(10:Nat)^l.length<=10^19:=AB O a;grind[Lib.parseUintB,iU]
def bytesWorld_below(w:F)(e:TypeId)(s:ByteArray):Bl w (Lib.bytesWorld w e s):=by
 unfold Lib.bytesWorld;refine⟨J,J,J,?_,λk hk=>?_⟩
 . simp[World.freeze]
 . show(Array.modify _ _ _)[k]?=_;rw[Array.getElem?_modify,BE (show ¬w.heap.size=k by omega)];exact Bf w.drew _ k hk
def RG:Jj (s.extract 0 n)=(Jj s).take n:=by
 unfold Jj;rw[Lib.extract_data];simp
theorem VL:Jj (s.extract n s.size)=(Jj s).drop n:=by
 grind[Jj,Lib.extract_data,JR]
def iW(s:ByteArray)(h:(Jj s).all DX=true)(a:0<s.size)(b:s.size<=19)(w:F):
 G B 230 #[D s,.int .i64 10,.int .i64 64] w λe w'=>e=.returned (.tuple #[.int .u64 (num (Jj s):Nat),.nilIface])/\Bl w w':=by
 have hl:=JR s;refine(Tryz.strconv_ParseUint_10_at64_ok s O _ (iV (l:=Jj s) h (by intro e;rw[e]at hl;simp at hl;omega) O) w).mono ?_;rintro e w' ⟨rfl,rfl|rfl⟩
 . exact⟨J,BB _ _⟩
 . exact⟨J,bytesWorld_below _ _ _⟩
def iX:Value->Nat|D s=>s.size|_=>0
def iY(h:l.all DX=true):(Jh Y (num l)).length<=l.length:=by
 refine Yh Jg (AN (RF h) (CP ?_ _));unfold Y;omega
def iZ{sb:ByteArray}{a:List UInt8}(d:c=num (Jj (sb.extract 0 n)))(hn:n=(sb.size-1)%19+1)(f:n<=sb.size)(b:a=[]\/sb.size%19=0)(e:0<sb.size):c+num a*10000000000000000000=num (a++Jj (sb.extract 0 n)):=by
 have hl:(Jj (sb.extract 0 n)).length=n:=by rw[JR,Cq];omega
 rw[MZ,hl,<-d];rcases b with rfl|b
 . simp[num,D5,val]
 . have:n=19:=O
   rw[this,A4]
theorem ik{m l a:Nat}(j:c<Y)(hl:l=(Jh Y m).length)(h:GV (c::yA l 0) (Jh Y m) 0 10000000000000000000 l a q):
 (c::yA l 0)[l]?.getD 0+a<Y/\J4 (q++[(c::yA l 0)[l]?.getD 0+a])=Jh Y (c+m*10000000000000000000):=by
 obtain⟨g,e,i,b⟩:=h;have hv:=Jz Jg m;rw[Cm]at b;have n:∀k,val Y (yA k 0)=0:=by
  intro k;induction k with
  |zero=>rfl
  |succ k f=>rw[Fs,YB,f];rfl
 have d:(Jh Y m).take l=Jh Y m:=Ai O;rw[d,hv]at b;have key:(c::yA l 0)[l]?.getD 0+a<Y/\val Y (q++[(c::yA l 0)[l]?.getD 0+a])=c+m*10000000000000000000:=by
  cases l with
  |zero=>
   grind[val]
  |succ l=>
   grind[I6,YB]
 refine⟨key.1,?_⟩;rw[<-YN Jg (e.append (DO.cons key.1 (DO.nil _))),key.2]
def il{r d:Nat}(h:r+d<Y):yC.wrap ((r:Int)+d)=((r+d:Nat):Int):=by
 unfold Y at h;rw[IntKind.wrap_u64];omega
theorem jA{a:F}{nb l:Nat}(hA:DR a nb (mid (c::yA l 0) 0 l q))(hq:q.length=l):
 a.cell? ⟨nb,l,none⟩=some (.int .u64 ((c::yA l 0)[l]?.getD 0:Nat))/\a.frozen? ⟨nb,l,none⟩=false/\∀v,DR (a.setCell ⟨nb,l,none⟩ (.int .u64 (v:Nat))) nb (q++[v]):=by
 have b:mid (c::yA l 0) 0 l q=q++[(c::yA l 0)[l]?.getD 0]:=by
  grind[mid,A9]
 have d:=hA.cell (j:=l) (by rw[b];simp;omega);rw[b,Cg O,hq,Cz]at d;refine⟨d,hA.frozen l,λv=>?_⟩;have:=hA.set l v;rw[b,C4 _ _ O,hq,Cz]at this;exact this
def jB(s:ByteArray)(N:(Jj s).all DX=true)(hs:s.size<=2000)(w:F):
 G B 172 #[D s] w λe w'=>∃u,e=.returned u/\UN w' u (num (Jj s))/\Bl w w':=by
 have HD:=hidR N;clear N;go_enter func172,ntmps172
 go_wp2;go_loopw [0,3] (λdv rv wr=>∃(sb:ByteArray) (b:List UInt8) (a:om) (l cap:Nat),dv=D sb/\rv=C a l cap/\sb.size<=2000/\l<=2000/\UN wr (C a l cap) (num b)/\Hid (Jj s=b++Jj sb/\(b=[]\/sb.size%19=0))/\Bl w wr) λdv _ _=>iX dv
 case atStart=>exact⟨s,[],none,0,0,J,J,hs,O,by unfold UN;simp[num,D5,val,JV];exact Row.nil _ _,⟨DI,An J⟩,BB _ _⟩
 case round=>
  obtain⟨sb,b,a,l,cap,rfl,rfl,ay,hl,i,t,W⟩:=hrel;by_cases h0:sb.size=0
  . have Qb:=AW (by rw[JR];exact h0);have e:b=Jj s:=by rw[t.o.1,Qb,C7]
    have HE:=hidR e;have hz:sb.size<=0:=O
    clear e Qb h0;go_wp2;go_ret;exact⟨_,J,by rw[<-HE.o];exact i,W⟩
  . have ah:0<sb.size:=O
    obtain⟨n,hn⟩:∃n,n=(sb.size-1)%19+1:=⟨_,J⟩;have En:=hidR (show(((sb.size:Int)-1)%19+1)=(n:Int)by omega);have Qw:n<=sb.size:=O
    have g:=hidR hn;clear hn;go_upto_region 4 with fail
    rw[En.o];have P:(Jj (sb.extract 0 n)).all DX=true:=by
     have f:=HD.o;rw[t.o.1,FN,Fw]at f;rw[RG,AZ];intro c o;exact AZ.1 f.2 c (List.mem_of_mem_take o)
    have z:(sb.extract 0 n).size=n:=by rw[Cq];omega
    have T:num (Jj (sb.extract 0 n))<10000000000000000000:=by
     have f:=RF P;rw[JR,z]at f;have K:(10:Nat)^n<=10^19:=AB O (by have:=g.o;omega);omega
    have Q:=hidR λV=>iW (sb.extract 0 n) P (by rw[z];have:=g.o;omega) (by rw[z];have:=g.o;omega) V;obtain⟨c,o⟩:∃c,c=num (Jj (sb.extract 0 n)):=⟨_,J⟩;rw[<-o]at T Q;have Uc:=hidR o;have Qr:=hidR T;clear P z o T;have ap:0<n:=by have:=g.o;omega
    have S:Hid (Jj s=(b++Jj (sb.extract 0 n))++Jj (sb.extract n sb.size)/\(b++Jj (sb.extract 0 n)=[]\/(sb.extract n sb.size).size%19=0)):=by
     refine⟨?_,Ap ?_⟩
     . rw[C1,RG,VL,A6];exact t.o.1
     . rw[Cq];have:=g.o;omega
    have Qu:Hid ((Jh Y (num (b++Jj (sb.extract 0 n)))).length<=2000):=by
     have f:=HD.o;rw[S.o.1,FN,Fw]at f;have K:=iY f.1;have h3:=congrArg List.length S.o.1;rw[AM,JR]at h3;exact Ae K O
    have Ua:=OP l O;go_upto_region 7 with(first|(go_at_call 230;refine(Q.o _).mono ?_;rintro e w1 ⟨rfl,M⟩))
    obtain⟨H,k⟩:=ex (w1.alloc (.cells (cellsOf .u64 (yA (l+1) 0)).toArray 223));have A:DR H w1.heap.size (yA (l+1) 0):=DR.made (by rw[<-k];exact BD w1 _);have v:=Bt W M;have Qp:Bl w H:=by rw[<-k];exact v.alloc v.size _
    have Qq:UN H (C a l cap) (num b):=by rw[<-k];exact Row.below (Row.below i M) (Ba _ _)
    have U:=v.size;have Qn:Hid (∀p,a=some p->0<l->p.block≠w1.heap.size):=by
     intro p ep R;obtain⟨_,_,_,_,aj⟩:=JM i;obtain⟨b',az,ea,an,_⟩:=aj 0 R;rw[ep]at ea;cases ea;have:=M.size;simp only;omega
    have Qm:=i.len;have Qy:=hidR Qm;rw[k];clear k Ua M v i Qm Q W;generalize w1.heap.size=nb at *;have z0:=A.cell (j:=0) DI;have z1:=A.frozen 0;go_upto_region 8 with fail
    obtain⟨I,m⟩:=ex (H.setCell ⟨nb,0,none⟩ (.int .u64 (c:Nat)));have Qo:DR I nb (c::yA l 0):=by rw[<-m];have:=A.set 0 c;simpa[List.replicate_succ]using this
    have Qs:Bl w I:=by rw[<-m];exact Qp.setCell U _
    have Ub:UN I (C a l cap) (num b):=by rw[<-m];exact Row.grown Qq (J2 _ _ _ _) Qn.o
    rw[m];clear m A Qp Qq z0 z1;have R:=Qo.cell (j:=l) DI;obtain⟨y,hy⟩:∃y,y=(c::yA l 0)[l]?.getD 0:=⟨_,J⟩;rw[<-hy]at R;have HY:=hidR hy;clear hy;have Qv:=hidR λV (hV:Bl I V)=>RD nb 0 l (l+1) (c::yA l 0) a cap (Jh Y (num b)) 10000000000000000000 V (Qo.below hV) (DO.cons (by have:=Qr.o;unfold Y;omega) λd N=>by rw[Fi N];unfold Y;omega) DI O (Row.below Ub hV) (JA Jg _) Qn.o uo;have i0:(0:Int)<=(l:Int):=O
    have i1:(l:Int)<(l:Int)+1:=O
    have i2:(l:Int)<=(l:Int)+1:=O
    go_region_with (first
     |(go_at_call 231;refine(Qv.o _ ?_).mono ?_;exact(BB _ _).drew;rintro e w4 ⟨r,q,rfl,L,hA4,ae⟩;obtain⟨k1,k2,k3⟩:=jA hA4 L.1;rw[<-HY.o]at k1;have x:=ik (by have:=Qr.o;unfold Y;omega) Qy.o L;rw[<-HY.o]at x;have am:yC.wrap ((y:Int)+r)=((y+r:Nat):Int):=il x.1;have Qt:=hidR x.2;have Qz:=hidR L.1;clear x L))
    all_goals go_wp2_with fail
    all_goals
     have Qx:DR (w4.setCell ⟨nb,l,none⟩ (.int .u64 ((y:Int)+r))) nb (q++[y+r]):=by
      have:=k3 (y+r);rwa[Int.natCast_add]at this
     have aq:=Qz.o;have Qc:=Qx.row 0 (l+1) (l+1) si O O O;rw[Cm,Ai si]at Qc;refine(XE _ _ _ Qc).mono ?_;rintro e w6 ⟨u,rfl,X,ai⟩;rw[Qt.o,iZ Uc.o g.o Qw t.o.2 ah]at X;have Ud:=((below_grown Qs.drew ae U).setCell U _).trans (ai.mono (by have f:=Qs.size;have K:=ae.size;simp[World.setCell]at K ⊢;omega));obtain⟨au,cu,eu⟩:=UN.form X;subst eu;go_wp2;go_roundw
     case rel=>exact⟨sb.extract n sb.size,b++Jj (sb.extract 0 n),au,_,cu,J,J,by rw[Cq];omega,Qu.o,X,S.o,Ud⟩
     case measure=>
      show(sb.extract n sb.size).size<sb.size;rw[Cq];omega
end
open Go.RowKit Go.Shelf
def sgn(b:Bool)(n:Nat):Int:=if b then -(n:Int)else n
variable{l:List UInt8}{n:Nat}{w w':F}
def OV(b:Bool)(v:Value)(n:Nat)(w:F)(h:UN w v n):G B 105 #[E b,v] w λe w'=>∃u,e=.returned u/\Jk w' u (sgn b n)/\Bl w w':=LA b v n w h
def Kg:Value:=.tuple #[.agg #[E false,C none 0 0],E false]
theorem Mf(s:ByteArray)(w:F):G B 170 #[D s,D ⟨#[45]⟩] w λe w'=>e=.returned (.tuple #[D ⟨(J6 (Jj s)).toArray⟩,E (decide ((Jj s).head?=some 45))])/\w'=w:=by
 refine(Tryz.strings_CutPrefix s ⟨#[45]⟩ w).mono ?_;rintro e w' ⟨rfl,rfl⟩;have a:Lib.hasPrefix s.data.toList [45]=decide ((Jj s).head?=some 45):=by
  unfold Jj Lib.hasPrefix;cases s.data.toList with
  |nil=>rfl
  |cons c l=>
   grind
 refine⟨?_,J⟩;have b:Lib.trimPrefix s.data.toList [45]=J6 (Jj s):=by
  grind[Lib.trimPrefix,J6,Jj,List.drop_one]
 grind
theorem RH(h:l.length<=2000):good l=(Ha (J6 l) && !(decide (l.head?=some 45)&&decide (J6 l=[48]))):=by
 rw[F3];simp only[good,Ha,Fw,Bu,Bool.or_eq_true,Fn,Bk,List.isEmpty_eq_false_iff,Bool.and_eq_false_iff];grind[J6]
def Gl(l:List UInt8)(w:F)(e:Ending)(w':F):Prop:=
 (good l=true->∃u,e=.returned (.tuple #[u,E true])/\Jk w' u (Dz l))/\(good l=false->e=.returned Kg)/\Bl w w'
def Gl.no(h:good l=false)(b:Bl w w'):Gl l w (.returned Kg) w':=
 ⟨λa=>(by rw[h]at a;cases a),λ_=>rfl,b⟩
def Gl.yes{u:Value}(h:good l=true)(c:Jk w' u (Dz l))(b:Bl w w'):Gl l w (.returned (.tuple #[u,E true])) w':=
 ⟨λ_=>⟨u,J,c⟩,λa=>(by rw[h]at a;cases a),b⟩
def jC(s:ByteArray)(b:2000<s.size)(hs:s.size<=140737488351232)(w:F):G B 99 #[D s] w (Gl (Jj s) w):=by
 have a:=hidR (show good (Jj s)=false by
  have:=JR s;simp[good];omega)
 go_enter func99,ntmps99
 go_wp2_with(first
  |(go_at_call 170;refine(Mf _ _).mono ?_;rintro e w' ⟨rfl,rfl⟩))
 exact BA (v:=Kg) (by simp[results,results99,go_sem,Kg]) J (Gl.no a.o (Ba _ _))
theorem jD(s:ByteArray)(j:s.size<=2000)(hn:Ha (J6 (Jj s))=false)(w:F):G B 99 #[D s] w (Gl (Jj s) w):=by
 have i:=hidR (show good (Jj s)=false by rw[RH (by rw[JR];exact j),hn];rfl);obtain⟨tb,b⟩:=ex ((⟨(J6 (Jj s)).toArray⟩:ByteArray):ByteArray);obtain⟨sg,d⟩:=ex (decide ((Jj s).head?=some 45));have a:=λV=>Mf s V;rw[b,d]at a;have f:Jj tb=J6 (Jj s):=by rw[<-b];rfl
 have k:tb.size<=2000:=by
  grind[JR,J6]
 have c:=hidR λV=>Q5 tb O V;rw[f,hn]at c;have g:=hidR a;clear a f hn b d;go_enter func99,ntmps99
 go_wp2_with(first
  |(go_at_call 170;refine(g.o _).mono ?_;rintro e w' ⟨rfl,rfl⟩)
  |(go_at_call 171;refine(c.o _).mono ?_;rintro e w' ⟨rfl,rfl⟩))
 exact BA (v:=Kg) (by simp[results,results99,go_sem,Kg]) J (Gl.no i.o (Ba _ _))
theorem jE(s:ByteArray)(i:s.size<=2000)(hn:Ha (J6 (Jj s))=true)(b:(Jj s).head?=some 45)(c:J6 (Jj s)=[48])(w:F):G B 99 #[D s] w (Gl (Jj s) w):=by
 have f:=hidR (show good (Jj s)=false by grind[RH,JR]);have a:=λV=>Mf s V;rw[c,decide_eq_true b]at a;have g:=hidR λV=>Q5 ⟨[48].toArray⟩ DK V;have d:=hidR a;clear a hn b c;go_enter func99,ntmps99
 go_wp2_with(first
  |(go_at_call 170;refine(d.o _).mono ?_;rintro e w' ⟨rfl,rfl⟩)
  |(go_at_call 171;refine(g.o _).mono ?_;rintro e w' ⟨rfl,rfl⟩))
 exact BA (v:=Kg) (by simp[results,results99,go_sem,Kg]) J (Gl.no f.o (Ba _ _))
def jF(s tb:ByteArray)(sg:Bool)(y:s.size<=2000)(o:Hid (good (Jj s)=true))(n:Hid (∀V,G B 170 #[D s,D ⟨#[45]⟩] V λe w'=>e=.returned (.tuple #[D tb,E sg])/\w'=V))
(p:Hid (∀V,G B 171 #[D tb] V λe w'=>e=.returned (E true)/\w'=V))(q:Hid (∀V,G B 172 #[D tb] V λe w'=>∃u,e=.returned u/\UN w' u (num (Jj tb))/\Bl V w'))
(m:sg=true->(tb.toList == [48])=false)(r:Hid (Dz (Jj s)=sgn sg (num (Jj tb))))(w:F):G B 99 #[D s] w (Gl (Jj s) w):=by
 have a:=JC.new w 48 (E false) (C none 0 0);have b:Bl w (w.alloc (.cells #[E false,C none 0 0] 48)):=Ba _ _;cases sg
 . clear m;go_enter func99,ntmps99
   go_wp2_with(first
    |(go_at_call 170;refine(n.o _).mono ?_;rintro e w' ⟨rfl,rfl⟩)
    |(go_at_call 171;refine(p.o _).mono ?_;rintro e w' ⟨rfl,rfl⟩)
    |(go_at_call 172;refine(q.o _).mono ?_;rintro e w1 ⟨u,rfl,g,d⟩;obtain⟨t,x,rfl⟩:=g.form;have a:=a.below d;have b:=Bt b d)
    |(go_at_call 105;refine(OV _ _ _ _ g).mono ?_;rintro e w2 ⟨v,rfl,hv,f⟩;have a:=a.below f;have b:=Bt b f;rw[<-r.o]at hv;obtain⟨c,i,c3,rfl,l⟩:=hv;obtain⟨q0,q1⟩:=a.cp;obtain⟨f0,f1⟩:=a.fp))
   obtain⟨k,j⟩:=K7 (E (decide (Dz (Jj s)<0))) (C c i c3) b (Aa _) a J J l;exact BA (by simp[results,results99,go_sem,q0,q1]) J (Gl.yes o.o ⟨c,i,c3,J,k⟩ j)
 . have z:=m J;clear m;go_enter func99,ntmps99
   go_wp2_with(first
    |(go_at_call 170;refine(n.o _).mono ?_;rintro e w' ⟨rfl,rfl⟩)
    |(go_at_call 171;refine(p.o _).mono ?_;rintro e w' ⟨rfl,rfl⟩)
    |(go_at_call 172;refine(q.o _).mono ?_;rintro e w1 ⟨u,rfl,g,d⟩;obtain⟨t,x,rfl⟩:=g.form;have a:=a.below d;have b:=Bt b d)
    |(go_at_call 105;refine(OV _ _ _ _ g).mono ?_;rintro e w2 ⟨v,rfl,hv,f⟩;have a:=a.below f;have b:=Bt b f;rw[<-r.o]at hv;obtain⟨c,i,c3,rfl,l⟩:=hv;obtain⟨q0,q1⟩:=a.cp;obtain⟨f0,f1⟩:=a.fp))
   obtain⟨k,j⟩:=K7 (E (decide (Dz (Jj s)<0))) (C c i c3) b (Aa _) a J J l;exact BA (by simp[results,results99,go_sem,q0,q1]) J (Gl.yes o.o ⟨c,i,c3,J,k⟩ j)
theorem jG(s:ByteArray)(hs:s.size<=140737488351232)(w:F):G B 99 #[D s] w (Gl (Jj s) w):=by
 by_cases f:2000<s.size
 . exact jC s f hs w
 have a:s.size<=2000:=O
 cases hn:Ha (J6 (Jj s))
 . exact jD s a hn w
 by_cases b:(Jj s).head?=some 45/\J6 (Jj s)=[48]
 . exact jE s a hn b.1 b.2 w
 have hg:good (Jj s)=true:=by
  grind[RH,JR]
 have d:(J6 (Jj s)).all DX=true:=by
  grind[Ha]
 have c:Jj (⟨(J6 (Jj s)).toArray⟩:ByteArray)=J6 (Jj s):=rfl;have e:(⟨(J6 (Jj s)).toArray⟩:ByteArray).size<=2000:=by
  grind[JR,J6]
 refine jF s ⟨(J6 (Jj s)).toArray⟩ (decide ((Jj s).head?=some 45)) a hg (λV=>Mf s V) (λV=>?_) (λV=>?_) (λh=>?_) ?_ w
 . have:=Q5 ⟨(J6 (Jj s)).toArray⟩ O V;rw[c,hn]at this;exact this
 . exact jB ⟨(J6 (Jj s)).toArray⟩ (by rw[c];exact d) e V
 . grind[Lib.toList_data]
 . show Dz (Jj s)=_;grind[Dz,sgn]
def row_one(W:F)(v:Nat):Row .u64 (W.alloc (.cells #[.int .u64 (v:Nat)] 223)) (C (some ⟨W.heap.size,0,none⟩) 1 1) [v]:=by
 refine⟨_,1,J,DI,O,DI,Ap ⟨W.heap.size,0,J,⟨_,_,BD W _⟩,λj a=>?_⟩⟩
 have:j=0:=by simp at a;omega
 subst this;exact(BH W 223 (.int .u64 (v:Nat))).cell
theorem jH(a:n≠0)(h:n<Y):Jh Y n=[n]:=by
 grind[Ka,CH,CB,JV]
def jI(h:n<Y):J4 [n]=Jh Y n:=by
 have:=YN Jg (ds:=[n]) (DO.cons h (DO.nil _));rw[<-this];simp[val]
def jJ(N:Nat)(x:N<=9223372036854775807)(w:F):G B 107 #[.int .i64 (N:Int)] w λe w'=>∃u,e=.returned u/\Jk w' u N/\Bl w w':=by
 have hg:¬((N:Int)<0):=O
 have t:yC.wrap (N:Int)=(N:Int):=by rw[IntKind.wrap_u64];omega
 have m:=hidR (jI (n:=N) uo);have a:=(JC.new w 48 (E false) (C none 0 0)).alloc (.cells #[.int .u64 (N:Nat)] 223);have b:Bl w ((w.alloc (.cells #[E false,C none 0 0] 48)).alloc (.cells #[.int .u64 (N:Nat)] 223)):=(Ba _ _).alloc DI _;have g:=row_one (w.alloc (.cells #[E false,C none 0 0] 48)) N;rw[Ax]at g;have i:(N:Int)=sgn false N:=rfl;have l:=hidR i;clear i;go_enter func107,ntmps107
 go_wp2_with(first
  |(go_at_call 176;refine(XE _ _ _ g).mono ?_;rintro e w1 ⟨u,rfl,d,j⟩;rw[m.o]at d;obtain⟨r,s,rfl⟩:=UN.form d;have a:=a.below j;have b:=Bt b j)
  |(go_at_call 105;refine(OV _ _ _ _ d).mono ?_;rintro e w2 ⟨v,rfl,hv,k⟩;have a:=a.below k;have b:=Bt b k;rw[<-l.o]at hv;obtain⟨c,f,c3,rfl,q⟩:=hv;obtain⟨q0,q1⟩:=a.cp;obtain⟨f0,f1⟩:=a.fp))
 obtain⟨p,o⟩:=K7 (E (decide ((N:Int)<0))) (C c f c3) b (Aa _) a J J q;exact BA (v:=.agg #[E (decide ((N:Int)<0)),C c f c3]) (by simp[results,results107,go_sem,q0,q1]) J ⟨_,J,⟨c,f,c3,J,p⟩,o⟩
def jK(N:Nat)(q:1<=N)(r:N<=9223372036854775808)(w:F):G B 107 #[.int .i64 (-(N:Int))] w λe w'=>∃u,e=.returned u/\Jk w' u (-(N:Int))/\Bl w w':=by
 have hg:-(N:Int)<0:=O
 have p:yC.wrap (-(yC.wrap (-(N:Int))))=(N:Int):=by simp only[IntKind.wrap_u64];omega
 have k:=hidR (jH (n:=N) O uo);have a:=(JC.new w 48 (E false) (C none 0 0)).alloc (.cells #[.int .u64 (N:Nat)] 223);have c:Bl w ((w.alloc (.cells #[E false,C none 0 0] 48)).alloc (.cells #[.int .u64 (N:Nat)] 223)):=(Ba _ _).alloc DI _;have b:=row_one (w.alloc (.cells #[E false,C none 0 0] 48)) N;rw[Ax,<-k.o]at b;have b:UN ((w.alloc (.cells #[E false,C none 0 0] 48)).alloc (.cells #[.int .u64 (N:Nat)] 223)) (C (some ⟨w.heap.size+1,0,none⟩) 1 1) N:=b;have g:-(N:Int)=sgn true N:=rfl;have j:=hidR g;clear g;go_enter func107,ntmps107
 go_wp2_with(first
  |(go_at_call 105;refine(OV _ _ _ _ b).mono ?_;rintro e w2 ⟨v,rfl,hv,i⟩;have a:=a.below i;have c:=Bt c i;rw[<-j.o]at hv;obtain⟨d,f,c3,rfl,o⟩:=hv;obtain⟨q0,q1⟩:=a.cp;obtain⟨f0,f1⟩:=a.fp))
 obtain⟨m,l⟩:=K7 (E true) (C d f c3) c (Aa _) a J J o;exact BA (v:=.agg #[E true,C d f c3]) (by simp[results,results107,go_sem,q0,q1]) J ⟨_,J,⟨d,f,c3,by rw[show decide (-(N:Int)<0)=true from decide_eq_true hg],m⟩,l⟩
def GW(n:Int)(a:-9223372036854775808<=n)(b:n<=9223372036854775807)(w:F):G B 107 #[.int .i64 n] w λe w'=>∃u,e=.returned u/\Jk w' u n/\Bl w w':=by
 by_cases h:n<0
 . have e:n=-(n.natAbs:Int):=O
   rw[e];exact jK n.natAbs O O w
 . have e:n=(n.natAbs:Int):=O
   rw[e];exact jJ n.natAbs O w

