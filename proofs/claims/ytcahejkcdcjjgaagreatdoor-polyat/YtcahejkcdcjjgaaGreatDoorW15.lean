import Derived.Test.YtcahejkcdcjjgaaGreatDoorW10
import Derived.Test.YtcahejkcdcjjgaaGreatDoorW09
import Derived.Test.YtcahejkcdcjjgaaGreatDoorW04
set_option linter.all false
open Go.Proofs.Tryz renaming prog->B
open Go.Value renaming slice->C,string->D,bool->E
open Go renaming World->F,Calls->G
set_option maxRecDepth 99999
set_option maxHeartbeats 0
namespace Go.Proofs.YtcahejkcdcjjgaaGreatDoor
open Go.IntKind renaming u64->Zy
open List renaming replicate->Zw
open Proofs.Tryz
section
open Go.RowKit Go.Shelf Go.Deep
variable{s:ByteArray}{q:Ja}{l:List UInt8}{c n:Nat}
def hidR{p:Prop}(h:p):Hid p:=h
theorem Rs(l:List UInt8)(a:Nat)(h:l.all DS=true)(d:num l+10^l.length*a<18446744073709551616):Lib.parseUintM (2^64-1) a l=.ok (num l+10^l.length*a):=by
 induction l generalizing a with
 |nil=>simp[Lib.parseUintM,num,Dh,val]
 |cons c l j=>
  have f:=AH.1 h c (Ct ..);have hl:l.all DS=true:=DY
  have i:=J4 f;have e:num (c::l)=num l+10^l.length*(c.toNat-48):=by
   have:=Xx [c] l;rw[List.singleton_append]at this;rw[this];congr 2
  have b:num (c::l)+10^(c::l).length*a=num l+10^l.length*(a*10+(c.toNat-48)):=by
   grind
  rw[b]at d ⊢;have hp:1<=10^l.length:=Nat.one_le_pow _ _ O;have g:a*10+(c.toNat-48)<=10^l.length*(a*10+(c.toNat-48)):=Ch _ O;grind[Lib.parseUintM]
def LQ(h:l.all DS=true):num l<10^l.length:=by
 have:=J7 (IY h);rwa[X4]at this
theorem Rt(h:l.all DS=true)(b:l≠[])(a:l.length<=19):Lib.parseUintB 64 l=.ok (num l):=by
 have c:=LQ h;have d:(10:Nat)^l.length<=10^19:=Au O a;grind[Lib.parseUintB,Rs]
def bytesWorld_below(w:F)(e:TypeId)(s:ByteArray):Bl w (Lib.bytesWorld w e s):=by
 unfold Lib.bytesWorld;refine⟨J,J,J,?_,λk a=>?_⟩
 . simp[World.freeze]
 . show(Array.modify _ _ _)[k]?=_;rw[Array.getElem?_modify,BH (show ¬w.heap.size=k by omega)];exact Br w.drew _ k a
def LR:Jc (s.extract 0 n)=(Jc s).take n:=by
 unfold Jc;rw[Lib.extract_data];simp
theorem Nb:Jc (s.extract n s.size)=(Jc s).drop n:=by
 grind[Jc,Lib.extract_data,Jt]
def Ru(s:ByteArray)(h:(Jc s).all DS=true)(b:0<s.size)(c:s.size<=19)(w:F):
 G B 171 #[D s,.int .i64 10,.int .i64 64] w λe a=>e=.returned (.tuple #[.int .u64 (num (Jc s):Nat),.nilIface])/\Bl w a:=by
 have hl:=Jt s;refine(Tryz.strconv_ParseUint_10_at64_ok s O _ (Rt (l:=Jc s) h (by intro e;rw[e]at hl;simp at hl;omega) O) w).mono ?_;rintro e a ⟨rfl,rfl|rfl⟩
 . exact⟨J,BB _ _⟩
 . exact⟨J,bytesWorld_below _ _ _⟩
def Rv:Value->Nat|D s=>s.size|_=>0
def Rw(h:l.all DS=true):(Jb Y (num l)).length<=l.length:=by
 refine JE Jd (Ao (LQ h) (CS ?_ _));unfold Y;omega
def Rx{a:ByteArray}{b:List UInt8}(e:c=num (Jc (a.extract 0 n)))(g:n=(a.size-1)%19+1)(i:n<=a.size)(d:b=[]\/a.size%19=0)(f:0<a.size):c+num b*10000000000000000000=num (b++Jc (a.extract 0 n)):=by
 have hl:(Jc (a.extract 0 n)).length=n:=by rw[Jt,Az];omega
 rw[Xx,hl,<-e];rcases d with rfl|d
 . simp[num,Dh,val]
 . have:n=19:=O
   rw[this,AO]
theorem Ry{m l over:Nat}(n:c<Y)(hl:l=(Jb Y m).length)(h:Y7 (c::Zw l 0) (Jb Y m) 0 10000000000000000000 l over q):
 (c::Zw l 0)[l]?.getD 0+over<Y/\Js (q++[(c::Zw l 0)[l]?.getD 0+over])=Jb Y (c+m*10000000000000000000):=by
 obtain⟨i,e,j,b⟩:=h;have f:=Jn Jd m;rw[AB]at b;have o:∀k,val Y (Zw k 0)=0:=by
  intro k;induction k with
  |zero=>rfl
  |succ k g=>rw[Cv,JT,g];rfl
 have d:(Jb Y m).take l=Jb Y m:=Ac O;rw[d,f]at b;have a:(c::Zw l 0)[l]?.getD 0+over<Y/\val Y (q++[(c::Zw l 0)[l]?.getD 0+over])=c+m*10000000000000000000:=by
  cases l with
  |zero=>
   grind[val]
  |succ l=>
   grind[Ye,JT]
 refine⟨a.1,?_⟩;rw[<-JQ Jd (e.append (DK.cons a.1 (DK.nil _))),a.2]
def Rz{r d:Nat}(h:r+d<Y):Zy.wrap ((r:Int)+d)=((r+d:Nat):Int):=by
 unfold Y at h;rw[IntKind.wrap_u64];omega
theorem R0{a:F}{nb l:Nat}(d:DO a nb (DU (c::Zw l 0) 0 l q))(f:q.length=l):
 a.cell? ⟨nb,l,none⟩=some (.int .u64 ((c::Zw l 0)[l]?.getD 0:Nat))/\a.frozen? ⟨nb,l,none⟩=false/\∀v,DO (a.setCell ⟨nb,l,none⟩ (.int .u64 (v:Nat))) nb (q++[v]):=by
 have b:DU (c::Zw l 0) 0 l q=q++[(c::Zw l 0)[l]?.getD 0]:=by
  grind[DU,AD]
 have e:=d.cell (j:=l) (by rw[b];simp;omega);rw[b,List.getElem?_append_right O,f,AX]at e;refine⟨e,d.frozen l,λv=>?_⟩;have:=d.set l v;rw[b,Cr _ _ O,f,AX]at this;exact this
def R1(s:ByteArray)(P:(Jc s).all DS=true)(hs:s.size<=2000)(w:F):
 G B 139 #[D s] w λe w'=>∃u,e=.returned u/\UN w' u (num (Jc s))/\Bl w w':=by
 have HD:=hidR P;clear P;go_enter func139,ntmps139
 go_wp2;go_loopw [0,3] (λdv rv wr=>∃(b:ByteArray) (f:List UInt8) (a:Zu) (l cap:Nat),dv=D b/\rv=C a l cap/\b.size<=2000/\l<=2000/\UN wr (C a l cap) (num f)/\Hid (Jc s=f++Jc b/\(f=[]\/b.size%19=0))/\Bl w wr) λdv _ _=>Rv dv
 case atStart=>exact⟨s,[],none,0,0,J,J,hs,O,by unfold UN;simp[num,Dh,val,Jv];exact Row.nil _ _,⟨DJ,Ar J⟩,BB _ _⟩
 case round=>
  obtain⟨b,f,a,l,cap,rfl,rfl,ay,hl,k,v,hB⟩:=hrel;by_cases h0:b.size=0
  . have Qb:=Aj (by rw[Jt];exact h0);have e:f=Jc s:=by rw[v.o.1,Qb,Ce]
    have HE:=hidR e;have hz:b.size<=0:=O
    clear e Qb h0;go_wp2;go_ret;exact⟨_,J,by rw[<-HE.o];exact k,hB⟩
  . have ae:0<b.size:=O
    obtain⟨n,hn⟩:∃n,n=(b.size-1)%19+1:=⟨_,J⟩;have En:=hidR (show(((b.size:Int)-1)%19+1)=(n:Int)by omega);have Qw:n<=b.size:=O
    have i:=hidR hn;clear hn;go_upto_region 4 with fail
    rw[En.o];have Q:(Jc (b.extract 0 n)).all DS=true:=by
     have g:=HD.o;rw[v.o.1,CZ,AN]at g;rw[LR,AH];intro c r;exact AH.1 g.2 c (C3 r)
    have A:(b.extract 0 n).size=n:=by rw[Az];omega
    have W:num (Jc (b.extract 0 n))<10000000000000000000:=by
     have g:=LQ Q;rw[Jt,A]at g;have L:(10:Nat)^n<=10^19:=Au O (by have:=i.o;omega);omega
    have R:=hidR λV=>Ru (b.extract 0 n) Q (by rw[A];have:=i.o;omega) (by rw[A];have:=i.o;omega) V;obtain⟨c,r⟩:∃c,c=num (Jc (b.extract 0 n)):=⟨_,J⟩;rw[<-r]at W R;have Uc:=hidR r;have Qr:=hidR W;clear Q A r W;have ap:0<n:=by have:=i.o;omega
    have T:Hid (Jc s=(f++Jc (b.extract 0 n))++Jc (b.extract n b.size)/\(f++Jc (b.extract 0 n)=[]\/(b.extract n b.size).size%19=0)):=by
     refine⟨?_,Ax ?_⟩
     . rw[A7,LR,Nb,A0];exact v.o.1
     . rw[Az];have:=i.o;omega
    have Qu:Hid ((Jb Y (num (f++Jc (b.extract 0 n)))).length<=2000):=by
     have g:=HD.o;rw[T.o.1,CZ,AN]at g;have L:=Rw g.1;have h3:=congrArg List.length T.o.1;rw[AE,Jt]at h3;exact AK L O
    have Ua:=Iv l O;go_upto_region 7 with(first|(go_at_call 171;refine(R.o _).mono ?_;rintro e t ⟨rfl,N⟩))
    obtain⟨I,m⟩:=ex (t.alloc (.cells (cellsOf .u64 (Zw (l+1) 0)).toArray 163));have H:DO I t.heap.size (Zw (l+1) 0):=DO.made (by rw[<-m];exact BC t _);have x:=Bt hB N;have Qp:Bl w I:=by rw[<-m];exact x.alloc x.size _
    have Qq:UN I (C a l cap) (num f):=by rw[<-m];exact Row.below (Row.below k N) (Ba _ _)
    have X:=x.size;have Qo:Hid (∀p,a=some p->0<l->p.block≠t.heap.size):=by
     intro p ep S;obtain⟨_,_,_,_,ai⟩:=Jq k;obtain⟨b',az,ea,an,_⟩:=ai 0 S;rw[ep]at ea;cases ea;have:=N.size;simp only;omega
    have Qn:=k.len;have Qy:=hidR Qn;rw[m];clear m Ua N x k Qn R hB;generalize t.heap.size=nb at *;have z0:=H.cell (j:=0) DJ;have z1:=H.frozen 0;go_upto_region 8 with fail
    obtain⟨K,o⟩:=ex (I.setCell ⟨nb,0,none⟩ (.int .u64 (c:Nat)));have U:DO K nb (c::Zw l 0):=by rw[<-o];have:=H.set 0 c;simpa[List.replicate_succ]using this
    have Qs:Bl w K:=by rw[<-o];exact Qp.setCell X _
    have Ub:UN K (C a l cap) (num f):=by rw[<-o];exact Row.grown Qq (Jy _ _ _ _) Qo.o
    rw[o];clear o H Qp Qq z0 z1;have S:=U.cell (j:=l) DJ;have ak:=U.frozen l;obtain⟨y,hy⟩:∃y,y=(c::Zw l 0)[l]?.getD 0:=⟨_,J⟩;rw[<-hy]at S;have HY:=hidR hy;clear hy;have Qv:=hidR λV (hV:Bl K V)=>LP nb 0 l (l+1) (c::Zw l 0) a cap (Jb Y (num f)) 10000000000000000000 V (U.below hV) (DK.cons (by have:=Qr.o;unfold Y;omega) λd P=>by rw[CP P];unfold Y;omega) DJ O (Row.below Ub hV) (Jm Jd _) Qo.o uo;have i0:(0:Int)<=(l:Int):=O
    have i1:(l:Int)<(l:Int)+1:=O
    have i2:(l:Int)<=(l:Int)+1:=O
    go_region_with (first
     |(go_at_call 172;refine(Qv.o _ ?_).mono ?_;exact(BB _ _).drew;rintro e w4 ⟨over,q,rfl,M,hA4,ad⟩;obtain⟨k1,k2,k3⟩:=R0 hA4 M.1;rw[<-HY.o]at k1;have z:=Ry (by have:=Qr.o;unfold Y;omega) Qy.o M;rw[<-HY.o]at z;have aj:Zy.wrap ((y:Int)+over)=((y+over:Nat):Int):=Rz z.1;have Qt:=hidR z.2;have Qz:=hidR M.1;clear z M))
    all_goals go_wp2_with fail
    all_goals
     have Qx:DO (w4.setCell ⟨nb,l,none⟩ (.int .u64 ((y:Int)+over))) nb (q++[y+over]):=by
      have:=k3 (y+over);rwa[Int.natCast_add]at this
     have aq:=Qz.o;have Qc:=Qx.row 0 (l+1) (l+1) si O O O;rw[AB,Ac si]at Qc;refine(Yz _ _ _ Qc).mono ?_;rintro e w6 ⟨u,rfl,hu,ah⟩;rw[Qt.o,Rx Uc.o i.o Qw v.o.2 ae]at hu;have Ud:=((below_grown Qs.drew ad X).setCell X _).trans (ah.mono (by have g:=Qs.size;have L:=ad.size;simp[World.setCell]at L ⊢;omega));obtain⟨au,cu,eu⟩:=UN.form hu;subst eu;go_wp2;go_roundw
     case rel=>exact⟨b.extract n b.size,f++Jc (b.extract 0 n),au,_,cu,J,J,by rw[Az];omega,Qu.o,hu,T.o,Ud⟩
     case measure=>
      show(b.extract n b.size).size<b.size;rw[Az];omega
end
open Go.RowKit Go.Shelf
def Hj(b:Bool)(n:Nat):Int:=if b then -(n:Int)else n
variable{l:List UInt8}{n:Nat}{a w:F}
def Iy(b:Bool)(v:Value)(n:Nat)(w:F)(h:UN w v n):G B 112 #[E b,v] w λe a=>∃u,e=.returned u/\Jl a u (Hj b n)/\Bl w a:=GV b v n w h
def Fg:Value:=.tuple #[.agg #[E false,C none 0 0],E false]
theorem Hk(s:ByteArray)(w:F):G B 96 #[D s,D ⟨#[45]⟩] w λe a=>e=.returned (.tuple #[D ⟨(JG (Jc s)).toArray⟩,E (decide ((Jc s).head?=some 45))])/\a=w:=by
 refine(Tryz.strings_CutPrefix s ⟨#[45]⟩ w).mono ?_;rintro e a ⟨rfl,rfl⟩;have b:Lib.hasPrefix s.data.toList [45]=decide ((Jc s).head?=some 45):=by
  unfold Jc Lib.hasPrefix;cases s.data.toList with
  |nil=>rfl
  |cons c l=>
   grind
 refine⟨?_,J⟩;have d:Lib.trimPrefix s.data.toList [45]=JG (Jc s):=by
  grind[Lib.trimPrefix,JG,Jc,List.drop_one]
 grind
theorem LS(h:l.length<=2000):good l=(Ee (JG l) && !(decide (l.head?=some 45)&&decide (JG l=[48]))):=by
 rw[Ci];simp only[good,Ee,AN,Bb,Bool.or_eq_true,Cq,Bo,List.isEmpty_eq_false_iff,Bool.and_eq_false_iff];grind[JG]
def Xn(l:List UInt8)(w:F)(e:Ending)(a:F):Prop:=
 (good l=true->∃u,e=.returned (.tuple #[u,E true])/\Jl a u (Yu l))/\(good l=false->e=.returned Fg)/\Bl w a
def Xn.no(h:good l=false)(c:Bl w a):Xn l w (.returned Fg) a:=
 ⟨λb=>(by rw[h]at b;cases b),λ_=>rfl,c⟩
def Xn.yes{u:Value}(h:good l=true)(d:Jl a u (Yu l))(c:Bl w a):Xn l w (.returned (.tuple #[u,E true])) a:=
 ⟨λ_=>⟨u,J,d⟩,λb=>(by rw[h]at b;cases b),c⟩
def R2(s:ByteArray)(b:2000<s.size)(hs:s.size<=140737488351232)(w:F):G B 103 #[D s] w (Xn (Jc s) w):=by
 have a:=hidR (show good (Jc s)=false by
  have:=Jt s;simp[good];omega)
 go_enter func103,ntmps103
 go_wp2_with(first
  |(go_at_call 96;refine(Hk _ _).mono ?_;rintro e c ⟨rfl,rfl⟩))
 exact BA (v:=Fg) (by simp[results,results103,go_sem,Fg]) J (Xn.no a.o (Ba _ _))
theorem R3(s:ByteArray)(l:s.size<=2000)(b:Ee (JG (Jc s))=false)(w:F):G B 103 #[D s] w (Xn (Jc s) w):=by
 have k:=hidR (show good (Jc s)=false by rw[LS (by rw[Jt];exact l),b];rfl);obtain⟨d,c⟩:=ex ((⟨(JG (Jc s)).toArray⟩:ByteArray):ByteArray);obtain⟨o,g⟩:=ex (decide ((Jc s).head?=some 45));have a:=λV=>Hk s V;rw[c,g]at a;have i:Jc d=JG (Jc s):=by rw[<-c];rfl
 have n:d.size<=2000:=by
  grind[Jt,JG]
 have f:=hidR λV=>K9 d O V;rw[i,b]at f;have j:=hidR a;clear a i b c g;go_enter func103,ntmps103
 go_wp2_with(first
  |(go_at_call 96;refine(j.o _).mono ?_;rintro e m ⟨rfl,rfl⟩)
  |(go_at_call 138;refine(f.o _).mono ?_;rintro e m ⟨rfl,rfl⟩))
 exact BA (v:=Fg) (by simp[results,results103,go_sem,Fg]) J (Xn.no k.o (Ba _ _))
theorem R4(s:ByteArray)(k:s.size<=2000)(i:Ee (JG (Jc s))=true)(b:(Jc s).head?=some 45)(c:JG (Jc s)=[48])(w:F):G B 103 #[D s] w (Xn (Jc s) w):=by
 have f:=hidR (show good (Jc s)=false by grind[LS,Jt]);have a:=λV=>Hk s V;rw[c,decide_eq_true b]at a;have g:=hidR λV=>K9 ⟨[48].toArray⟩ DP V;have d:=hidR a;clear a i b c;go_enter func103,ntmps103
 go_wp2_with(first
  |(go_at_call 96;refine(d.o _).mono ?_;rintro e j ⟨rfl,rfl⟩)
  |(go_at_call 138;refine(g.o _).mono ?_;rintro e j ⟨rfl,rfl⟩))
 exact BA (v:=Fg) (by simp[results,results103,go_sem,Fg]) J (Xn.no f.o (Ba _ _))
def R5(s d:ByteArray)(m:Bool)(L:s.size<=2000)(t:Hid (good (Jc s)=true))(r:Hid (∀V,G B 96 #[D s,D ⟨#[45]⟩] V λe c=>e=.returned (.tuple #[D d,E m])/\c=V))
(x:Hid (∀V,G B 138 #[D d] V λe c=>e=.returned (E true)/\c=V))(y:Hid (∀V,G B 139 #[D d] V λe c=>∃u,e=.returned u/\UN c u (num (Jc d))/\Bl V c))
(q:m=true->(d.toList == [48])=false)(z:Hid (Yu (Jc s)=Hj m (num (Jc d))))(w:F):G B 103 #[D s] w (Xn (Jc s) w):=by
 have a:=Ji.new w 36 (E false) (C none 0 0);have b:Bl w (w.alloc (.cells #[E false,C none 0 0] 36)):=Ba _ _;cases m
 . clear q;go_enter func103,ntmps103
   go_wp2_with(first
    |(go_at_call 96;refine(r.o _).mono ?_;rintro e c ⟨rfl,rfl⟩)
    |(go_at_call 138;refine(x.o _).mono ?_;rintro e c ⟨rfl,rfl⟩)
    |(go_at_call 139;refine(y.o _).mono ?_;rintro e I ⟨u,rfl,j,g⟩;obtain⟨A,H,rfl⟩:=j.form;have a:=a.below g;have b:=Bt b g)
    |(go_at_call 112;refine(Iy _ _ _ _ j).mono ?_;rintro e K ⟨v,rfl,k,i⟩;have a:=a.below i;have b:=Bt b i;rw[<-z.o]at k;obtain⟨f,l,c3,rfl,p⟩:=k;obtain⟨q0,q1⟩:=a.cp;obtain⟨f0,f1⟩:=a.fp))
   obtain⟨o,n⟩:=JW (E (decide (Yu (Jc s)<0))) (C f l c3) b (Aa _) a J J p;exact BA (by simp[results,results103,go_sem,q0,q1]) J (Xn.yes t.o ⟨f,l,c3,J,o⟩ n)
 . have M:=q J;clear q;go_enter func103,ntmps103
   go_wp2_with(first
    |(go_at_call 96;refine(r.o _).mono ?_;rintro e c ⟨rfl,rfl⟩)
    |(go_at_call 138;refine(x.o _).mono ?_;rintro e c ⟨rfl,rfl⟩)
    |(go_at_call 139;refine(y.o _).mono ?_;rintro e I ⟨u,rfl,j,g⟩;obtain⟨A,H,rfl⟩:=j.form;have a:=a.below g;have b:=Bt b g)
    |(go_at_call 112;refine(Iy _ _ _ _ j).mono ?_;rintro e K ⟨v,rfl,k,i⟩;have a:=a.below i;have b:=Bt b i;rw[<-z.o]at k;obtain⟨f,l,c3,rfl,p⟩:=k;obtain⟨q0,q1⟩:=a.cp;obtain⟨f0,f1⟩:=a.fp))
   obtain⟨o,n⟩:=JW (E (decide (Yu (Jc s)<0))) (C f l c3) b (Aa _) a J J p;exact BA (by simp[results,results103,go_sem,q0,q1]) J (Xn.yes t.o ⟨f,l,c3,J,o⟩ n)
theorem R6(s:ByteArray)(hs:s.size<=140737488351232)(w:F):G B 103 #[D s] w (Xn (Jc s) w):=by
 by_cases g:2000<s.size
 . exact R2 s g hs w
 have a:s.size<=2000:=O
 cases b:Ee (JG (Jc s))
 . exact R3 s a b w
 by_cases c:(Jc s).head?=some 45/\JG (Jc s)=[48]
 . exact R4 s a b c.1 c.2 w
 have hg:good (Jc s)=true:=by
  grind[LS,Jt]
 have e:(JG (Jc s)).all DS=true:=by
  grind[Ee]
 have d:Jc (⟨(JG (Jc s)).toArray⟩:ByteArray)=JG (Jc s):=rfl;have f:(⟨(JG (Jc s)).toArray⟩:ByteArray).size<=2000:=by
  grind[Jt,JG]
 refine R5 s ⟨(JG (Jc s)).toArray⟩ (decide ((Jc s).head?=some 45)) a hg (λV=>Hk s V) (λV=>?_) (λV=>?_) (λh=>?_) ?_ w
 . have:=K9 ⟨(JG (Jc s)).toArray⟩ O V;rw[d,b]at this;exact this
 . exact R1 ⟨(JG (Jc s)).toArray⟩ (by rw[d];exact e) f V
 . grind[Lib.toList_data]
 . show Yu (Jc s)=_;grind[Yu,Hj]
def row_one(W:F)(v:Nat):Row .u64 (W.alloc (.cells #[.int .u64 (v:Nat)] 163)) (C (some ⟨W.heap.size,0,none⟩) 1 1) [v]:=by
 refine⟨_,1,J,DJ,O,DJ,Ax ⟨W.heap.size,0,J,⟨_,_,BC W _⟩,λj a=>?_⟩⟩
 have:j=0:=by simp at a;omega
 subst this;exact(BJ W 163 (.int .u64 (v:Nat))).cell
theorem R7(a:n≠0)(h:n<Y):Jb Y n=[n]:=by
 grind[Xd,Cf,A3,Jv]
def R8(h:n<Y):Js [n]=Jb Y n:=by
 have:=JQ Jd (ds:=[n]) (DK.cons h (DK.nil _));rw[<-this];simp[val]
def R9(a:Nat)(A:a<=9223372036854775807)(w:F):G B 110 #[.int .i64 (a:Int)] w λe o=>∃u,e=.returned u/\Jl o u a/\Bl w o:=by
 have hg:¬((a:Int)<0):=O
 have z:Zy.wrap (a:Int)=(a:Int):=by rw[IntKind.wrap_u64];omega
 have q:=hidR (R8 (n:=a) uo);have b:=(Ji.new w 36 (E false) (C none 0 0)).alloc (.cells #[.int .u64 (a:Nat)] 163);have c:Bl w ((w.alloc (.cells #[E false,C none 0 0] 36)).alloc (.cells #[.int .u64 (a:Nat)] 163)):=(Ba _ _).alloc DJ _;have i:=row_one (w.alloc (.cells #[E false,C none 0 0] 36)) a;rw[A1]at i;have j:(a:Int)=Hj false a:=rfl;have p:=hidR j;clear j;go_enter func110,ntmps110
 go_wp2_with(first
  |(go_at_call 132;refine(Yz _ _ _ i).mono ?_;rintro e H ⟨u,rfl,f,k⟩;rw[q.o]at f;obtain⟨x,y,rfl⟩:=UN.form f;have b:=b.below k;have c:=Bt c k)
  |(go_at_call 112;refine(Iy _ _ _ _ f).mono ?_;rintro e I ⟨v,rfl,m,l⟩;have b:=b.below l;have c:=Bt c l;rw[<-p.o]at m;obtain⟨d,g,c3,rfl,t⟩:=m;obtain⟨q0,q1⟩:=b.cp;obtain⟨f0,f1⟩:=b.fp))
 obtain⟨s,r⟩:=JW (E (decide ((a:Int)<0))) (C d g c3) c (Aa _) b J J t;exact BA (v:=.agg #[E (decide ((a:Int)<0)),C d g c3]) (by simp[results,results110,go_sem,q0,q1]) J ⟨_,J,⟨d,g,c3,J,s⟩,r⟩
def SA(a:Nat)(t:1<=a)(x:a<=9223372036854775808)(w:F):G B 110 #[.int .i64 (-(a:Int))] w λe l=>∃u,e=.returned u/\Jl l u (-(a:Int))/\Bl w l:=by
 have hg:-(a:Int)<0:=O
 have s:Zy.wrap (-(Zy.wrap (-(a:Int))))=(a:Int):=by simp only[IntKind.wrap_u64];omega
 have o:=hidR (R7 (n:=a) O uo);have b:=(Ji.new w 36 (E false) (C none 0 0)).alloc (.cells #[.int .u64 (a:Nat)] 163);have d:Bl w ((w.alloc (.cells #[E false,C none 0 0] 36)).alloc (.cells #[.int .u64 (a:Nat)] 163)):=(Ba _ _).alloc DJ _;have c:=row_one (w.alloc (.cells #[E false,C none 0 0] 36)) a;rw[A1,<-o.o]at c;have c:UN ((w.alloc (.cells #[E false,C none 0 0] 36)).alloc (.cells #[.int .u64 (a:Nat)] 163)) (C (some ⟨w.heap.size+1,0,none⟩) 1 1) a:=c;have i:-(a:Int)=Hj true a:=rfl;have m:=hidR i;clear i;go_enter func110,ntmps110
 go_wp2_with(first
  |(go_at_call 112;refine(Iy _ _ _ _ c).mono ?_;rintro e y ⟨v,rfl,k,j⟩;have b:=b.below j;have d:=Bt d j;rw[<-m.o]at k;obtain⟨f,g,c3,rfl,r⟩:=k;obtain⟨q0,q1⟩:=b.cp;obtain⟨f0,f1⟩:=b.fp))
 obtain⟨q,p⟩:=JW (E true) (C f g c3) d (Aa _) b J J r;exact BA (v:=.agg #[E true,C f g c3]) (by simp[results,results110,go_sem,q0,q1]) J ⟨_,J,⟨f,g,c3,by rw[show decide (-(a:Int)<0)=true from decide_eq_true hg],q⟩,p⟩
def Iz(n:Int)(b:-9223372036854775808<=n)(c:n<=9223372036854775807)(w:F):G B 110 #[.int .i64 n] w λe a=>∃u,e=.returned u/\Jl a u n/\Bl w a:=by
 by_cases h:n<0
 . have e:n=-(n.natAbs:Int):=O
   rw[e];exact SA n.natAbs O O w
 . have e:n=(n.natAbs:Int):=O
   rw[e];exact R9 n.natAbs O w

