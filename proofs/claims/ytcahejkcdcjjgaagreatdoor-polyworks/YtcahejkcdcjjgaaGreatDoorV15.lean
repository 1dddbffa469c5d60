import Derived.Test.YtcahejkcdcjjgaaGreatDoorV10
import Derived.Test.YtcahejkcdcjjgaaGreatDoorV09
import Derived.Test.YtcahejkcdcjjgaaGreatDoorV04
set_option linter.all false
open Go.Proofs.Tryz renaming prog->B
open Go.Value renaming slice->C,string->D,bool->E
open Go renaming World->F,Calls->G
set_option maxRecDepth 99999
set_option maxHeartbeats 0
namespace Go.Proofs.YtcahejkcdcjjgaaGreatDoor
open Go.IntKind renaming u64->WE
open List renaming replicate->WC
open Proofs.Tryz
section
open Go.RowKit Go.Shelf Go.Deep
variable{s:ByteArray}{q:Ja}{l:List UInt8}{c n:Nat}
def hidR{p:Prop}(h:p):Hid p:=h
theorem QS(l:List UInt8)(a:Nat)(h:l.all DS=true)(d:num l+10^l.length*a<18446744073709551616):Lib.parseUintM (2^64-1) a l=.ok (num l+10^l.length*a):=by
 induction l generalizing a with
 |nil=>simp[Lib.parseUintM,num,Dg,val]
 |cons c l j=>
  have f:=Az.1 h c (Cs ..);have hl:l.all DS=true:=DX
  have i:=Yl f;have e:num (c::l)=num l+10^l.length*(c.toNat-48):=by
   have:=Xx [c] l;rw[List.singleton_append]at this;rw[this];congr 2
  have b:num (c::l)+10^(c::l).length*a=num l+10^l.length*(a*10+(c.toNat-48)):=by
   grind
  rw[b]at d ⊢;have hp:1<=10^l.length:=Nat.one_le_pow _ _ O;have g:a*10+(c.toNat-48)<=10^l.length*(a*10+(c.toNat-48)):=Cf _ O;grind[Lib.parseUintM]
def Ko(h:l.all DS=true):num l<10^l.length:=by
 have:=J1 (Hh h);rwa[X0]at this
theorem QT(h:l.all DS=true)(b:l≠[])(a:l.length<=19):Lib.parseUintB 64 l=.ok (num l):=by
 have c:=Ko h;have d:(10:Nat)^l.length<=10^19:=Ag O a;grind[Lib.parseUintB,QS]
def bytesWorld_below(w:F)(e:TypeId)(s:ByteArray):Bl w (Lib.bytesWorld w e s):=by
 unfold Lib.bytesWorld;refine⟨J,J,J,?_,λk a=>?_⟩
 . simp[World.freeze]
 . show(Array.modify _ _ _)[k]?=_;rw[Array.getElem?_modify,BL (show ¬w.heap.size=k by omega)];exact Bn w.drew _ k a
def Kp:Je (s.extract 0 n)=(Je s).take n:=by
 unfold Je;rw[Lib.extract_data];simp
theorem Mb:Je (s.extract n s.size)=(Je s).drop n:=by
 grind[Je,Lib.extract_data,JD]
def QU(s:ByteArray)(h:(Je s).all DS=true)(b:0<s.size)(c:s.size<=19)(w:F):
 G B 171 #[D s,.int .i64 10,.int .i64 64] w λe a=>e=.returned (.tuple #[.int .u64 (num (Je s):Nat),.nilIface])/\Bl w a:=by
 have hl:=JD s;refine(Tryz.strconv_ParseUint_10_at64_ok s O _ (QT (l:=Je s) h (by intro e;rw[e]at hl;simp at hl;omega) O) w).mono ?_;rintro e a ⟨rfl,rfl|rfl⟩
 . exact⟨J,BF _ _⟩
 . exact⟨J,bytesWorld_below _ _ _⟩
def QV:Value->Nat|D s=>s.size|_=>0
def QW(h:l.all DS=true):(Jb Y (num l)).length<=l.length:=by
 refine JE Jc (Al (Ko h) (CM ?_ _));unfold Y;omega
def QX{a:ByteArray}{b:List UInt8}(e:c=num (Je (a.extract 0 n)))(g:n=(a.size-1)%19+1)(i:n<=a.size)(d:b=[]\/a.size%19=0)(f:0<a.size):c+num b*10000000000000000000=num (b++Je (a.extract 0 n)):=by
 have hl:(Je (a.extract 0 n)).length=n:=by rw[JD,A9];omega
 rw[Xx,hl,<-e];rcases d with rfl|d
 . simp[num,Dg,val]
 . have:n=19:=O
   rw[this,AE]
theorem QY{m l over:Nat}(n:c<Y)(hl:l=(Jb Y m).length)(h:Y0 (c::WC l 0) (Jb Y m) 0 10000000000000000000 l over q):
 (c::WC l 0)[l]?.getD 0+over<Y/\Jr (q++[(c::WC l 0)[l]?.getD 0+over])=Jb Y (c+m*10000000000000000000):=by
 obtain⟨i,e,j,b⟩:=h;have f:=Jk Jc m;rw[AF]at b;have o:∀k,val Y (WC k 0)=0:=by
  intro k;induction k with
  |zero=>rfl
  |succ k g=>rw[Cu,JS,g];rfl
 have d:(Jb Y m).take l=Jb Y m:=Ac O;rw[d,f]at b;have a:(c::WC l 0)[l]?.getD 0+over<Y/\val Y (q++[(c::WC l 0)[l]?.getD 0+over])=c+m*10000000000000000000:=by
  cases l with
  |zero=>
   grind[val]
  |succ l=>
   grind[J8,JS]
 refine⟨a.1,?_⟩;rw[<-JP Jc (e.append (DK.cons a.1 (DK.nil _))),a.2]
def QZ{r d:Nat}(h:r+d<Y):WE.wrap ((r:Int)+d)=((r+d:Nat):Int):=by
 unfold Y at h;rw[IntKind.wrap_u64];omega
theorem Q3{a:F}{nb l:Nat}(d:DN a nb (DT (c::WC l 0) 0 l q))(f:q.length=l):
 a.cell? ⟨nb,l,none⟩=some (.int .u64 ((c::WC l 0)[l]?.getD 0:Nat))/\a.frozen? ⟨nb,l,none⟩=false/\∀v,DN (a.setCell ⟨nb,l,none⟩ (.int .u64 (v:Nat))) nb (q++[v]):=by
 have b:DT (c::WC l 0) 0 l q=q++[(c::WC l 0)[l]?.getD 0]:=by
  grind[DT,AH]
 have e:=d.cell (j:=l) (by rw[b];simp;omega);rw[b,List.getElem?_append_right O,f,AY]at e;refine⟨e,d.frozen l,λv=>?_⟩;have:=d.set l v;rw[b,Cq _ _ O,f,AY]at this;exact this
def Q4(s:ByteArray)(P:(Je s).all DS=true)(hs:s.size<=2000)(w:F):
 G B 139 #[D s] w λe w'=>∃u,e=.returned u/\UN w' u (num (Je s))/\Bl w w':=by
 have HD:=hidR P;clear P;go_enter func139,ntmps139
 go_wp2;go_loopw [0,3] (λdv rv wr=>∃(b:ByteArray) (f:List UInt8) (a:V8) (l cap:Nat),dv=D b/\rv=C a l cap/\b.size<=2000/\l<=2000/\UN wr (C a l cap) (num f)/\Hid (Je s=f++Je b/\(f=[]\/b.size%19=0))/\Bl w wr) λdv _ _=>QV dv
 case atStart=>exact⟨s,[],none,0,0,J,J,hs,O,by unfold UN;simp[num,Dg,val,Jw];exact Row.nil _ _,⟨DJ,An J⟩,BF _ _⟩
 case round=>
  obtain⟨b,f,a,l,cap,rfl,rfl,aq,hl,k,v,hB⟩:=hrel;by_cases h0:b.size=0
  . have Qb:=Ah (by rw[JD];exact h0);have e:f=Je s:=by rw[v.o.1,Qb,Cd]
    have HE:=hidR e;have hz:b.size<=0:=O
    clear e Qb h0;go_wp2;go_ret;exact⟨_,J,by rw[<-HE.o];exact k,hB⟩
  . have ae:0<b.size:=O
    obtain⟨n,hn⟩:∃n,n=(b.size-1)%19+1:=⟨_,J⟩;have En:=hidR (show(((b.size:Int)-1)%19+1)=(n:Int)by omega);have Qw:n<=b.size:=O
    have i:=hidR hn;clear hn;go_upto_region 4 with fail
    rw[En.o];have Q:(Je (b.extract 0 n)).all DS=true:=by
     have g:=HD.o;rw[v.o.1,CT,AL]at g;rw[Kp,Az];intro c r;exact Az.1 g.2 c (CY r)
    have A:(b.extract 0 n).size=n:=by rw[A9];omega
    have W:num (Je (b.extract 0 n))<10000000000000000000:=by
     have g:=Ko Q;rw[JD,A]at g;have L:(10:Nat)^n<=10^19:=Ag O (by have:=i.o;omega);omega
    have R:=hidR λV=>QU (b.extract 0 n) Q (by rw[A];have:=i.o;omega) (by rw[A];have:=i.o;omega) V;obtain⟨c,r⟩:∃c,c=num (Je (b.extract 0 n)):=⟨_,J⟩;rw[<-r]at W R;have Uc:=hidR r;have Qr:=hidR W;clear Q A r W;have an:0<n:=by have:=i.o;omega
    have T:Hid (Je s=(f++Je (b.extract 0 n))++Je (b.extract n b.size)/\(f++Je (b.extract 0 n)=[]\/(b.extract n b.size).size%19=0)):=by
     refine⟨?_,Ar ?_⟩
     . rw[A6,Kp,Mb,AU];exact v.o.1
     . rw[A9];have:=i.o;omega
    have Qu:Hid ((Jb Y (num (f++Je (b.extract 0 n)))).length<=2000):=by
     have g:=HD.o;rw[T.o.1,CT,AL]at g;have L:=QW g.1;have h3:=congrArg List.length T.o.1;rw[Ay,JD]at h3;exact As L O
    have Ua:=IC l O;go_upto_region 7 with(first|(go_at_call 171;refine(R.o _).mono ?_;rintro e t ⟨rfl,N⟩))
    obtain⟨I,m⟩:=ex (t.alloc (.cells (cellsOf .u64 (WC (l+1) 0)).toArray 163));have H:DN I t.heap.size (WC (l+1) 0):=DN.made (by rw[<-m];exact BG t _);have x:=Bt hB N;have Qp:Bl w I:=by rw[<-m];exact x.alloc x.size _
    have Qq:UN I (C a l cap) (num f):=by rw[<-m];exact Row.below (Row.below k N) (Ba _ _)
    have X:=x.size;have Qo:Hid (∀p,a=some p->0<l->p.block≠t.heap.size):=by
     intro p ep S;obtain⟨_,_,_,_,ai⟩:=Jn k;obtain⟨b',az,ea,am,_⟩:=ai 0 S;rw[ep]at ea;cases ea;have:=N.size;simp only;omega
    have Qn:=k.len;have Qy:=hidR Qn;rw[m];clear m Ua N x k Qn R hB;generalize t.heap.size=nb at *;have z0:=H.cell (j:=0) DJ;have z1:=H.frozen 0;go_upto_region 8 with fail
    obtain⟨K,o⟩:=ex (I.setCell ⟨nb,0,none⟩ (.int .u64 (c:Nat)));have U:DN K nb (c::WC l 0):=by rw[<-o];have:=H.set 0 c;simpa[List.replicate_succ]using this
    have Qs:Bl w K:=by rw[<-o];exact Qp.setCell X _
    have Ub:UN K (C a l cap) (num f):=by rw[<-o];exact Row.grown Qq (Jy _ _ _ _) Qo.o
    rw[o];clear o H Qp Qq z0 z1;have S:=U.cell (j:=l) DJ;have ak:=U.frozen l;obtain⟨y,hy⟩:∃y,y=(c::WC l 0)[l]?.getD 0:=⟨_,J⟩;rw[<-hy]at S;have HY:=hidR hy;clear hy;have Qv:=hidR λV (hV:Bl K V)=>Kn nb 0 l (l+1) (c::WC l 0) a cap (Jb Y (num f)) 10000000000000000000 V (U.below hV) (DK.cons (by have:=Qr.o;unfold Y;omega) λd P=>by rw[CL P];unfold Y;omega) DJ O (Row.below Ub hV) (Jj Jc _) Qo.o uo;have i0:(0:Int)<=(l:Int):=O
    have i1:(l:Int)<(l:Int)+1:=O
    have i2:(l:Int)<=(l:Int)+1:=O
    go_region_with (first
     |(go_at_call 172;refine(Qv.o _ ?_).mono ?_;exact(BF _ _).drew;rintro e w4 ⟨over,q,rfl,M,hA4,ad⟩;obtain⟨k1,k2,k3⟩:=Q3 hA4 M.1;rw[<-HY.o]at k1;have z:=QY (by have:=Qr.o;unfold Y;omega) Qy.o M;rw[<-HY.o]at z;have aj:WE.wrap ((y:Int)+over)=((y+over:Nat):Int):=QZ z.1;have Qt:=hidR z.2;have Qz:=hidR M.1;clear z M))
    all_goals go_wp2_with fail
    all_goals
     have Qx:DN (w4.setCell ⟨nb,l,none⟩ (.int .u64 ((y:Int)+over))) nb (q++[y+over]):=by
      have:=k3 (y+over);rwa[Int.natCast_add]at this
     have ap:=Qz.o;have Qc:=Qx.row 0 (l+1) (l+1) si O O O;rw[AF,Ac si]at Qc;refine(Yq _ _ _ Qc).mono ?_;rintro e w6 ⟨u,rfl,hu,ah⟩;rw[Qt.o,QX Uc.o i.o Qw v.o.2 ae]at hu;have Ud:=((below_grown Qs.drew ad X).setCell X _).trans (ah.mono (by have g:=Qs.size;have L:=ad.size;simp[World.setCell]at L ⊢;omega));obtain⟨au,cu,eu⟩:=UN.form hu;subst eu;go_wp2;go_roundw
     case rel=>exact⟨b.extract n b.size,f++Je (b.extract 0 n),au,_,cu,J,J,by rw[A9];omega,Qu.o,hu,T.o,Ud⟩
     case measure=>
      show(b.extract n b.size).size<b.size;rw[A9];omega
end
open Go.RowKit Go.Shelf
def GY(b:Bool)(n:Nat):Int:=if b then -(n:Int)else n
variable{l:List UInt8}{n:Nat}{a w:F}
def IF(b:Bool)(v:Value)(n:Nat)(w:F)(h:UN w v n):G B 112 #[E b,v] w λe a=>∃u,e=.returned u/\Jh a u (GY b n)/\Bl w a:=Fv b v n w h
def FN:Value:=.tuple #[.agg #[E false,C none 0 0],E false]
theorem GZ(s:ByteArray)(w:F):G B 96 #[D s,D ⟨#[45]⟩] w λe a=>e=.returned (.tuple #[D ⟨(JH (Je s)).toArray⟩,E (decide ((Je s).head?=some 45))])/\a=w:=by
 refine(Tryz.strings_CutPrefix s ⟨#[45]⟩ w).mono ?_;rintro e a ⟨rfl,rfl⟩;have b:Lib.hasPrefix s.data.toList [45]=decide ((Je s).head?=some 45):=by
  unfold Je Lib.hasPrefix;cases s.data.toList with
  |nil=>rfl
  |cons c l=>
   grind
 refine⟨?_,J⟩;have d:Lib.trimPrefix s.data.toList [45]=JH (Je s):=by
  grind[Lib.trimPrefix,JH,Je,List.drop_one]
 grind
theorem Kq(h:l.length<=2000):good l=(EM (JH l) && !(decide (l.head?=some 45)&&decide (JH l=[48]))):=by
 rw[Cg];simp only[good,EM,AL,Bf,Bool.or_eq_true,Cp,Br,List.isEmpty_eq_false_iff,Bool.and_eq_false_iff];grind[JH]
def Xh(l:List UInt8)(w:F)(e:Ending)(a:F):Prop:=
 (good l=true->∃u,e=.returned (.tuple #[u,E true])/\Jh a u (Yz l))/\(good l=false->e=.returned FN)/\Bl w a
def Xh.no(h:good l=false)(c:Bl w a):Xh l w (.returned FN) a:=
 ⟨λb=>(by rw[h]at b;cases b),λ_=>rfl,c⟩
def Xh.yes{u:Value}(h:good l=true)(d:Jh a u (Yz l))(c:Bl w a):Xh l w (.returned (.tuple #[u,E true])) a:=
 ⟨λ_=>⟨u,J,d⟩,λb=>(by rw[h]at b;cases b),c⟩
def Q5(s:ByteArray)(b:2000<s.size)(hs:s.size<=140737488351232)(w:F):G B 103 #[D s] w (Xh (Je s) w):=by
 have a:=hidR (show good (Je s)=false by
  have:=JD s;simp[good];omega)
 go_enter func103,ntmps103
 go_wp2_with(first
  |(go_at_call 96;refine(GZ _ _).mono ?_;rintro e c ⟨rfl,rfl⟩))
 exact BE (v:=FN) (by simp[results,results103,go_sem,FN]) J (Xh.no a.o (Ba _ _))
theorem Q6(s:ByteArray)(l:s.size<=2000)(b:EM (JH (Je s))=false)(w:F):G B 103 #[D s] w (Xh (Je s) w):=by
 have k:=hidR (show good (Je s)=false by rw[Kq (by rw[JD];exact l),b];rfl);obtain⟨d,c⟩:=ex ((⟨(JH (Je s)).toArray⟩:ByteArray):ByteArray);obtain⟨o,g⟩:=ex (decide ((Je s).head?=some 45));have a:=λV=>GZ s V;rw[c,g]at a;have i:Je d=JH (Je s):=by rw[<-c];rfl
 have n:d.size<=2000:=by
  grind[JD,JH]
 have f:=hidR λV=>KT d O V;rw[i,b]at f;have j:=hidR a;clear a i b c g;go_enter func103,ntmps103
 go_wp2_with(first
  |(go_at_call 96;refine(j.o _).mono ?_;rintro e m ⟨rfl,rfl⟩)
  |(go_at_call 138;refine(f.o _).mono ?_;rintro e m ⟨rfl,rfl⟩))
 exact BE (v:=FN) (by simp[results,results103,go_sem,FN]) J (Xh.no k.o (Ba _ _))
theorem Q7(s:ByteArray)(k:s.size<=2000)(i:EM (JH (Je s))=true)(b:(Je s).head?=some 45)(c:JH (Je s)=[48])(w:F):G B 103 #[D s] w (Xh (Je s) w):=by
 have f:=hidR (show good (Je s)=false by grind[Kq,JD]);have a:=λV=>GZ s V;rw[c,decide_eq_true b]at a;have g:=hidR λV=>KT ⟨[48].toArray⟩ DQ V;have d:=hidR a;clear a i b c;go_enter func103,ntmps103
 go_wp2_with(first
  |(go_at_call 96;refine(d.o _).mono ?_;rintro e j ⟨rfl,rfl⟩)
  |(go_at_call 138;refine(g.o _).mono ?_;rintro e j ⟨rfl,rfl⟩))
 exact BE (v:=FN) (by simp[results,results103,go_sem,FN]) J (Xh.no f.o (Ba _ _))
def Q8(s d:ByteArray)(m:Bool)(L:s.size<=2000)(t:Hid (good (Je s)=true))(r:Hid (∀V,G B 96 #[D s,D ⟨#[45]⟩] V λe c=>e=.returned (.tuple #[D d,E m])/\c=V))
(x:Hid (∀V,G B 138 #[D d] V λe c=>e=.returned (E true)/\c=V))(y:Hid (∀V,G B 139 #[D d] V λe c=>∃u,e=.returned u/\UN c u (num (Je d))/\Bl V c))
(q:m=true->(d.toList == [48])=false)(z:Hid (Yz (Je s)=GY m (num (Je d))))(w:F):G B 103 #[D s] w (Xh (Je s) w):=by
 have a:=Ji.new w 36 (E false) (C none 0 0);have b:Bl w (w.alloc (.cells #[E false,C none 0 0] 36)):=Ba _ _;cases m
 . clear q;go_enter func103,ntmps103
   go_wp2_with(first
    |(go_at_call 96;refine(r.o _).mono ?_;rintro e c ⟨rfl,rfl⟩)
    |(go_at_call 138;refine(x.o _).mono ?_;rintro e c ⟨rfl,rfl⟩)
    |(go_at_call 139;refine(y.o _).mono ?_;rintro e I ⟨u,rfl,j,g⟩;obtain⟨A,H,rfl⟩:=j.form;have a:=a.below g;have b:=Bt b g)
    |(go_at_call 112;refine(IF _ _ _ _ j).mono ?_;rintro e K ⟨v,rfl,k,i⟩;have a:=a.below i;have b:=Bt b i;rw[<-z.o]at k;obtain⟨f,l,c3,rfl,p⟩:=k;obtain⟨q0,q1⟩:=a.cp;obtain⟨f0,f1⟩:=a.fp))
   obtain⟨o,n⟩:=Yk (E (decide (Yz (Je s)<0))) (C f l c3) b (Aa _) a J J p;exact BE (by simp[results,results103,go_sem,q0,q1]) J (Xh.yes t.o ⟨f,l,c3,J,o⟩ n)
 . have M:=q J;clear q;go_enter func103,ntmps103
   go_wp2_with(first
    |(go_at_call 96;refine(r.o _).mono ?_;rintro e c ⟨rfl,rfl⟩)
    |(go_at_call 138;refine(x.o _).mono ?_;rintro e c ⟨rfl,rfl⟩)
    |(go_at_call 139;refine(y.o _).mono ?_;rintro e I ⟨u,rfl,j,g⟩;obtain⟨A,H,rfl⟩:=j.form;have a:=a.below g;have b:=Bt b g)
    |(go_at_call 112;refine(IF _ _ _ _ j).mono ?_;rintro e K ⟨v,rfl,k,i⟩;have a:=a.below i;have b:=Bt b i;rw[<-z.o]at k;obtain⟨f,l,c3,rfl,p⟩:=k;obtain⟨q0,q1⟩:=a.cp;obtain⟨f0,f1⟩:=a.fp))
   obtain⟨o,n⟩:=Yk (E (decide (Yz (Je s)<0))) (C f l c3) b (Aa _) a J J p;exact BE (by simp[results,results103,go_sem,q0,q1]) J (Xh.yes t.o ⟨f,l,c3,J,o⟩ n)
theorem Q9(s:ByteArray)(hs:s.size<=140737488351232)(w:F):G B 103 #[D s] w (Xh (Je s) w):=by
 by_cases g:2000<s.size
 . exact Q5 s g hs w
 have a:s.size<=2000:=O
 cases b:EM (JH (Je s))
 . exact Q6 s a b w
 by_cases c:(Je s).head?=some 45/\JH (Je s)=[48]
 . exact Q7 s a b c.1 c.2 w
 have hg:good (Je s)=true:=by
  grind[Kq,JD]
 have e:(JH (Je s)).all DS=true:=by
  grind[EM]
 have d:Je (⟨(JH (Je s)).toArray⟩:ByteArray)=JH (Je s):=rfl;have f:(⟨(JH (Je s)).toArray⟩:ByteArray).size<=2000:=by
  grind[JD,JH]
 refine Q8 s ⟨(JH (Je s)).toArray⟩ (decide ((Je s).head?=some 45)) a hg (λV=>GZ s V) (λV=>?_) (λV=>?_) (λh=>?_) ?_ w
 . have:=KT ⟨(JH (Je s)).toArray⟩ O V;rw[d,b]at this;exact this
 . exact Q4 ⟨(JH (Je s)).toArray⟩ (by rw[d];exact e) f V
 . grind[Lib.toList_data]
 . show Yz (Je s)=_;grind[Yz,GY]
def row_one(W:F)(v:Nat):Row .u64 (W.alloc (.cells #[.int .u64 (v:Nat)] 163)) (C (some ⟨W.heap.size,0,none⟩) 1 1) [v]:=by
 refine⟨_,1,J,DJ,O,DJ,Ar ⟨W.heap.size,0,J,⟨_,_,BG W _⟩,λj a=>?_⟩⟩
 have:j=0:=by simp at a;omega
 subst this;exact(BK W 163 (.int .u64 (v:Nat))).cell
theorem RA(a:n≠0)(h:n<Y):Jb Y n=[n]:=by
 grind[Y4,Ce,AV,Jw]
def RB(h:n<Y):Jr [n]=Jb Y n:=by
 have:=JP Jc (ds:=[n]) (DK.cons h (DK.nil _));rw[<-this];simp[val]
def RC(a:Nat)(A:a<=9223372036854775807)(w:F):G B 110 #[.int .i64 (a:Int)] w λe o=>∃u,e=.returned u/\Jh o u a/\Bl w o:=by
 have hg:¬((a:Int)<0):=O
 have z:WE.wrap (a:Int)=(a:Int):=by rw[IntKind.wrap_u64];omega
 have q:=hidR (RB (n:=a) uo);have b:=(Ji.new w 36 (E false) (C none 0 0)).alloc (.cells #[.int .u64 (a:Nat)] 163);have c:Bl w ((w.alloc (.cells #[E false,C none 0 0] 36)).alloc (.cells #[.int .u64 (a:Nat)] 163)):=(Ba _ _).alloc DJ _;have i:=row_one (w.alloc (.cells #[E false,C none 0 0] 36)) a;rw[A1]at i;have j:(a:Int)=GY false a:=rfl;have p:=hidR j;clear j;go_enter func110,ntmps110
 go_wp2_with(first
  |(go_at_call 132;refine(Yq _ _ _ i).mono ?_;rintro e H ⟨u,rfl,f,k⟩;rw[q.o]at f;obtain⟨x,y,rfl⟩:=UN.form f;have b:=b.below k;have c:=Bt c k)
  |(go_at_call 112;refine(IF _ _ _ _ f).mono ?_;rintro e I ⟨v,rfl,m,l⟩;have b:=b.below l;have c:=Bt c l;rw[<-p.o]at m;obtain⟨d,g,c3,rfl,t⟩:=m;obtain⟨q0,q1⟩:=b.cp;obtain⟨f0,f1⟩:=b.fp))
 obtain⟨s,r⟩:=Yk (E (decide ((a:Int)<0))) (C d g c3) c (Aa _) b J J t;exact BE (v:=.agg #[E (decide ((a:Int)<0)),C d g c3]) (by simp[results,results110,go_sem,q0,q1]) J ⟨_,J,⟨d,g,c3,J,s⟩,r⟩
def RD(a:Nat)(t:1<=a)(x:a<=9223372036854775808)(w:F):G B 110 #[.int .i64 (-(a:Int))] w λe l=>∃u,e=.returned u/\Jh l u (-(a:Int))/\Bl w l:=by
 have hg:-(a:Int)<0:=O
 have s:WE.wrap (-(WE.wrap (-(a:Int))))=(a:Int):=by simp only[IntKind.wrap_u64];omega
 have o:=hidR (RA (n:=a) O uo);have b:=(Ji.new w 36 (E false) (C none 0 0)).alloc (.cells #[.int .u64 (a:Nat)] 163);have d:Bl w ((w.alloc (.cells #[E false,C none 0 0] 36)).alloc (.cells #[.int .u64 (a:Nat)] 163)):=(Ba _ _).alloc DJ _;have c:=row_one (w.alloc (.cells #[E false,C none 0 0] 36)) a;rw[A1,<-o.o]at c;have c:UN ((w.alloc (.cells #[E false,C none 0 0] 36)).alloc (.cells #[.int .u64 (a:Nat)] 163)) (C (some ⟨w.heap.size+1,0,none⟩) 1 1) a:=c;have i:-(a:Int)=GY true a:=rfl;have m:=hidR i;clear i;go_enter func110,ntmps110
 go_wp2_with(first
  |(go_at_call 112;refine(IF _ _ _ _ c).mono ?_;rintro e y ⟨v,rfl,k,j⟩;have b:=b.below j;have d:=Bt d j;rw[<-m.o]at k;obtain⟨f,g,c3,rfl,r⟩:=k;obtain⟨q0,q1⟩:=b.cp;obtain⟨f0,f1⟩:=b.fp))
 obtain⟨q,p⟩:=Yk (E true) (C f g c3) d (Aa _) b J J r;exact BE (v:=.agg #[E true,C f g c3]) (by simp[results,results110,go_sem,q0,q1]) J ⟨_,J,⟨f,g,c3,by rw[show decide (-(a:Int)<0)=true from decide_eq_true hg],q⟩,p⟩
def IG(n:Int)(b:-9223372036854775808<=n)(c:n<=9223372036854775807)(w:F):G B 110 #[.int .i64 n] w λe a=>∃u,e=.returned u/\Jh a u n/\Bl w a:=by
 by_cases h:n<0
 . have e:n=-(n.natAbs:Int):=O
   rw[e];exact RD n.natAbs O O w
 . have e:n=(n.natAbs:Int):=O
   rw[e];exact RC n.natAbs O w

