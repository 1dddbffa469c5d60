import Derived.Test.YtcahodpphikgnaaGreatDoorU09
import Derived.Test.YtcahodpphikgnaaGreatDoorU08
import Derived.Test.YtcahodpphikgnaaGreatDoorU03
set_option linter.all false
open Go.Proofs.Tryz renaming prog->B
open Go.Value renaming slice->C,string->D,bool->E
open Go renaming World->F,Calls->G
set_option maxRecDepth 99999
set_option maxHeartbeats 0
namespace Go.Proofs.YtcahodpphikgnaaGreatDoor
open Go.IntKind renaming u64->MH
open List renaming replicate->MF
open Proofs.Tryz
section
open Go.RowKit Go.Shelf Go.Deep
variable{s:ByteArray}{q:Ja}{l:List UInt8}{c n:Nat}
def hidR{p:Prop}(h:p):Hid p:=h
theorem Ie(l:List UInt8)(a:Nat)(h:l.all B0=true)(d:num l+10^l.length*a<18446744073709551616):Lib.parseUintM (2^64-1) a l=.ok (num l+10^l.length*a):=by
 induction l generalizing a with
 |nil=>simp[Lib.parseUintM,num,CX,val]
 |cons c l j=>
  have f:=AW.1 h c (CC ..);have hl:l.all B0=true:=B5
  have i:=J1 f;have e:num (c::l)=num l+10^l.length*(c.toNat-48):=by
   have:=YO [c] l;rw[List.singleton_append]at this;rw[this];congr 2
  have b:num (c::l)+10^(c::l).length*a=num l+10^l.length*(a*10+(c.toNat-48)):=by
   grind
  rw[b]at d ⊢;have hp:1<=10^l.length:=Nat.one_le_pow _ _ Y;have g:a*10+(c.toNat-48)<=10^l.length*(a*10+(c.toNat-48)):=Cn _ Y;grind[Lib.parseUintM]
def Ed(h:l.all B0=true):num l<10^l.length:=by
 have:=JI (EM h);rwa[Xe]at this
theorem Ig(h:l.all B0=true)(b:l≠[])(a:l.length<=19):Lib.parseUintB 64 l=.ok (num l):=by
 have c:=Ed h;have d:(10:Nat)^l.length<=10^19:=Ak Y a;grind[Lib.parseUintB,Ie]
def bytesWorld_below(w:F)(e:TypeId)(s:ByteArray):Bl w (Lib.bytesWorld w e s):=by
 unfold Lib.bytesWorld;refine⟨J,J,J,?_,λk a=>?_⟩
 . simp[World.freeze]
 . show(Array.modify _ _ _)[k]?=_;rw[Array.getElem?_modify,Bd (show ¬w.heap.size=k by omega)];exact Below.heap_alloc w.drew _ k a
def Ee:Jk (s.extract 0 n)=(Jk s).take n:=by
 unfold Jk;rw[Lib.extract_data];simp
theorem Fp:Jk (s.extract n s.size)=(Jk s).drop n:=by
 grind[Jk,Lib.extract_data,Jq]
def Ih(s:ByteArray)(h:(Jk s).all B0=true)(b:0<s.size)(c:s.size<=19)(w:F):
 G B 96 #[D s,.int .i64 10,.int .i64 64] w λe a=>e=.returned (.tuple #[.int .u64 (num (Jk s):Nat),.nilIface])/\Bl w a:=by
 have hl:=Jq s;refine(Tryz.strconv_ParseUint_10_at64_ok s Y _ (Ig (l:=Jk s) h (by intro e;rw[e]at hl;simp at hl;omega) Y) w).mono ?_;rintro e a ⟨rfl,rfl|rfl⟩
 . exact⟨J,BC _ _⟩
 . exact⟨J,bytesWorld_below _ _ _⟩
def Ii:Value->Nat|D s=>s.size|_=>0
def Ij(h:l.all B0=true):(Jb O (num l)).length<=l.length:=by
 refine JD Jc (An (Ed h) (Cz ?_ _));unfold O;omega
def Ik{a:ByteArray}{b:List UInt8}(e:c=num (Jk (a.extract 0 n)))(g:n=(a.size-1)%19+1)(i:n<=a.size)(d:b=[]\/a.size%19=0)(f:0<a.size):c+num b*10000000000000000000=num (b++Jk (a.extract 0 n)):=by
 have hl:(Jk (a.extract 0 n)).length=n:=by rw[Jq,As];omega
 rw[YO,hl,<-e];rcases d with rfl|d
 . simp[num,CX,val]
 . have:n=19:=Y
   rw[this,Al]
theorem Il{m l over:Nat}(n:c<O)(hl:l=(Jb O m).length)(h:Yg (c::MF l 0) (Jb O m) 0 10000000000000000000 l over q):
 (c::MF l 0)[l]?.getD 0+over<O/\Ji (q++[(c::MF l 0)[l]?.getD 0+over])=Jb O (c+m*10000000000000000000):=by
 obtain⟨i,e,j,b⟩:=h;have f:=Je Jc m;rw[Ap]at b;have o:∀k,val O (MF k 0)=0:=by
  intro k;induction k with
  |zero=>rfl
  |succ k g=>rw[Ce,JC,g];rfl
 have d:(Jb O m).take l=Jb O m:=Ab Y;rw[d,f]at b;have a:(c::MF l 0)[l]?.getD 0+over<O/\val O (q++[(c::MF l 0)[l]?.getD 0+over])=c+m*10000000000000000000:=by
  cases l with
  |zero=>
   grind[val]
  |succ l=>
   grind[JN,JC]
 refine⟨a.1,?_⟩;rw[<-JA Jc (e.append (Br.cons a.1 (Br.nil _))),a.2]
def Im{r d:Nat}(h:r+d<O):MH.wrap ((r:Int)+d)=((r+d:Nat):Int):=by
 unfold O at h;rw[IntKind.wrap_u64];omega
theorem Io{a:F}{nb l:Nat}(d:Bs a nb (Bw (c::MF l 0) 0 l q))(f:q.length=l):
 a.cell? ⟨nb,l,none⟩=some (.int .u64 ((c::MF l 0)[l]?.getD 0:Nat))/\a.frozen? ⟨nb,l,none⟩=false/\∀v,Bs (a.setCell ⟨nb,l,none⟩ (.int .u64 (v:Nat))) nb (q++[v]):=by
 have b:Bw (c::MF l 0) 0 l q=q++[(c::MF l 0)[l]?.getD 0]:=by
  grind[Bw,Ay]
 have e:=d.cell (j:=l) (by rw[b];simp;omega);rw[b,List.getElem?_append_right Y,f,AU]at e;refine⟨e,d.frozen l,λv=>?_⟩;have:=d.set l v;rw[b,A6 _ _ Y,f,AU]at this;exact this
def Ip(s:ByteArray)(P:(Jk s).all B0=true)(hs:s.size<=2000)(w:F):
 G B 59 #[D s] w λe w'=>∃u,e=.returned u/\UN w' u (num (Jk s))/\Bl w w':=by
 have HD:=hidR P;clear P;go_enter func59,ntmps59
 go_wp2;go_loopw [0,3] (λdv rv wr=>∃(b:ByteArray) (f:List UInt8) (a:MD) (l cap:Nat),dv=D b/\rv=C a l cap/\b.size<=2000/\l<=2000/\UN wr (C a l cap) (num f)/\Hid (Jk s=f++Jk b/\(f=[]\/b.size%19=0))/\Bl w wr) λdv _ _=>Ii dv
 case atStart=>exact⟨s,[],none,0,0,J,J,hs,Y,by unfold UN;simp[num,CX,val,Jn];exact Row.nil _ _,⟨Bq,Aq J⟩,BC _ _⟩
 case round=>
  obtain⟨b,f,a,l,cap,rfl,rfl,am,hl,k,v,X⟩:=hrel;by_cases h0:b.size=0
  . have Qb:=Ad (by rw[Jq];exact h0);have e:f=Jk s:=by rw[v.o.1,Qb,CL]
    have HE:=hidR e;have hz:b.size<=0:=Y
    clear e Qb h0;go_wp2;go_ret;exact⟨_,J,by rw[<-HE.o];exact k,X⟩
  . have ad:0<b.size:=Y
    obtain⟨n,hn⟩:∃n,n=(b.size-1)%19+1:=⟨_,J⟩;have En:=hidR (show(((b.size:Int)-1)%19+1)=(n:Int)by omega);have Qw:n<=b.size:=Y
    have i:=hidR hn;clear hn;go_upto_region 4 with fail
    rw[En.o];have Q:(Jk (b.extract 0 n)).all B0=true:=by
     have g:=HD.o;rw[v.o.1,CK,AV]at g;rw[Ee,AW];intro c r;exact AW.1 g.2 c (List.mem_of_mem_take r)
    have A:(b.extract 0 n).size=n:=by rw[As];omega
    have U:num (Jk (b.extract 0 n))<10000000000000000000:=by
     have g:=Ed Q;rw[Jq,A]at g;have L:(10:Nat)^n<=10^19:=Ak Y (by have:=i.o;omega);omega
    have R:=hidR λV=>Ih (b.extract 0 n) Q (by rw[A];have:=i.o;omega) (by rw[A];have:=i.o;omega) V;obtain⟨c,r⟩:∃c,c=num (Jk (b.extract 0 n)):=⟨_,J⟩;rw[<-r]at U R;have Uc:=hidR r;have Qr:=hidR U;clear Q A r U;have aj:0<n:=by have:=i.o;omega
    have T:Hid (Jk s=(f++Jk (b.extract 0 n))++Jk (b.extract n b.size)/\(f++Jk (b.extract 0 n)=[]\/(b.extract n b.size).size%19=0)):=by
     refine⟨?_,AK ?_⟩
     . rw[CE,Ee,Fp,AA];exact v.o.1
     . rw[As];have:=i.o;omega
    have Qu:Hid ((Jb O (num (f++Jk (b.extract 0 n)))).length<=2000):=by
     have g:=HD.o;rw[T.o.1,CK,AV]at g;have L:=Ij g.1;have h3:=congrArg List.length T.o.1;rw[AM,Jq]at h3;exact A1 L Y
    have Ua:=XM l Y;go_upto_region 7 with(first|(go_at_call 96;refine(R.o _).mono ?_;rintro e t ⟨rfl,N⟩))
    obtain⟨I,m⟩:=ex (t.alloc (.cells (cellsOf .u64 (MF (l+1) 0)).toArray 94));have H:Bs I t.heap.size (MF (l+1) 0):=Bs.made (by rw[<-m];exact BD t _);have x:=Bt X N;have Qp:Bl w I:=by rw[<-m];exact x.alloc x.size _
    have Qq:UN I (C a l cap) (num f):=by rw[<-m];exact Row.below (Row.below k N) (Ba _ _)
    have W:=x.size;have Qn:Hid (∀p,a=some p->0<l->p.block≠t.heap.size):=by
     intro p ep S;obtain⟨_,_,_,_,ag⟩:=Jj k;obtain⟨b',an,ea,ai,_⟩:=ag 0 S;rw[ep]at ea;cases ea;have:=N.size;simp only;omega
    have Qm:=k.len;have Qy:=hidR Qm;rw[m];clear m Ua N x k Qm R X;generalize t.heap.size=nb at *;have z0:=H.cell (j:=0) Bq;have z1:=H.frozen 0;go_upto_region 8 with fail
    obtain⟨K,o⟩:=ex (I.setCell ⟨nb,0,none⟩ (.int .u64 (c:Nat)));have Qo:Bs K nb (c::MF l 0):=by rw[<-o];have:=H.set 0 c;simpa[List.replicate_succ]using this
    have Qs:Bl w K:=by rw[<-o];exact Qp.setCell W _
    have Ub:UN K (C a l cap) (num f):=by rw[<-o];exact Row.grown Qq (JB _ _ _ _) Qn.o
    rw[o];clear o H Qp Qq z0 z1;have S:=Qo.cell (j:=l) Bq;obtain⟨y,hy⟩:∃y,y=(c::MF l 0)[l]?.getD 0:=⟨_,J⟩;rw[<-hy]at S;have HY:=hidR hy;clear hy;have Qv:=hidR λV (hV:Bl K V)=>X3 nb 0 l (l+1) (c::MF l 0) a cap (Jb O (num f)) 10000000000000000000 V (Qo.below hV) (Br.cons (by have:=Qr.o;unfold O;omega) λd P=>by rw[Cx P];unfold O;omega) Bq Y (Row.below Ub hV) (Jf Jc _) Qn.o uo;have i0:(0:Int)<=(l:Int):=Y
    have i1:(l:Int)<(l:Int)+1:=Y
    have i2:(l:Int)<=(l:Int)+1:=Y
    go_region_with (first
     |(go_at_call 97;refine(Qv.o _ ?_).mono ?_;exact(BC _ _).drew;rintro e w4 ⟨over,q,rfl,M,hA4,aa⟩;obtain⟨k1,k2,k3⟩:=Io hA4 M.1;rw[<-HY.o]at k1;have z:=Il (by have:=Qr.o;unfold O;omega) Qy.o M;rw[<-HY.o]at z;have ah:MH.wrap ((y:Int)+over)=((y+over:Nat):Int):=Im z.1;have Qt:=hidR z.2;have Qz:=hidR M.1;clear z M))
    all_goals go_wp2_with fail
    all_goals
     have Qx:Bs (w4.setCell ⟨nb,l,none⟩ (.int .u64 ((y:Int)+over))) nb (q++[y+over]):=by
      have:=k3 (y+over);rwa[Int.natCast_add]at this
     have ak:=Qz.o;have Qc:=Qx.row 0 (l+1) (l+1) si Y Y Y;rw[Ap,Ab si]at Qc;refine(J0 _ _ _ Qc).mono ?_;rintro e w6 ⟨u,rfl,hu,ae⟩;rw[Qt.o,Ik Uc.o i.o Qw v.o.2 ad]at hu;have Ud:=((below_grown Qs.drew aa W).setCell W _).trans (ae.mono (by have g:=Qs.size;have L:=aa.size;simp[World.setCell]at L ⊢;omega));obtain⟨au,cu,eu⟩:=UN.form hu;subst eu;go_wp2;go_roundw
     case rel=>exact⟨b.extract n b.size,f++Jk (b.extract 0 n),au,_,cu,J,J,by rw[As];omega,Qu.o,hu,T.o,Ud⟩
     case measure=>
      show(b.extract n b.size).size<b.size;rw[As];omega
end
open Go.RowKit Go.Shelf
def Da(b:Bool)(n:Nat):Int:=if b then -(n:Int)else n
variable{l:List UInt8}{n:Nat}{a w:F}
def Dw(b:Bool)(v:Value)(n:Nat)(w:F)(h:UN w v n):G B 58 #[E b,v] w λe a=>∃u,e=.returned u/\Jg a u (Da b n)/\Bl w a:=Y7 b v n w h
def Xx:Value:=.tuple #[.agg #[E false,C none 0 0],E false]
theorem Dx(s:ByteArray)(w:F):G B 50 #[D s,D ⟨#[45]⟩] w λe a=>e=.returned (.tuple #[D ⟨(Jt (Jk s)).toArray⟩,E (decide ((Jk s).head?=some 45))])/\a=w:=by
 refine(Tryz.strings_CutPrefix s ⟨#[45]⟩ w).mono ?_;rintro e a ⟨rfl,rfl⟩;have b:Lib.hasPrefix s.data.toList [45]=decide ((Jk s).head?=some 45):=by
  unfold Jk Lib.hasPrefix;cases s.data.toList with
  |nil=>rfl
  |cons c l=>
   grind
 refine⟨?_,J⟩;have d:Lib.trimPrefix s.data.toList [45]=Jt (Jk s):=by
  grind[Lib.trimPrefix,Jt,Jk,List.drop_one]
 grind
theorem Ef(h:l.length<=2000):good l=(Y8 (Jt l) && !(decide (l.head?=some 45)&&decide (Jt l=[48]))):=by
 rw[Cf];simp only[good,Y8,AV,BU,Bool.or_eq_true,A5,BZ,List.isEmpty_eq_false_iff,Bool.and_eq_false_iff];grind[Jt]
def Yr(l:List UInt8)(w:F)(e:Ending)(a:F):Prop:=
 (good l=true->∃u,e=.returned (.tuple #[u,E true])/\Jg a u (JX l))/\(good l=false->e=.returned Xx)/\Bl w a
def Yr.no(h:good l=false)(c:Bl w a):Yr l w (.returned Xx) a:=
 ⟨λb=>(by rw[h]at b;cases b),λ_=>rfl,c⟩
def Yr.yes{u:Value}(h:good l=true)(d:Jg a u (JX l))(c:Bl w a):Yr l w (.returned (.tuple #[u,E true])) a:=
 ⟨λ_=>⟨u,J,d⟩,λb=>(by rw[h]at b;cases b),c⟩
def Iq(s:ByteArray)(b:2000<s.size)(hs:s.size<=140737488351232)(w:F):G B 21 #[D s] w (Yr (Jk s) w):=by
 have a:=hidR (show good (Jk s)=false by
  have:=Jq s;simp[good];omega)
 go_enter func21,ntmps21
 go_wp2_with(first
  |(go_at_call 50;refine(Dx _ _).mono ?_;rintro e c ⟨rfl,rfl⟩))
 exact BB (v:=Xx) (by simp[results,results21,go_sem,Xx]) J (Yr.no a.o (Ba _ _))
theorem Ir(s:ByteArray)(l:s.size<=2000)(b:Y8 (Jt (Jk s))=false)(w:F):G B 21 #[D s] w (Yr (Jk s) w):=by
 have k:=hidR (show good (Jk s)=false by rw[Ef (by rw[Jq];exact l),b];rfl);obtain⟨d,c⟩:=ex ((⟨(Jt (Jk s)).toArray⟩:ByteArray):ByteArray);obtain⟨o,g⟩:=ex (decide ((Jk s).head?=some 45));have a:=λV=>Dx s V;rw[c,g]at a;have i:Jk d=Jt (Jk s):=by rw[<-c];rfl
 have n:d.size<=2000:=by
  grind[Jq,Jt]
 have f:=hidR λV=>XZ d Y V;rw[i,b]at f;have j:=hidR a;clear a i b c g;go_enter func21,ntmps21
 go_wp2_with(first
  |(go_at_call 50;refine(j.o _).mono ?_;rintro e m ⟨rfl,rfl⟩)
  |(go_at_call 57;refine(f.o _).mono ?_;rintro e m ⟨rfl,rfl⟩))
 exact BB (v:=Xx) (by simp[results,results21,go_sem,Xx]) J (Yr.no k.o (Ba _ _))
theorem Is(s:ByteArray)(k:s.size<=2000)(i:Y8 (Jt (Jk s))=true)(b:(Jk s).head?=some 45)(c:Jt (Jk s)=[48])(w:F):G B 21 #[D s] w (Yr (Jk s) w):=by
 have f:=hidR (show good (Jk s)=false by grind[Ef,Jq]);have a:=λV=>Dx s V;rw[c,decide_eq_true b]at a;have g:=hidR λV=>XZ ⟨[48].toArray⟩ Bz V;have d:=hidR a;clear a i b c;go_enter func21,ntmps21
 go_wp2_with(first
  |(go_at_call 50;refine(d.o _).mono ?_;rintro e j ⟨rfl,rfl⟩)
  |(go_at_call 57;refine(g.o _).mono ?_;rintro e j ⟨rfl,rfl⟩))
 exact BB (v:=Xx) (by simp[results,results21,go_sem,Xx]) J (Yr.no f.o (Ba _ _))
def It(s d:ByteArray)(m:Bool)(L:s.size<=2000)(t:Hid (good (Jk s)=true))(r:Hid (∀V,G B 50 #[D s,D ⟨#[45]⟩] V λe c=>e=.returned (.tuple #[D d,E m])/\c=V))
(x:Hid (∀V,G B 57 #[D d] V λe c=>e=.returned (E true)/\c=V))(y:Hid (∀V,G B 59 #[D d] V λe c=>∃u,e=.returned u/\UN c u (num (Jk d))/\Bl V c))
(q:m=true->(d.toList == [48])=false)(z:Hid (JX (Jk s)=Da m (num (Jk d))))(w:F):G B 21 #[D s] w (Yr (Jk s) w):=by
 have a:=Jd.new w 25 (E false) (C none 0 0);have b:Bl w (w.alloc (.cells #[E false,C none 0 0] 25)):=Ba _ _;cases m
 . clear q;go_enter func21,ntmps21
   go_wp2_with(first
    |(go_at_call 50;refine(r.o _).mono ?_;rintro e c ⟨rfl,rfl⟩)
    |(go_at_call 57;refine(x.o _).mono ?_;rintro e c ⟨rfl,rfl⟩)
    |(go_at_call 59;refine(y.o _).mono ?_;rintro e I ⟨u,rfl,j,g⟩;obtain⟨A,H,rfl⟩:=j.form;have a:=a.below g;have b:=Bt b g)
    |(go_at_call 58;refine(Dw _ _ _ _ j).mono ?_;rintro e K ⟨v,rfl,k,i⟩;have a:=a.below i;have b:=Bt b i;rw[<-z.o]at k;obtain⟨f,l,c3,rfl,p⟩:=k;obtain⟨q0,q1⟩:=a.cp;obtain⟨f0,f1⟩:=a.fp))
   obtain⟨o,n⟩:=JE (E (decide (JX (Jk s)<0))) (C f l c3) b (Aa _) a J J p;exact BB (by simp[results,results21,go_sem,q0,q1]) J (Yr.yes t.o ⟨f,l,c3,J,o⟩ n)
 . have M:=q J;clear q;go_enter func21,ntmps21
   go_wp2_with(first
    |(go_at_call 50;refine(r.o _).mono ?_;rintro e c ⟨rfl,rfl⟩)
    |(go_at_call 57;refine(x.o _).mono ?_;rintro e c ⟨rfl,rfl⟩)
    |(go_at_call 59;refine(y.o _).mono ?_;rintro e I ⟨u,rfl,j,g⟩;obtain⟨A,H,rfl⟩:=j.form;have a:=a.below g;have b:=Bt b g)
    |(go_at_call 58;refine(Dw _ _ _ _ j).mono ?_;rintro e K ⟨v,rfl,k,i⟩;have a:=a.below i;have b:=Bt b i;rw[<-z.o]at k;obtain⟨f,l,c3,rfl,p⟩:=k;obtain⟨q0,q1⟩:=a.cp;obtain⟨f0,f1⟩:=a.fp))
   obtain⟨o,n⟩:=JE (E (decide (JX (Jk s)<0))) (C f l c3) b (Aa _) a J J p;exact BB (by simp[results,results21,go_sem,q0,q1]) J (Yr.yes t.o ⟨f,l,c3,J,o⟩ n)
theorem Iu(s:ByteArray)(hs:s.size<=140737488351232)(w:F):G B 21 #[D s] w (Yr (Jk s) w):=by
 by_cases g:2000<s.size
 . exact Iq s g hs w
 have a:s.size<=2000:=Y
 cases b:Y8 (Jt (Jk s))
 . exact Ir s a b w
 by_cases c:(Jk s).head?=some 45/\Jt (Jk s)=[48]
 . exact Is s a b c.1 c.2 w
 have i:good (Jk s)=true:=by
  grind[Ef,Jq]
 have e:(Jt (Jk s)).all B0=true:=by
  grind[Y8]
 have d:Jk (⟨(Jt (Jk s)).toArray⟩:ByteArray)=Jt (Jk s):=rfl;have f:(⟨(Jt (Jk s)).toArray⟩:ByteArray).size<=2000:=by
  grind[Jq,Jt]
 refine It s ⟨(Jt (Jk s)).toArray⟩ (decide ((Jk s).head?=some 45)) a i (λV=>Dx s V) (λV=>?_) (λV=>?_) (λh=>?_) ?_ w
 . have:=XZ ⟨(Jt (Jk s)).toArray⟩ Y V;rw[d,b]at this;exact this
 . exact Ip ⟨(Jt (Jk s)).toArray⟩ (by rw[d];exact e) f V
 . grind[Lib.toList_data]
 . show JX (Jk s)=_;grind[JX,Da]
def row_one(W:F)(v:Nat):Row .u64 (W.alloc (.cells #[.int .u64 (v:Nat)] 94)) (C (some ⟨W.heap.size,0,none⟩) 1 1) [v]:=by
 refine⟨_,1,J,Bq,Y,Bq,AK ⟨W.heap.size,0,J,⟨_,_,BD W _⟩,λj a=>?_⟩⟩
 have:j=0:=by simp at a;omega
 subst this;exact(BN W 94 (.int .u64 (v:Nat))).cell
theorem Iv(a:n≠0)(h:n<O):Jb O n=[n]:=by
 grind[Yj,AX,AC,Jn]
def Iw(h:n<O):Ji [n]=Jb O n:=by
 have:=JA Jc (ds:=[n]) (Br.cons h (Br.nil _));rw[<-this];simp[val]
def Ix(a:Nat)(A:a<=9223372036854775807)(w:F):G B 40 #[.int .i64 (a:Int)] w λe o=>∃u,e=.returned u/\Jg o u a/\Bl w o:=by
 have H:¬((a:Int)<0):=Y
 have z:MH.wrap (a:Int)=(a:Int):=by rw[IntKind.wrap_u64];omega
 have q:=hidR (Iw (n:=a) uo);have b:=(Jd.new w 25 (E false) (C none 0 0)).alloc (.cells #[.int .u64 (a:Nat)] 94);have c:Bl w ((w.alloc (.cells #[E false,C none 0 0] 25)).alloc (.cells #[.int .u64 (a:Nat)] 94)):=(Ba _ _).alloc Bq _;have i:=row_one (w.alloc (.cells #[E false,C none 0 0] 25)) a;rw[BA]at i;have j:(a:Int)=Da false a:=rfl;have p:=hidR j;clear j;go_enter func40,ntmps40
 go_wp2_with(first
  |(go_at_call 73;refine(J0 _ _ _ i).mono ?_;rintro e I ⟨u,rfl,f,k⟩;rw[q.o]at f;obtain⟨x,y,rfl⟩:=UN.form f;have b:=b.below k;have c:=Bt c k)
  |(go_at_call 58;refine(Dw _ _ _ _ f).mono ?_;rintro e K ⟨v,rfl,m,l⟩;have b:=b.below l;have c:=Bt c l;rw[<-p.o]at m;obtain⟨d,g,c3,rfl,t⟩:=m;obtain⟨q0,q1⟩:=b.cp;obtain⟨f0,f1⟩:=b.fp))
 obtain⟨s,r⟩:=JE (E (decide ((a:Int)<0))) (C d g c3) c (Aa _) b J J t;exact BB (v:=.agg #[E (decide ((a:Int)<0)),C d g c3]) (by simp[results,results40,go_sem,q0,q1]) J ⟨_,J,⟨d,g,c3,J,s⟩,r⟩
def Iy(a:Nat)(x:1<=a)(y:a<=9223372036854775808)(w:F):G B 40 #[.int .i64 (-(a:Int))] w λe l=>∃u,e=.returned u/\Jg l u (-(a:Int))/\Bl w l:=by
 have q:-(a:Int)<0:=Y
 have t:MH.wrap (-(MH.wrap (-(a:Int))))=(a:Int):=by simp only[IntKind.wrap_u64];omega
 have o:=hidR (Iv (n:=a) Y uo);have b:=(Jd.new w 25 (E false) (C none 0 0)).alloc (.cells #[.int .u64 (a:Nat)] 94);have d:Bl w ((w.alloc (.cells #[E false,C none 0 0] 25)).alloc (.cells #[.int .u64 (a:Nat)] 94)):=(Ba _ _).alloc Bq _;have c:=row_one (w.alloc (.cells #[E false,C none 0 0] 25)) a;rw[BA,<-o.o]at c;have c:UN ((w.alloc (.cells #[E false,C none 0 0] 25)).alloc (.cells #[.int .u64 (a:Nat)] 94)) (C (some ⟨w.heap.size+1,0,none⟩) 1 1) a:=c;have i:-(a:Int)=Da true a:=rfl;have m:=hidR i;clear i;go_enter func40,ntmps40
 go_wp2_with(first
  |(go_at_call 58;refine(Dw _ _ _ _ c).mono ?_;rintro e z ⟨v,rfl,k,j⟩;have b:=b.below j;have d:=Bt d j;rw[<-m.o]at k;obtain⟨f,g,c3,rfl,s⟩:=k;obtain⟨q0,q1⟩:=b.cp;obtain⟨f0,f1⟩:=b.fp))
 obtain⟨r,p⟩:=JE (E true) (C f g c3) d (Aa _) b J J s;exact BB (v:=.agg #[E true,C f g c3]) (by simp[results,results40,go_sem,q0,q1]) J ⟨_,J,⟨f,g,c3,by rw[show decide (-(a:Int)<0)=true from decide_eq_true q],r⟩,p⟩
def Fq(n:Int)(b:-9223372036854775808<=n)(c:n<=9223372036854775807)(w:F):G B 40 #[.int .i64 n] w λe a=>∃u,e=.returned u/\Jg a u n/\Bl w a:=by
 by_cases h:n<0
 . have e:n=-(n.natAbs:Int):=Y
   rw[e];exact Iy n.natAbs Y Y w
 . have e:n=(n.natAbs:Int):=Y
   rw[e];exact Ix n.natAbs Y w

