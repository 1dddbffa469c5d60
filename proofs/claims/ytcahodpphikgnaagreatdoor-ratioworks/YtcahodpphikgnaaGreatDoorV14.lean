import Derived.Test.YtcahodpphikgnaaGreatDoorV09
import Derived.Test.YtcahodpphikgnaaGreatDoorV08
import Derived.Test.YtcahodpphikgnaaGreatDoorV03
set_option linter.all false
open Go.Proofs.Tryz renaming prog->B
open Go.Value renaming slice->C,string->D,bool->E
open Go renaming World->F,Calls->G
set_option maxRecDepth 99999
set_option maxHeartbeats 0
namespace Go.Proofs.YtcahodpphikgnaaGreatDoor
open Go.IntKind renaming u64->OC
open List renaming replicate->OA
open Proofs.Tryz
section
open Go.RowKit Go.Shelf Go.Deep
variable{s:ByteArray}{q:Ja}{l:List UInt8}{c n:Nat}
def hidR{p:Prop}(h:p):Hid p:=h
theorem LL(l:List UInt8)(a:Nat)(h:l.all B6=true)(d:num l+10^l.length*a<18446744073709551616):Lib.parseUintM (2^64-1) a l=.ok (num l+10^l.length*a):=by
 induction l generalizing a with
 |nil=>simp[Lib.parseUintM,num,C5,val]
 |cons c l j=>
  have f:=AX.1 h c (CD ..);have hl:l.all B6=true:=B7
  have i:=J3 f;have e:num (c::l)=num l+10^l.length*(c.toNat-48):=by
   have:=YY [c] l;rw[List.singleton_append]at this;rw[this];congr 2
  have b:num (c::l)+10^(c::l).length*a=num l+10^l.length*(a*10+(c.toNat-48)):=by
   grind
  rw[b]at d ⊢;have hp:1<=10^l.length:=Nat.one_le_pow _ _ Y;have g:a*10+(c.toNat-48)<=10^l.length*(a*10+(c.toNat-48)):=Cp _ Y;grind[Lib.parseUintM]
def Fx(h:l.all B6=true):num l<10^l.length:=by
 have:=JL (FK h);rwa[Xr]at this
theorem LM(h:l.all B6=true)(b:l≠[])(a:l.length<=19):Lib.parseUintB 64 l=.ok (num l):=by
 have c:=Fx h;have d:(10:Nat)^l.length<=10^19:=Al Y a;grind[Lib.parseUintB,LL]
def bytesWorld_below(w:F)(e:TypeId)(s:ByteArray):Bl w (Lib.bytesWorld w e s):=by
 unfold Lib.bytesWorld;refine⟨J,J,J,?_,λk a=>?_⟩
 . simp[World.freeze]
 . show(Array.modify _ _ _)[k]?=_;rw[Array.getElem?_modify,BZ (show ¬w.heap.size=k by omega)];exact Below.heap_alloc w.drew _ k a
def Fy:Jh (s.extract 0 n)=(Jh s).take n:=by
 unfold Jh;rw[Lib.extract_data];simp
theorem Hh:Jh (s.extract n s.size)=(Jh s).drop n:=by
 grind[Jh,Lib.extract_data,Jt]
def LN(s:ByteArray)(h:(Jh s).all B6=true)(b:0<s.size)(c:s.size<=19)(w:F):
 G B 96 #[D s,.int .i64 10,.int .i64 64] w λe a=>e=.returned (.tuple #[.int .u64 (num (Jh s):Nat),.nilIface])/\Bl w a:=by
 have hl:=Jt s;refine(Tryz.strconv_ParseUint_10_at64_ok s Y _ (LM (l:=Jh s) h (by intro e;rw[e]at hl;simp at hl;omega) Y) w).mono ?_;rintro e a ⟨rfl,rfl|rfl⟩
 . exact⟨J,BC _ _⟩
 . exact⟨J,bytesWorld_below _ _ _⟩
def LO:Value->Nat|D s=>s.size|_=>0
def LP(h:l.all B6=true):(Jb O (num l)).length<=l.length:=by
 refine JG Jc (Ao (Fx h) (CA ?_ _));unfold O;omega
def LQ{a:ByteArray}{b:List UInt8}(e:c=num (Jh (a.extract 0 n)))(g:n=(a.size-1)%19+1)(i:n<=a.size)(d:b=[]\/a.size%19=0)(f:0<a.size):c+num b*10000000000000000000=num (b++Jh (a.extract 0 n)):=by
 have hl:(Jh (a.extract 0 n)).length=n:=by rw[Jt,Aj];omega
 rw[YY,hl,<-e];rcases d with rfl|d
 . simp[num,C5,val]
 . have:n=19:=Y
   rw[this,Am]
theorem LR{m l over:Nat}(n:c<O)(hl:l=(Jb O m).length)(h:Yo (c::OA l 0) (Jb O m) 0 10000000000000000000 l over q):
 (c::OA l 0)[l]?.getD 0+over<O/\Jl (q++[(c::OA l 0)[l]?.getD 0+over])=Jb O (c+m*10000000000000000000):=by
 obtain⟨i,e,j,b⟩:=h;have f:=Je Jc m;rw[Aq]at b;have o:∀k,val O (OA k 0)=0:=by
  intro k;induction k with
  |zero=>rfl
  |succ k g=>rw[Ch,JF,g];rfl
 have d:(Jb O m).take l=Jb O m:=Ab Y;rw[d,f]at b;have a:(c::OA l 0)[l]?.getD 0+over<O/\val O (q++[(c::OA l 0)[l]?.getD 0+over])=c+m*10000000000000000000:=by
  cases l with
  |zero=>
   grind[val]
  |succ l=>
   grind[JP,JF]
 refine⟨a.1,?_⟩;rw[<-JC Jc (e.append (Bs.cons a.1 (Bs.nil _))),a.2]
def LS{r d:Nat}(h:r+d<O):OC.wrap ((r:Int)+d)=((r+d:Nat):Int):=by
 unfold O at h;rw[IntKind.wrap_u64];omega
theorem LT{a:F}{nb l:Nat}(d:Bv a nb (B0 (c::OA l 0) 0 l q))(f:q.length=l):
 a.cell? ⟨nb,l,none⟩=some (.int .u64 ((c::OA l 0)[l]?.getD 0:Nat))/\a.frozen? ⟨nb,l,none⟩=false/\∀v,Bv (a.setCell ⟨nb,l,none⟩ (.int .u64 (v:Nat))) nb (q++[v]):=by
 have b:B0 (c::OA l 0) 0 l q=q++[(c::OA l 0)[l]?.getD 0]:=by
  grind[B0,Az]
 have e:=d.cell (j:=l) (by rw[b];simp;omega);rw[b,List.getElem?_append_right Y,f,AW]at e;refine⟨e,d.frozen l,λv=>?_⟩;have:=d.set l v;rw[b,A9 _ _ Y,f,AW]at this;exact this
def LU(s:ByteArray)(P:(Jh s).all B6=true)(hs:s.size<=2000)(w:F):
 G B 59 #[D s] w λe w'=>∃u,e=.returned u/\UN w' u (num (Jh s))/\Bl w w':=by
 have HD:=hidR P;clear P;go_enter func59,ntmps59
 go_wp2;go_loopw [0,3] (λdv rv wr=>∃(b:ByteArray) (f:List UInt8) (a:N8) (l cap:Nat),dv=D b/\rv=C a l cap/\b.size<=2000/\l<=2000/\UN wr (C a l cap) (num f)/\Hid (Jh s=f++Jh b/\(f=[]\/b.size%19=0))/\Bl w wr) λdv _ _=>LO dv
 case atStart=>exact⟨s,[],none,0,0,J,J,hs,Y,by unfold UN;simp[num,C5,val,Jq];exact Row.nil _ _,⟨Br,Ar J⟩,BC _ _⟩
 case round=>
  obtain⟨b,f,a,l,cap,rfl,rfl,an,hl,k,v,X⟩:=hrel;by_cases h0:b.size=0
  . have Qb:=Ad (by rw[Jt];exact h0);have e:f=Jh s:=by rw[v.o.1,Qb,CO]
    have HE:=hidR e;have hz:b.size<=0:=Y
    clear e Qb h0;go_wp2;go_ret;exact⟨_,J,by rw[<-HE.o];exact k,X⟩
  . have ad:0<b.size:=Y
    obtain⟨n,hn⟩:∃n,n=(b.size-1)%19+1:=⟨_,J⟩;have En:=hidR (show(((b.size:Int)-1)%19+1)=(n:Int)by omega);have Qw:n<=b.size:=Y
    have i:=hidR hn;clear hn;go_upto_region 4 with fail
    rw[En.o];have Q:(Jh (b.extract 0 n)).all B6=true:=by
     have g:=HD.o;rw[v.o.1,CN,AP]at g;rw[Fy,AX];intro c r;exact AX.1 g.2 c (List.mem_of_mem_take r)
    have A:(b.extract 0 n).size=n:=by rw[Aj];omega
    have U:num (Jh (b.extract 0 n))<10000000000000000000:=by
     have g:=Fx Q;rw[Jt,A]at g;have L:(10:Nat)^n<=10^19:=Al Y (by have:=i.o;omega);omega
    have R:=hidR λV=>LN (b.extract 0 n) Q (by rw[A];have:=i.o;omega) (by rw[A];have:=i.o;omega) V;obtain⟨c,r⟩:∃c,c=num (Jh (b.extract 0 n)):=⟨_,J⟩;rw[<-r]at U R;have Uc:=hidR r;have Qr:=hidR U;clear Q A r U;have ak:0<n:=by have:=i.o;omega
    have T:Hid (Jh s=(f++Jh (b.extract 0 n))++Jh (b.extract n b.size)/\(f++Jh (b.extract 0 n)=[]\/(b.extract n b.size).size%19=0)):=by
     refine⟨?_,AL ?_⟩
     . rw[CH,Fy,Hh,AC];exact v.o.1
     . rw[Aj];have:=i.o;omega
    have Qu:Hid ((Jb O (num (f++Jh (b.extract 0 n)))).length<=2000):=by
     have g:=HD.o;rw[T.o.1,CN,AP]at g;have L:=LP g.1;have h3:=congrArg List.length T.o.1;rw[AN,Jt]at h3;exact A2 L Y
    have Ua:=XW l Y;go_upto_region 7 with(first|(go_at_call 96;refine(R.o _).mono ?_;rintro e t ⟨rfl,N⟩))
    obtain⟨I,m⟩:=ex (t.alloc (.cells (cellsOf .u64 (OA (l+1) 0)).toArray 94));have H:Bv I t.heap.size (OA (l+1) 0):=Bv.made (by rw[<-m];exact BD t _);have x:=Bt X N;have Qp:Bl w I:=by rw[<-m];exact x.alloc x.size _
    have Qq:UN I (C a l cap) (num f):=by rw[<-m];exact Row.below (Row.below k N) (Ba _ _)
    have W:=x.size;have Qn:Hid (∀p,a=some p->0<l->p.block≠t.heap.size):=by
     intro p ep S;obtain⟨_,_,_,_,ah⟩:=Jm k;obtain⟨b',ap,ea,aj,_⟩:=ah 0 S;rw[ep]at ea;cases ea;have:=N.size;simp only;omega
    have Qm:=k.len;have Qy:=hidR Qm;rw[m];clear m Ua N x k Qm R X;generalize t.heap.size=nb at *;have z0:=H.cell (j:=0) Br;have z1:=H.frozen 0;go_upto_region 8 with fail
    obtain⟨K,o⟩:=ex (I.setCell ⟨nb,0,none⟩ (.int .u64 (c:Nat)));have Qo:Bv K nb (c::OA l 0):=by rw[<-o];have:=H.set 0 c;simpa[List.replicate_succ]using this
    have Qs:Bl w K:=by rw[<-o];exact Qp.setCell W _
    have Ub:UN K (C a l cap) (num f):=by rw[<-o];exact Row.grown Qq (JD _ _ _ _) Qn.o
    rw[o];clear o H Qp Qq z0 z1;have S:=Qo.cell (j:=l) Br;obtain⟨y,hy⟩:∃y,y=(c::OA l 0)[l]?.getD 0:=⟨_,J⟩;rw[<-hy]at S;have HY:=hidR hy;clear hy;have Qv:=hidR λV (hV:Bl K V)=>Fw nb 0 l (l+1) (c::OA l 0) a cap (Jb O (num f)) 10000000000000000000 V (Qo.below hV) (Bs.cons (by have:=Qr.o;unfold O;omega) λd P=>by rw[Cy P];unfold O;omega) Br Y (Row.below Ub hV) (Jf Jc _) Qn.o uo;have i0:(0:Int)<=(l:Int):=Y
    have i1:(l:Int)<(l:Int)+1:=Y
    have i2:(l:Int)<=(l:Int)+1:=Y
    go_region_with (first
     |(go_at_call 97;refine(Qv.o _ ?_).mono ?_;exact(BC _ _).drew;rintro e w4 ⟨over,q,rfl,M,hA4,aa⟩;obtain⟨k1,k2,k3⟩:=LT hA4 M.1;rw[<-HY.o]at k1;have z:=LR (by have:=Qr.o;unfold O;omega) Qy.o M;rw[<-HY.o]at z;have ai:OC.wrap ((y:Int)+over)=((y+over:Nat):Int):=LS z.1;have Qt:=hidR z.2;have Qz:=hidR M.1;clear z M))
    all_goals go_wp2_with fail
    all_goals
     have Qx:Bv (w4.setCell ⟨nb,l,none⟩ (.int .u64 ((y:Int)+over))) nb (q++[y+over]):=by
      have:=k3 (y+over);rwa[Int.natCast_add]at this
     have am:=Qz.o;have Qc:=Qx.row 0 (l+1) (l+1) si Y Y Y;rw[Aq,Ab si]at Qc;refine(J2 _ _ _ Qc).mono ?_;rintro e w6 ⟨u,rfl,hu,ae⟩;rw[Qt.o,LQ Uc.o i.o Qw v.o.2 ad]at hu;have Ud:=((below_grown Qs.drew aa W).setCell W _).trans (ae.mono (by have g:=Qs.size;have L:=aa.size;simp[World.setCell]at L ⊢;omega));obtain⟨au,cu,eu⟩:=UN.form hu;subst eu;go_wp2;go_roundw
     case rel=>exact⟨b.extract n b.size,f++Jh (b.extract 0 n),au,_,cu,J,J,by rw[Aj];omega,Qu.o,hu,T.o,Ud⟩
     case measure=>
      show(b.extract n b.size).size<b.size;rw[Aj];omega
end
open Go.RowKit Go.Shelf
def EK(b:Bool)(n:Nat):Int:=if b then -(n:Int)else n
variable{l:List UInt8}{n:Nat}{a w:F}
def Em(b:Bool)(v:Value)(n:Nat)(w:F)(h:UN w v n):G B 58 #[E b,v] w λe a=>∃u,e=.returned u/\Jg a u (EK b n)/\Bl w a:=Xi b v n w h
def XL:Value:=.tuple #[.agg #[E false,C none 0 0],E false]
theorem Eo(s:ByteArray)(w:F):G B 50 #[D s,D ⟨#[45]⟩] w λe a=>e=.returned (.tuple #[D ⟨(Jy (Jh s)).toArray⟩,E (decide ((Jh s).head?=some 45))])/\a=w:=by
 refine(Tryz.strings_CutPrefix s ⟨#[45]⟩ w).mono ?_;rintro e a ⟨rfl,rfl⟩;have b:Lib.hasPrefix s.data.toList [45]=decide ((Jh s).head?=some 45):=by
  unfold Jh Lib.hasPrefix;cases s.data.toList with
  |nil=>rfl
  |cons c l=>
   grind
 refine⟨?_,J⟩;have d:Lib.trimPrefix s.data.toList [45]=Jy (Jh s):=by
  grind[Lib.trimPrefix,Jy,Jh,List.drop_one]
 grind
theorem Fz(h:l.length<=2000):good l=(Xj (Jy l) && !(decide (l.head?=some 45)&&decide (Jy l=[48]))):=by
 rw[Cb];simp only[good,Xj,AP,BS,Bool.or_eq_true,A7,Bc,List.isEmpty_eq_false_iff,Bool.and_eq_false_iff];grind[Jy]
def YB(l:List UInt8)(w:F)(e:Ending)(a:F):Prop:=
 (good l=true->∃u,e=.returned (.tuple #[u,E true])/\Jg a u (JW l))/\(good l=false->e=.returned XL)/\Bl w a
def YB.no(h:good l=false)(c:Bl w a):YB l w (.returned XL) a:=
 ⟨λb=>(by rw[h]at b;cases b),λ_=>rfl,c⟩
def YB.yes{u:Value}(h:good l=true)(d:Jg a u (JW l))(c:Bl w a):YB l w (.returned (.tuple #[u,E true])) a:=
 ⟨λ_=>⟨u,J,d⟩,λb=>(by rw[h]at b;cases b),c⟩
def LV(s:ByteArray)(b:2000<s.size)(hs:s.size<=140737488351232)(w:F):G B 21 #[D s] w (YB (Jh s) w):=by
 have a:=hidR (show good (Jh s)=false by
  have:=Jt s;simp[good];omega)
 go_enter func21,ntmps21
 go_wp2_with(first
  |(go_at_call 50;refine(Eo _ _).mono ?_;rintro e c ⟨rfl,rfl⟩))
 exact BB (v:=XL) (by simp[results,results21,go_sem,XL]) J (YB.no a.o (Ba _ _))
theorem LW(s:ByteArray)(l:s.size<=2000)(b:Xj (Jy (Jh s))=false)(w:F):G B 21 #[D s] w (YB (Jh s) w):=by
 have k:=hidR (show good (Jh s)=false by rw[Fz (by rw[Jt];exact l),b];rfl);obtain⟨d,c⟩:=ex ((⟨(Jy (Jh s)).toArray⟩:ByteArray):ByteArray);obtain⟨o,g⟩:=ex (decide ((Jh s).head?=some 45));have a:=λV=>Eo s V;rw[c,g]at a;have i:Jh d=Jy (Jh s):=by rw[<-c];rfl
 have n:d.size<=2000:=by
  grind[Jt,Jy]
 have f:=hidR λV=>FT d Y V;rw[i,b]at f;have j:=hidR a;clear a i b c g;go_enter func21,ntmps21
 go_wp2_with(first
  |(go_at_call 50;refine(j.o _).mono ?_;rintro e m ⟨rfl,rfl⟩)
  |(go_at_call 57;refine(f.o _).mono ?_;rintro e m ⟨rfl,rfl⟩))
 exact BB (v:=XL) (by simp[results,results21,go_sem,XL]) J (YB.no k.o (Ba _ _))
theorem LX(s:ByteArray)(k:s.size<=2000)(i:Xj (Jy (Jh s))=true)(b:(Jh s).head?=some 45)(c:Jy (Jh s)=[48])(w:F):G B 21 #[D s] w (YB (Jh s) w):=by
 have f:=hidR (show good (Jh s)=false by grind[Fz,Jt]);have a:=λV=>Eo s V;rw[c,decide_eq_true b]at a;have g:=hidR λV=>FT ⟨[48].toArray⟩ Bw V;have d:=hidR a;clear a i b c;go_enter func21,ntmps21
 go_wp2_with(first
  |(go_at_call 50;refine(d.o _).mono ?_;rintro e j ⟨rfl,rfl⟩)
  |(go_at_call 57;refine(g.o _).mono ?_;rintro e j ⟨rfl,rfl⟩))
 exact BB (v:=XL) (by simp[results,results21,go_sem,XL]) J (YB.no f.o (Ba _ _))
def LY(s d:ByteArray)(m:Bool)(L:s.size<=2000)(t:Hid (good (Jh s)=true))(r:Hid (∀V,G B 50 #[D s,D ⟨#[45]⟩] V λe c=>e=.returned (.tuple #[D d,E m])/\c=V))
(x:Hid (∀V,G B 57 #[D d] V λe c=>e=.returned (E true)/\c=V))(y:Hid (∀V,G B 59 #[D d] V λe c=>∃u,e=.returned u/\UN c u (num (Jh d))/\Bl V c))
(q:m=true->(d.toList == [48])=false)(z:Hid (JW (Jh s)=EK m (num (Jh d))))(w:F):G B 21 #[D s] w (YB (Jh s) w):=by
 have a:=Jd.new w 25 (E false) (C none 0 0);have b:Bl w (w.alloc (.cells #[E false,C none 0 0] 25)):=Ba _ _;cases m
 . clear q;go_enter func21,ntmps21
   go_wp2_with(first
    |(go_at_call 50;refine(r.o _).mono ?_;rintro e c ⟨rfl,rfl⟩)
    |(go_at_call 57;refine(x.o _).mono ?_;rintro e c ⟨rfl,rfl⟩)
    |(go_at_call 59;refine(y.o _).mono ?_;rintro e I ⟨u,rfl,j,g⟩;obtain⟨A,H,rfl⟩:=j.form;have a:=a.below g;have b:=Bt b g)
    |(go_at_call 58;refine(Em _ _ _ _ j).mono ?_;rintro e K ⟨v,rfl,k,i⟩;have a:=a.below i;have b:=Bt b i;rw[<-z.o]at k;obtain⟨f,l,c3,rfl,p⟩:=k;obtain⟨q0,q1⟩:=a.cp;obtain⟨f0,f1⟩:=a.fp))
   obtain⟨o,n⟩:=JH (E (decide (JW (Jh s)<0))) (C f l c3) b (Aa _) a J J p;exact BB (by simp[results,results21,go_sem,q0,q1]) J (YB.yes t.o ⟨f,l,c3,J,o⟩ n)
 . have M:=q J;clear q;go_enter func21,ntmps21
   go_wp2_with(first
    |(go_at_call 50;refine(r.o _).mono ?_;rintro e c ⟨rfl,rfl⟩)
    |(go_at_call 57;refine(x.o _).mono ?_;rintro e c ⟨rfl,rfl⟩)
    |(go_at_call 59;refine(y.o _).mono ?_;rintro e I ⟨u,rfl,j,g⟩;obtain⟨A,H,rfl⟩:=j.form;have a:=a.below g;have b:=Bt b g)
    |(go_at_call 58;refine(Em _ _ _ _ j).mono ?_;rintro e K ⟨v,rfl,k,i⟩;have a:=a.below i;have b:=Bt b i;rw[<-z.o]at k;obtain⟨f,l,c3,rfl,p⟩:=k;obtain⟨q0,q1⟩:=a.cp;obtain⟨f0,f1⟩:=a.fp))
   obtain⟨o,n⟩:=JH (E (decide (JW (Jh s)<0))) (C f l c3) b (Aa _) a J J p;exact BB (by simp[results,results21,go_sem,q0,q1]) J (YB.yes t.o ⟨f,l,c3,J,o⟩ n)
theorem LZ(s:ByteArray)(hs:s.size<=140737488351232)(w:F):G B 21 #[D s] w (YB (Jh s) w):=by
 by_cases g:2000<s.size
 . exact LV s g hs w
 have a:s.size<=2000:=Y
 cases b:Xj (Jy (Jh s))
 . exact LW s a b w
 by_cases c:(Jh s).head?=some 45/\Jy (Jh s)=[48]
 . exact LX s a b c.1 c.2 w
 have i:good (Jh s)=true:=by
  grind[Fz,Jt]
 have e:(Jy (Jh s)).all B6=true:=by
  grind[Xj]
 have d:Jh (⟨(Jy (Jh s)).toArray⟩:ByteArray)=Jy (Jh s):=rfl;have f:(⟨(Jy (Jh s)).toArray⟩:ByteArray).size<=2000:=by
  grind[Jt,Jy]
 refine LY s ⟨(Jy (Jh s)).toArray⟩ (decide ((Jh s).head?=some 45)) a i (λV=>Eo s V) (λV=>?_) (λV=>?_) (λh=>?_) ?_ w
 . have:=FT ⟨(Jy (Jh s)).toArray⟩ Y V;rw[d,b]at this;exact this
 . exact LU ⟨(Jy (Jh s)).toArray⟩ (by rw[d];exact e) f V
 . grind[Lib.toList_data]
 . show JW (Jh s)=_;grind[JW,EK]
def row_one(W:F)(v:Nat):Row .u64 (W.alloc (.cells #[.int .u64 (v:Nat)] 94)) (C (some ⟨W.heap.size,0,none⟩) 1 1) [v]:=by
 refine⟨_,1,J,Br,Y,Br,AL ⟨W.heap.size,0,J,⟨_,_,BD W _⟩,λj a=>?_⟩⟩
 have:j=0:=by simp at a;omega
 subst this;exact(BN W 94 (.int .u64 (v:Nat))).cell
theorem La(a:n≠0)(h:n<O):Jb O n=[n]:=by
 grind[Ys,AZ,AE,Jq]
def Lb(h:n<O):Jl [n]=Jb O n:=by
 have:=JC Jc (ds:=[n]) (Bs.cons h (Bs.nil _));rw[<-this];simp[val]
def Lc(a:Nat)(A:a<=9223372036854775807)(w:F):G B 40 #[.int .i64 (a:Int)] w λe o=>∃u,e=.returned u/\Jg o u a/\Bl w o:=by
 have H:¬((a:Int)<0):=Y
 have z:OC.wrap (a:Int)=(a:Int):=by rw[IntKind.wrap_u64];omega
 have q:=hidR (Lb (n:=a) uo);have b:=(Jd.new w 25 (E false) (C none 0 0)).alloc (.cells #[.int .u64 (a:Nat)] 94);have c:Bl w ((w.alloc (.cells #[E false,C none 0 0] 25)).alloc (.cells #[.int .u64 (a:Nat)] 94)):=(Ba _ _).alloc Br _;have i:=row_one (w.alloc (.cells #[E false,C none 0 0] 25)) a;rw[BA]at i;have j:(a:Int)=EK false a:=rfl;have p:=hidR j;clear j;go_enter func40,ntmps40
 go_wp2_with(first
  |(go_at_call 73;refine(J2 _ _ _ i).mono ?_;rintro e I ⟨u,rfl,f,k⟩;rw[q.o]at f;obtain⟨x,y,rfl⟩:=UN.form f;have b:=b.below k;have c:=Bt c k)
  |(go_at_call 58;refine(Em _ _ _ _ f).mono ?_;rintro e K ⟨v,rfl,m,l⟩;have b:=b.below l;have c:=Bt c l;rw[<-p.o]at m;obtain⟨d,g,c3,rfl,t⟩:=m;obtain⟨q0,q1⟩:=b.cp;obtain⟨f0,f1⟩:=b.fp))
 obtain⟨s,r⟩:=JH (E (decide ((a:Int)<0))) (C d g c3) c (Aa _) b J J t;exact BB (v:=.agg #[E (decide ((a:Int)<0)),C d g c3]) (by simp[results,results40,go_sem,q0,q1]) J ⟨_,J,⟨d,g,c3,J,s⟩,r⟩
def Ld(a:Nat)(x:1<=a)(y:a<=9223372036854775808)(w:F):G B 40 #[.int .i64 (-(a:Int))] w λe l=>∃u,e=.returned u/\Jg l u (-(a:Int))/\Bl w l:=by
 have q:-(a:Int)<0:=Y
 have t:OC.wrap (-(OC.wrap (-(a:Int))))=(a:Int):=by simp only[IntKind.wrap_u64];omega
 have o:=hidR (La (n:=a) Y uo);have b:=(Jd.new w 25 (E false) (C none 0 0)).alloc (.cells #[.int .u64 (a:Nat)] 94);have d:Bl w ((w.alloc (.cells #[E false,C none 0 0] 25)).alloc (.cells #[.int .u64 (a:Nat)] 94)):=(Ba _ _).alloc Br _;have c:=row_one (w.alloc (.cells #[E false,C none 0 0] 25)) a;rw[BA,<-o.o]at c;have c:UN ((w.alloc (.cells #[E false,C none 0 0] 25)).alloc (.cells #[.int .u64 (a:Nat)] 94)) (C (some ⟨w.heap.size+1,0,none⟩) 1 1) a:=c;have i:-(a:Int)=EK true a:=rfl;have m:=hidR i;clear i;go_enter func40,ntmps40
 go_wp2_with(first
  |(go_at_call 58;refine(Em _ _ _ _ c).mono ?_;rintro e z ⟨v,rfl,k,j⟩;have b:=b.below j;have d:=Bt d j;rw[<-m.o]at k;obtain⟨f,g,c3,rfl,s⟩:=k;obtain⟨q0,q1⟩:=b.cp;obtain⟨f0,f1⟩:=b.fp))
 obtain⟨r,p⟩:=JH (E true) (C f g c3) d (Aa _) b J J s;exact BB (v:=.agg #[E true,C f g c3]) (by simp[results,results40,go_sem,q0,q1]) J ⟨_,J,⟨f,g,c3,by rw[show decide (-(a:Int)<0)=true from decide_eq_true q],r⟩,p⟩
def Hi(n:Int)(b:-9223372036854775808<=n)(c:n<=9223372036854775807)(w:F):G B 40 #[.int .i64 n] w λe a=>∃u,e=.returned u/\Jg a u n/\Bl w a:=by
 by_cases h:n<0
 . have e:n=-(n.natAbs:Int):=Y
   rw[e];exact Ld n.natAbs Y Y w
 . have e:n=(n.natAbs:Int):=Y
   rw[e];exact Lc n.natAbs Y w

