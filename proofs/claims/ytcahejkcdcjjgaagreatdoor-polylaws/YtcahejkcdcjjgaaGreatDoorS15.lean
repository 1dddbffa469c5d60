import Derived.Test.YtcahejkcdcjjgaaGreatDoorS10
import Derived.Test.YtcahejkcdcjjgaaGreatDoorS09
import Derived.Test.YtcahejkcdcjjgaaGreatDoorS04
set_option linter.all false
open Go.Proofs.Tryz renaming prog->B
open Go.Value renaming slice->C,string->D,bool->E
open Go renaming World->F,Calls->G
set_option maxRecDepth 99999
set_option maxHeartbeats 0
namespace Go.Proofs.YtcahejkcdcjjgaaGreatDoor
open Go.IntKind renaming u64->WV
open List renaming replicate->WT
open Proofs.Tryz
section
open Go.RowKit Go.Shelf Go.Deep
variable{s:ByteArray}{q:U}{l:List UInt8}{c n:Nat}
def hidR{p:Prop}(h:p):Hid p:=h
theorem RS(l:List UInt8)(a:Nat)(h:l.all DZ=true)(d:num l+10^l.length*a<18446744073709551616):Lib.parseUintM (2^64-1) a l=.ok (num l+10^l.length*a):=by
 induction l generalizing a with
 |nil=>simp[Lib.parseUintM,num,Do,val]
 |cons c l j=>
  have f:=AA.1 h c (Cn ..);have hl:l.all DZ=true:=De
  have i:=Yj f;have e:num (c::l)=num l+10^l.length*(c.toNat-48):=by
   have:=Xc [c] l;rw[List.singleton_append]at this;rw[this];congr 2
  have b:num (c::l)+10^(c::l).length*a=num l+10^l.length*(a*10+(c.toNat-48)):=by
   grind
  rw[b]at d ⊢;have hp:1<=10^l.length:=Nat.one_le_pow _ _ Z;have g:a*10+(c.toNat-48)<=10^l.length*(a*10+(c.toNat-48)):=Cc _ Z;grind[Lib.parseUintM]
def LI(h:l.all DZ=true):num l<10^l.length:=by
 have:=JY (IZ h);rwa[XF]at this
theorem RT(h:l.all DZ=true)(b:l≠[])(a:l.length<=19):Lib.parseUintB 64 l=.ok (num l):=by
 have c:=LI h;have d:(10:Nat)^l.length<=10^19:=Am Z a;grind[Lib.parseUintB,RS]
def bytesWorld_below(w:F)(e:TypeId)(s:ByteArray):Bl w (Lib.bytesWorld w e s):=by
 unfold Lib.bytesWorld;refine⟨J,J,J,?_,λk a=>?_⟩
 . simp[World.freeze]
 . show(Array.modify _ _ _)[k]?=_;rw[Array.getElem?_modify,Bk (show ¬w.heap.size=k by omega)];exact B7 w.drew _ k a
def LJ:Jd (s.extract 0 n)=(Jd s).take n:=by
 unfold Jd;rw[Lib.extract_data];simp
theorem NL:Jd (s.extract n s.size)=(Jd s).drop n:=by
 grind[Jd,Lib.extract_data,Ju]
def RU(s:ByteArray)(h:(Jd s).all DZ=true)(b:0<s.size)(c:s.size<=19)(w:F):
 G B 171 #[D s,.int .i64 10,.int .i64 64] w λe a=>e=.returned (.tuple #[.int .u64 (num (Jd s):Nat),.nilIface])/\Bl w a:=by
 have hl:=Ju s;refine(Tryz.strconv_ParseUint_10_at64_ok s Z _ (RT (l:=Jd s) h (by intro e;rw[e]at hl;simp at hl;omega) Z) w).mono ?_;rintro e a ⟨rfl,rfl|rfl⟩
 . exact⟨J,BL _ _⟩
 . exact⟨J,bytesWorld_below _ _ _⟩
def RV:Value->Nat|D s=>s.size|_=>0
def RW(h:l.all DZ=true):(Jc O (num l)).length<=l.length:=by
 refine JL Jb (Ar (LI h) (CM ?_ _));unfold O;omega
def RX{a:ByteArray}{b:List UInt8}(e:c=num (Jd (a.extract 0 n)))(g:n=(a.size-1)%19+1)(i:n<=a.size)(d:b=[]\/a.size%19=0)(f:0<a.size):c+num b*10000000000000000000=num (b++Jd (a.extract 0 n)):=by
 have hl:(Jd (a.extract 0 n)).length=n:=by rw[Ju,Ca];omega
 rw[Xc,hl,<-e];rcases d with rfl|d
 . simp[num,Do,val]
 . have:n=19:=Z
   rw[this,AK]
theorem RY{m l over:Nat}(n:c<O)(hl:l=(Jc O m).length)(h:YL (c::WT l 0) (Jc O m) 0 10000000000000000000 l over q):
 (c::WT l 0)[l]?.getD 0+over<O/\Jw (q++[(c::WT l 0)[l]?.getD 0+over])=Jc O (c+m*10000000000000000000):=by
 obtain⟨i,e,j,b⟩:=h;have f:=Jl Jb m;rw[AH]at b;have o:∀k,val O (WT k 0)=0:=by
  intro k;induction k with
  |zero=>rfl
  |succ k g=>rw[Co,JR,g];rfl
 have d:(Jc O m).take l=Jc O m:=Ad Z;rw[d,f]at b;have a:(c::WT l 0)[l]?.getD 0+over<O/\val O (q++[(c::WT l 0)[l]?.getD 0+over])=c+m*10000000000000000000:=by
  cases l with
  |zero=>
   grind[val]
  |succ l=>
   grind[J4,JR]
 refine⟨a.1,?_⟩;rw[<-JP Jb (e.append (DR.cons a.1 (DR.nil _))),a.2]
def RZ{r d:Nat}(h:r+d<O):WV.wrap ((r:Int)+d)=((r+d:Nat):Int):=by
 unfold O at h;rw[IntKind.wrap_u64];omega
theorem Ra{a:F}{nb l:Nat}(d:DU a nb (Da (c::WT l 0) 0 l q))(f:q.length=l):
 a.cell? ⟨nb,l,none⟩=some (.int .u64 ((c::WT l 0)[l]?.getD 0:Nat))/\a.frozen? ⟨nb,l,none⟩=false/\∀v,DU (a.setCell ⟨nb,l,none⟩ (.int .u64 (v:Nat))) nb (q++[v]):=by
 have b:Da (c::WT l 0) 0 l q=q++[(c::WT l 0)[l]?.getD 0]:=by
  grind[Da,Ay]
 have e:=d.cell (j:=l) (by rw[b];simp;omega);rw[b,List.getElem?_append_right Z,f,A3]at e;refine⟨e,d.frozen l,λv=>?_⟩;have:=d.set l v;rw[b,Cm _ _ Z,f,A3]at this;exact this
def Rb(s:ByteArray)(P:(Jd s).all DZ=true)(hs:s.size<=2000)(w:F):
 G B 139 #[D s] w λe w'=>∃u,e=.returned u/\UN w' u (num (Jd s))/\Bl w w':=by
 have HD:=hidR P;clear P;go_enter func139,ntmps139
 go_wp2;go_loopw [0,3] (λdv rv wr=>∃(b:ByteArray) (f:List UInt8) (a:WO) (l cap:Nat),dv=D b/\rv=C a l cap/\b.size<=2000/\l<=2000/\UN wr (C a l cap) (num f)/\Hid (Jd s=f++Jd b/\(f=[]\/b.size%19=0))/\Bl w wr) λdv _ _=>RV dv
 case atStart=>exact⟨s,[],none,0,0,J,J,hs,Z,by unfold UN;simp[num,Do,val,Jz];exact Row.nil _ _,⟨DQ,Az J⟩,BL _ _⟩
 case round=>
  obtain⟨b,f,a,l,cap,rfl,rfl,aq,hl,k,v,hB⟩:=hrel;by_cases h0:b.size=0
  . have Qb:=As (by rw[Ju];exact h0);have e:f=Jd s:=by rw[v.o.1,Qb,CH]
    have HE:=hidR e;have hz:b.size<=0:=Z
    clear e Qb h0;go_wp2;go_ret;exact⟨_,J,by rw[<-HE.o];exact k,hB⟩
  . have ae:0<b.size:=Z
    obtain⟨n,hn⟩:∃n,n=(b.size-1)%19+1:=⟨_,J⟩;have En:=hidR (show(((b.size:Int)-1)%19+1)=(n:Int)by omega);have Qw:n<=b.size:=Z
    have i:=hidR hn;clear hn;go_upto_region 4 with fail
    rw[En.o];have Q:(Jd (b.extract 0 n)).all DZ=true:=by
     have g:=HD.o;rw[v.o.1,CR,Cz]at g;rw[LJ,AA];intro c r;exact AA.1 g.2 c (List.mem_of_mem_take r)
    have A:(b.extract 0 n).size=n:=by rw[Ca];omega
    have W:num (Jd (b.extract 0 n))<10000000000000000000:=by
     have g:=LI Q;rw[Ju,A]at g;have L:(10:Nat)^n<=10^19:=Am Z (by have:=i.o;omega);omega
    have R:=hidR λV=>RU (b.extract 0 n) Q (by rw[A];have:=i.o;omega) (by rw[A];have:=i.o;omega) V;obtain⟨c,r⟩:∃c,c=num (Jd (b.extract 0 n)):=⟨_,J⟩;rw[<-r]at W R;have Uc:=hidR r;have Qr:=hidR W;clear Q A r W;have an:0<n:=by have:=i.o;omega
    have T:Hid (Jd s=(f++Jd (b.extract 0 n))++Jd (b.extract n b.size)/\(f++Jd (b.extract 0 n)=[]\/(b.extract n b.size).size%19=0)):=by
     refine⟨?_,AE ?_⟩
     . rw[CI,LJ,NL,AU];exact v.o.1
     . rw[Ca];have:=i.o;omega
    have Qu:Hid ((Jc O (num (f++Jd (b.extract 0 n)))).length<=2000):=by
     have g:=HD.o;rw[T.o.1,CR,Cz]at g;have L:=RW g.1;have h3:=congrArg List.length T.o.1;rw[AV,Ju]at h3;exact At L Z
    have Ua:=Il l Z;go_upto_region 7 with(first|(go_at_call 171;refine(R.o _).mono ?_;rintro e t ⟨rfl,N⟩))
    obtain⟨I,m⟩:=ex (t.alloc (.cells (cellsOf .u64 (WT (l+1) 0)).toArray 163));have H:DU I t.heap.size (WT (l+1) 0):=DU.made (by rw[<-m];exact BV t _);have x:=Bt hB N;have Qp:Bl w I:=by rw[<-m];exact x.alloc x.size _
    have Qq:UN I (C a l cap) (num f):=by rw[<-m];exact Row.below (Row.below k N) (Ba _ _)
    have X:=x.size;have Qo:Hid (∀p,a=some p->0<l->p.block≠t.heap.size):=by
     intro p ep S;obtain⟨_,_,_,_,ai⟩:=Jn k;obtain⟨b',ay,ea,am,_⟩:=ai 0 S;rw[ep]at ea;cases ea;have:=N.size;simp only;omega
    have Qn:=k.len;have Qy:=hidR Qn;rw[m];clear m Ua N x k Qn R hB;generalize t.heap.size=nb at *;have z0:=H.cell (j:=0) DQ;have z1:=H.frozen 0;go_upto_region 8 with fail
    obtain⟨K,o⟩:=ex (I.setCell ⟨nb,0,none⟩ (.int .u64 (c:Nat)));have U:DU K nb (c::WT l 0):=by rw[<-o];have:=H.set 0 c;simpa[List.replicate_succ]using this
    have Qs:Bl w K:=by rw[<-o];exact Qp.setCell X _
    have Ub:UN K (C a l cap) (num f):=by rw[<-o];exact Row.grown Qq (JA _ _ _ _) Qo.o
    rw[o];clear o H Qp Qq z0 z1;have S:=U.cell (j:=l) DQ;have ak:=U.frozen l;obtain⟨y,hy⟩:∃y,y=(c::WT l 0)[l]?.getD 0:=⟨_,J⟩;rw[<-hy]at S;have HY:=hidR hy;clear hy;have Qv:=hidR λV (hV:Bl K V)=>LH nb 0 l (l+1) (c::WT l 0) a cap (Jc O (num f)) 10000000000000000000 V (U.below hV) (DR.cons (by have:=Qr.o;unfold O;omega) λd P=>by rw[CJ P];unfold O;omega) DQ Z (Row.below Ub hV) (Jm Jb _) Qo.o uo;have i0:(0:Int)<=(l:Int):=Z
    have i1:(l:Int)<(l:Int)+1:=Z
    have i2:(l:Int)<=(l:Int)+1:=Z
    go_region_with (first
     |(go_at_call 172;refine(Qv.o _ ?_).mono ?_;exact(BL _ _).drew;rintro e w4 ⟨over,q,rfl,M,hA4,ad⟩;obtain⟨k1,k2,k3⟩:=Ra hA4 M.1;rw[<-HY.o]at k1;have z:=RY (by have:=Qr.o;unfold O;omega) Qy.o M;rw[<-HY.o]at z;have aj:WV.wrap ((y:Int)+over)=((y+over:Nat):Int):=RZ z.1;have Qt:=hidR z.2;have Qz:=hidR M.1;clear z M))
    all_goals go_wp2_with fail
    all_goals
     have Qx:DU (w4.setCell ⟨nb,l,none⟩ (.int .u64 ((y:Int)+over))) nb (q++[y+over]):=by
      have:=k3 (y+over);rwa[Int.natCast_add]at this
     have ap:=Qz.o;have Qc:=Qx.row 0 (l+1) (l+1) si Z Z Z;rw[AH,Ad si]at Qc;refine(Ye _ _ _ Qc).mono ?_;rintro e w6 ⟨u,rfl,hu,ah⟩;rw[Qt.o,RX Uc.o i.o Qw v.o.2 ae]at hu;have Ud:=((below_grown Qs.drew ad X).setCell X _).trans (ah.mono (by have g:=Qs.size;have L:=ad.size;simp[World.setCell]at L ⊢;omega));obtain⟨au,cu,eu⟩:=UN.form hu;subst eu;go_wp2;go_roundw
     case rel=>exact⟨b.extract n b.size,f++Jd (b.extract 0 n),au,_,cu,J,J,by rw[Ca];omega,Qu.o,hu,T.o,Ud⟩
     case measure=>
      show(b.extract n b.size).size<b.size;rw[Ca];omega
end
open Go.RowKit Go.Shelf
def Hb(b:Bool)(n:Nat):Int:=if b then -(n:Int)else n
variable{l:List UInt8}{n:Nat}{a w:F}
def Ip(b:Bool)(v:Value)(n:Nat)(w:F)(h:UN w v n):G B 112 #[E b,v] w λe a=>∃u,e=.returned u/\Ji a u (Hb b n)/\Bl w a:=GS b v n w h
def Fh:Value:=.tuple #[.agg #[E false,C none 0 0],E false]
theorem Hc(s:ByteArray)(w:F):G B 96 #[D s,D ⟨#[45]⟩] w λe a=>e=.returned (.tuple #[D ⟨(JI (Jd s)).toArray⟩,E (decide ((Jd s).head?=some 45))])/\a=w:=by
 refine(Tryz.strings_CutPrefix s ⟨#[45]⟩ w).mono ?_;rintro e a ⟨rfl,rfl⟩;have b:Lib.hasPrefix s.data.toList [45]=decide ((Jd s).head?=some 45):=by
  unfold Jd Lib.hasPrefix;cases s.data.toList with
  |nil=>rfl
  |cons c l=>
   grind
 refine⟨?_,J⟩;have d:Lib.trimPrefix s.data.toList [45]=JI (Jd s):=by
  grind[Lib.trimPrefix,JI,Jd,List.drop_one]
 grind
theorem LK(h:l.length<=2000):good l=(Ec (JI l) && !(decide (l.head?=some 45)&&decide (JI l=[48]))):=by
 rw[CQ];simp only[good,Ec,Cz,decide_eq_true_eq,Bool.or_eq_true,Cv,decide_eq_false_iff_not,List.isEmpty_eq_false_iff,Bool.and_eq_false_iff];grind[JI]
def Y0(l:List UInt8)(w:F)(e:Ending)(a:F):Prop:=
 (good l=true->∃u,e=.returned (.tuple #[u,E true])/\Ji a u (YE l))/\(good l=false->e=.returned Fh)/\Bl w a
def Y0.no(h:good l=false)(c:Bl w a):Y0 l w (.returned Fh) a:=
 ⟨λb=>(by rw[h]at b;cases b),λ_=>rfl,c⟩
def Y0.yes{u:Value}(h:good l=true)(d:Ji a u (YE l))(c:Bl w a):Y0 l w (.returned (.tuple #[u,E true])) a:=
 ⟨λ_=>⟨u,J,d⟩,λb=>(by rw[h]at b;cases b),c⟩
def Rc(s:ByteArray)(b:2000<s.size)(hs:s.size<=140737488351232)(w:F):G B 103 #[D s] w (Y0 (Jd s) w):=by
 have a:=hidR (show good (Jd s)=false by
  have:=Ju s;simp[good];omega)
 go_enter func103,ntmps103
 go_wp2_with(first
  |(go_at_call 96;refine(Hc _ _).mono ?_;rintro e c ⟨rfl,rfl⟩))
 exact BM (v:=Fh) (by simp[results,results103,go_sem,Fh]) J (Y0.no a.o (Ba _ _))
theorem Re(s:ByteArray)(l:s.size<=2000)(b:Ec (JI (Jd s))=false)(w:F):G B 103 #[D s] w (Y0 (Jd s) w):=by
 have k:=hidR (show good (Jd s)=false by rw[LK (by rw[Ju];exact l),b];rfl);obtain⟨d,c⟩:=ex ((⟨(JI (Jd s)).toArray⟩:ByteArray):ByteArray);obtain⟨o,g⟩:=ex (decide ((Jd s).head?=some 45));have a:=λV=>Hc s V;rw[c,g]at a;have i:Jd d=JI (Jd s):=by rw[<-c];rfl
 have n:d.size<=2000:=by
  grind[Ju,JI]
 have f:=hidR λV=>Kq d Z V;rw[i,b]at f;have j:=hidR a;clear a i b c g;go_enter func103,ntmps103
 go_wp2_with(first
  |(go_at_call 96;refine(j.o _).mono ?_;rintro e m ⟨rfl,rfl⟩)
  |(go_at_call 138;refine(f.o _).mono ?_;rintro e m ⟨rfl,rfl⟩))
 exact BM (v:=Fh) (by simp[results,results103,go_sem,Fh]) J (Y0.no k.o (Ba _ _))
theorem Rf(s:ByteArray)(k:s.size<=2000)(i:Ec (JI (Jd s))=true)(b:(Jd s).head?=some 45)(c:JI (Jd s)=[48])(w:F):G B 103 #[D s] w (Y0 (Jd s) w):=by
 have f:=hidR (show good (Jd s)=false by grind[LK,Ju]);have a:=λV=>Hc s V;rw[c,decide_eq_true b]at a;have g:=hidR λV=>Kq ⟨[48].toArray⟩ DV V;have d:=hidR a;clear a i b c;go_enter func103,ntmps103
 go_wp2_with(first
  |(go_at_call 96;refine(d.o _).mono ?_;rintro e j ⟨rfl,rfl⟩)
  |(go_at_call 138;refine(g.o _).mono ?_;rintro e j ⟨rfl,rfl⟩))
 exact BM (v:=Fh) (by simp[results,results103,go_sem,Fh]) J (Y0.no f.o (Ba _ _))
def Rg(s d:ByteArray)(m:Bool)(L:s.size<=2000)(t:Hid (good (Jd s)=true))(r:Hid (∀V,G B 96 #[D s,D ⟨#[45]⟩] V λe c=>e=.returned (.tuple #[D d,E m])/\c=V))
(x:Hid (∀V,G B 138 #[D d] V λe c=>e=.returned (E true)/\c=V))(y:Hid (∀V,G B 139 #[D d] V λe c=>∃u,e=.returned u/\UN c u (num (Jd d))/\Bl V c))
(q:m=true->(d.toList == [48])=false)(z:Hid (YE (Jd s)=Hb m (num (Jd d))))(w:F):G B 103 #[D s] w (Y0 (Jd s) w):=by
 have a:=Jo.new w 36 (E false) (C none 0 0);have b:Bl w (w.alloc (.cells #[E false,C none 0 0] 36)):=Ba _ _;cases m
 . clear q;go_enter func103,ntmps103
   go_wp2_with(first
    |(go_at_call 96;refine(r.o _).mono ?_;rintro e c ⟨rfl,rfl⟩)
    |(go_at_call 138;refine(x.o _).mono ?_;rintro e c ⟨rfl,rfl⟩)
    |(go_at_call 139;refine(y.o _).mono ?_;rintro e I ⟨u,rfl,j,g⟩;obtain⟨A,H,rfl⟩:=j.form;have a:=a.below g;have b:=Bt b g)
    |(go_at_call 112;refine(Ip _ _ _ _ j).mono ?_;rintro e K ⟨v,rfl,k,i⟩;have a:=a.below i;have b:=Bt b i;rw[<-z.o]at k;obtain⟨f,l,c3,rfl,p⟩:=k;obtain⟨q0,q1⟩:=a.cp;obtain⟨f0,f1⟩:=a.fp))
   obtain⟨o,n⟩:=XH (E (decide (YE (Jd s)<0))) (C f l c3) b (Aa _) a J J p;exact BM (by simp[results,results103,go_sem,q0,q1]) J (Y0.yes t.o ⟨f,l,c3,J,o⟩ n)
 . have M:=q J;clear q;go_enter func103,ntmps103
   go_wp2_with(first
    |(go_at_call 96;refine(r.o _).mono ?_;rintro e c ⟨rfl,rfl⟩)
    |(go_at_call 138;refine(x.o _).mono ?_;rintro e c ⟨rfl,rfl⟩)
    |(go_at_call 139;refine(y.o _).mono ?_;rintro e I ⟨u,rfl,j,g⟩;obtain⟨A,H,rfl⟩:=j.form;have a:=a.below g;have b:=Bt b g)
    |(go_at_call 112;refine(Ip _ _ _ _ j).mono ?_;rintro e K ⟨v,rfl,k,i⟩;have a:=a.below i;have b:=Bt b i;rw[<-z.o]at k;obtain⟨f,l,c3,rfl,p⟩:=k;obtain⟨q0,q1⟩:=a.cp;obtain⟨f0,f1⟩:=a.fp))
   obtain⟨o,n⟩:=XH (E (decide (YE (Jd s)<0))) (C f l c3) b (Aa _) a J J p;exact BM (by simp[results,results103,go_sem,q0,q1]) J (Y0.yes t.o ⟨f,l,c3,J,o⟩ n)
theorem Rh(s:ByteArray)(hs:s.size<=140737488351232)(w:F):G B 103 #[D s] w (Y0 (Jd s) w):=by
 by_cases g:2000<s.size
 . exact Rc s g hs w
 have a:s.size<=2000:=Z
 cases b:Ec (JI (Jd s))
 . exact Re s a b w
 by_cases c:(Jd s).head?=some 45/\JI (Jd s)=[48]
 . exact Rf s a b c.1 c.2 w
 have hg:good (Jd s)=true:=by
  grind[LK,Ju]
 have e:(JI (Jd s)).all DZ=true:=by
  grind[Ec]
 have d:Jd (⟨(JI (Jd s)).toArray⟩:ByteArray)=JI (Jd s):=rfl;have f:(⟨(JI (Jd s)).toArray⟩:ByteArray).size<=2000:=by
  grind[Ju,JI]
 refine Rg s ⟨(JI (Jd s)).toArray⟩ (decide ((Jd s).head?=some 45)) a hg (λV=>Hc s V) (λV=>?_) (λV=>?_) (λh=>?_) ?_ w
 . have:=Kq ⟨(JI (Jd s)).toArray⟩ Z V;rw[d,b]at this;exact this
 . exact Rb ⟨(JI (Jd s)).toArray⟩ (by rw[d];exact e) f V
 . grind[Lib.toList_data]
 . show YE (Jd s)=_;grind[YE,Hb]
def row_one(W:F)(v:Nat):Row .u64 (W.alloc (.cells #[.int .u64 (v:Nat)] 163)) (C (some ⟨W.heap.size,0,none⟩) 1 1) [v]:=by
 refine⟨_,1,J,DQ,Z,DQ,AE ⟨W.heap.size,0,J,⟨_,_,BV W _⟩,λj a=>?_⟩⟩
 have:j=0:=by simp at a;omega
 subst this;exact(Bb W 163 (.int .u64 (v:Nat))).cell
theorem Ri(a:n≠0)(h:n<O):Jc O n=[n]:=by
 grind[YQ,Cf,A6,Jz]
def Rj(h:n<O):Jw [n]=Jc O n:=by
 have:=JP Jb (ds:=[n]) (DR.cons h (DR.nil _));rw[<-this];simp[val]
def Rk(a:Nat)(A:a<=9223372036854775807)(w:F):G B 110 #[.int .i64 (a:Int)] w λe o=>∃u,e=.returned u/\Ji o u a/\Bl w o:=by
 have hg:¬((a:Int)<0):=Z
 have z:WV.wrap (a:Int)=(a:Int):=by rw[IntKind.wrap_u64];omega
 have q:=hidR (Rj (n:=a) uo);have b:=(Jo.new w 36 (E false) (C none 0 0)).alloc (.cells #[.int .u64 (a:Nat)] 163);have c:Bl w ((w.alloc (.cells #[E false,C none 0 0] 36)).alloc (.cells #[.int .u64 (a:Nat)] 163)):=(Ba _ _).alloc DQ _;have i:=row_one (w.alloc (.cells #[E false,C none 0 0] 36)) a;rw[A1]at i;have j:(a:Int)=Hb false a:=rfl;have p:=hidR j;clear j;go_enter func110,ntmps110
 go_wp2_with(first
  |(go_at_call 132;refine(Ye _ _ _ i).mono ?_;rintro e H ⟨u,rfl,f,k⟩;rw[q.o]at f;obtain⟨x,y,rfl⟩:=UN.form f;have b:=b.below k;have c:=Bt c k)
  |(go_at_call 112;refine(Ip _ _ _ _ f).mono ?_;rintro e I ⟨v,rfl,m,l⟩;have b:=b.below l;have c:=Bt c l;rw[<-p.o]at m;obtain⟨d,g,c3,rfl,t⟩:=m;obtain⟨q0,q1⟩:=b.cp;obtain⟨f0,f1⟩:=b.fp))
 obtain⟨s,r⟩:=XH (E (decide ((a:Int)<0))) (C d g c3) c (Aa _) b J J t;exact BM (v:=.agg #[E (decide ((a:Int)<0)),C d g c3]) (by simp[results,results110,go_sem,q0,q1]) J ⟨_,J,⟨d,g,c3,J,s⟩,r⟩
def Rl(a:Nat)(t:1<=a)(x:a<=9223372036854775808)(w:F):G B 110 #[.int .i64 (-(a:Int))] w λe l=>∃u,e=.returned u/\Ji l u (-(a:Int))/\Bl w l:=by
 have hg:-(a:Int)<0:=Z
 have s:WV.wrap (-(WV.wrap (-(a:Int))))=(a:Int):=by simp only[IntKind.wrap_u64];omega
 have o:=hidR (Ri (n:=a) Z uo);have b:=(Jo.new w 36 (E false) (C none 0 0)).alloc (.cells #[.int .u64 (a:Nat)] 163);have d:Bl w ((w.alloc (.cells #[E false,C none 0 0] 36)).alloc (.cells #[.int .u64 (a:Nat)] 163)):=(Ba _ _).alloc DQ _;have c:=row_one (w.alloc (.cells #[E false,C none 0 0] 36)) a;rw[A1,<-o.o]at c;have c:UN ((w.alloc (.cells #[E false,C none 0 0] 36)).alloc (.cells #[.int .u64 (a:Nat)] 163)) (C (some ⟨w.heap.size+1,0,none⟩) 1 1) a:=c;have i:-(a:Int)=Hb true a:=rfl;have m:=hidR i;clear i;go_enter func110,ntmps110
 go_wp2_with(first
  |(go_at_call 112;refine(Ip _ _ _ _ c).mono ?_;rintro e y ⟨v,rfl,k,j⟩;have b:=b.below j;have d:=Bt d j;rw[<-m.o]at k;obtain⟨f,g,c3,rfl,r⟩:=k;obtain⟨q0,q1⟩:=b.cp;obtain⟨f0,f1⟩:=b.fp))
 obtain⟨q,p⟩:=XH (E true) (C f g c3) d (Aa _) b J J r;exact BM (v:=.agg #[E true,C f g c3]) (by simp[results,results110,go_sem,q0,q1]) J ⟨_,J,⟨f,g,c3,by rw[show decide (-(a:Int)<0)=true from decide_eq_true hg],q⟩,p⟩
def Iq(n:Int)(b:-9223372036854775808<=n)(c:n<=9223372036854775807)(w:F):G B 110 #[.int .i64 n] w λe a=>∃u,e=.returned u/\Ji a u n/\Bl w a:=by
 by_cases h:n<0
 . have e:n=-(n.natAbs:Int):=Z
   rw[e];exact Rl n.natAbs Z Z w
 . have e:n=(n.natAbs:Int):=Z
   rw[e];exact Rk n.natAbs Z w

