import Derived.Test.YtakpoihdghihmaaGreatDoorU10
import Derived.Test.YtakpoihdghihmaaGreatDoorU09
import Derived.Deep.DeepCutAuto
import Derived.Test.YtakpoihdghihmaaGreatDoorU04
set_option linter.all false
open Go.Proofs.Tryz renaming prog->B
open Go.Value renaming slice->C,string->D,bool->E
open Go renaming World->F,Calls->G
set_option maxRecDepth 99999
set_option maxHeartbeats 0
namespace Go.Proofs.YtakpoihdghihmaaGreatDoor
open Go.IntKind renaming u64->nO
open List renaming replicate->nL
open Proofs.Tryz
section
open Go.RowKit Go.Shelf Go.Deep
variable{s:ByteArray}{q:m4}{l:List UInt8}{c n:Nat}
def hidR{p:Prop}(h:p):Hid p:=h
theorem Z2(l:List UInt8)(a:Nat)(h:l.all DU=true)(d:num l+10^l.length*a<18446744073709551616):Lib.parseUintM (2^64-1) a l=.ok (num l+10^l.length*a):=by
 induction l generalizing a with
 |nil=>simp[Lib.parseUintM,num,Du,val]
 |cons c l j=>
  have f:=AR.1 h c (CC ..);have hl:l.all DU=true:=DI
  have i:=Yo f;have e:num (c::l)=num l+10^l.length*(c.toNat-48):=by
   have:=MP [c] l;rw[List.singleton_append]at this;rw[this];congr 2
  have b:num (c::l)+10^(c::l).length*a=num l+10^l.length*(a*10+(c.toNat-48)):=by
   grind
  rw[b]at d ⊢;have hp:1<=10^l.length:=Nat.one_le_pow _ _ O;have g:a*10+(c.toNat-48)<=10^l.length*(a*10+(c.toNat-48)):=Co _ O;grind[Lib.parseUintM]
def Ot(h:l.all DU=true):num l<10^l.length:=by
 have:=Yw (LJ h);rwa[KW]at this
theorem Z3(h:l.all DU=true)(b:l≠[])(a:l.length<=19):Lib.parseUintB 64 l=.ok (num l):=by
 have c:=Ot h;have d:(10:Nat)^l.length<=10^19:=Ak O a;grind[Lib.parseUintB,Z2]
def bytesWorld_below(w:F)(e:TypeId)(s:ByteArray):Bl w (Lib.bytesWorld w e s):=by
 unfold Lib.bytesWorld;refine⟨J,J,J,?_,λk a=>?_⟩
 . simp[World.freeze]
 . show(Array.modify _ _ _)[k]?=_;rw[Array.getElem?_modify,BD (show ¬w.heap.size=k by omega)];exact Bh w.drew _ k a
def Ou:Je (s.extract 0 n)=(Je s).take n:=by
 unfold Je;rw[Lib.extract_data];simp
theorem R4:Je (s.extract n s.size)=(Je s).drop n:=by
 grind[Je,Lib.extract_data,JC]
def Z4(s:ByteArray)(h:(Je s).all DU=true)(b:0<s.size)(c:s.size<=19)(w:F):
 G B 166 #[D s,.int .i64 10,.int .i64 64] w λe a=>e=.returned (.tuple #[.int .u64 (num (Je s):Nat),.nilIface])/\Bl w a:=by
 have hl:=JC s;refine(Tryz.strconv_ParseUint_10_at64_ok s O _ (Z3 (l:=Je s) h (by intro e;rw[e]at hl;simp at hl;omega) O) w).mono ?_;rintro e a ⟨rfl,rfl|rfl⟩
 . exact⟨J,BA _ _⟩
 . exact⟨J,bytesWorld_below _ _ _⟩
def Z6:Value->Nat|D s=>s.size|_=>0
def Z7(h:l.all DU=true):(Jd Z (num l)).length<=l.length:=by
 refine YK Jg (Aw (Ot h) (CM ?_ _));unfold Z;omega
def Z8{a:ByteArray}{b:List UInt8}(e:c=num (Je (a.extract 0 n)))(g:n=(a.size-1)%19+1)(i:n<=a.size)(d:b=[]\/a.size%19=0)(f:0<a.size):c+num b*10000000000000000000=num (b++Je (a.extract 0 n)):=by
 have hl:(Je (a.extract 0 n)).length=n:=by rw[JC,AG];omega
 rw[MP,hl,<-e];rcases d with rfl|d
 . simp[num,Du,val]
 . have:n=19:=O
   rw[this,AD]
theorem Z9{m l over:Nat}(n:c<Z)(hl:l=(Jd Z m).length)(h:XZ (c::nL l 0) (Jd Z m) 0 10000000000000000000 l over q):
 (c::nL l 0)[l]?.getD 0+over<Z/\Jz (q++[(c::nL l 0)[l]?.getD 0+over])=Jd Z (c+m*10000000000000000000):=by
 obtain⟨i,e,j,b⟩:=h;have f:=Jq Jg m;rw[Ca]at b;have o:∀k,val Z (nL k 0)=0:=by
  intro k;induction k with
  |zero=>rfl
  |succ k g=>rw[Fj,Yi,g];rfl
 have d:(Jd Z m).take l=Jd Z m:=Ad O;rw[d,f]at b;have a:(c::nL l 0)[l]?.getD 0+over<Z/\val Z (q++[(c::nL l 0)[l]?.getD 0+over])=c+m*10000000000000000000:=by
  cases l with
  |zero=>
   grind[val]
  |succ l=>
   grind[YM,Yi]
 refine⟨a.1,?_⟩;rw[<-Yd Jg (e.append (DJ.cons a.1 (DJ.nil _))),a.2]
def aA{r d:Nat}(h:r+d<Z):nO.wrap ((r:Int)+d)=((r+d:Nat):Int):=by
 unfold Z at h;rw[IntKind.wrap_u64];omega
theorem aB{a:F}{nb l:Nat}(d:DO a nb (DW (c::nL l 0) 0 l q))(hq:q.length=l):
 a.cell? ⟨nb,l,none⟩=some (.int .u64 ((c::nL l 0)[l]?.getD 0:Nat))/\a.frozen? ⟨nb,l,none⟩=false/\∀v,DO (a.setCell ⟨nb,l,none⟩ (.int .u64 (v:Nat))) nb (q++[v]):=by
 have b:DW (c::nL l 0) 0 l q=q++[(c::nL l 0)[l]?.getD 0]:=by
  grind[DW,Cg]
 have e:=d.cell (j:=l) (by rw[b];simp;omega);rw[b,Cr O,hq,Cv]at e;refine⟨e,d.frozen l,λv=>?_⟩;have:=d.set l v;rw[b,CP _ _ O,hq,Cv]at this;exact this
def aC(s:ByteArray)(P:(Je s).all DU=true)(hs:s.size<=2000)(w:F):
 G B 124 #[D s] w λe w'=>∃u,e=.returned u/\UN w' u (num (Je s))/\Bl w w':=by
 have HD:=hidR P;clear P;go_enter func124,ntmps124
 go_wp2;go_loopw [0,3] (λdv rv wr=>∃(b:ByteArray) (f:List UInt8) (a:nJ) (l cap:Nat),dv=D b/\rv=C a l cap/\b.size<=2000/\l<=2000/\UN wr (C a l cap) (num f)/\Hid (Je s=f++Je b/\(f=[]\/b.size%19=0))/\Bl w wr) λdv _ _=>Z6 dv
 case atStart=>exact⟨s,[],none,0,0,J,J,hs,O,by unfold UN;simp[num,Du,val,JG];exact Row.nil _ _,⟨DG,An J⟩,BA _ _⟩
 case round=>
  obtain⟨b,f,a,l,cap,rfl,rfl,aq,hl,k,v,hB⟩:=hrel;by_cases h0:b.size=0
  . have Qb:=Al (by rw[JC];exact h0);have e:f=Je s:=by rw[v.o.1,Qb,Fu]
    have HE:=hidR e;have hz:b.size<=0:=O
    clear e Qb h0;go_wp2;go_ret;exact⟨_,J,by rw[<-HE.o];exact k,hB⟩
  . have ae:0<b.size:=O
    obtain⟨n,hn⟩:∃n,n=(b.size-1)%19+1:=⟨_,J⟩;have En:=hidR (show(((b.size:Int)-1)%19+1)=(n:Int)by omega);have Qw:n<=b.size:=O
    have i:=hidR hn;clear hn;go_upto_region 4 with fail
    rw[En.o];have Q:(Je (b.extract 0 n)).all DU=true:=by
     have g:=HD.o;rw[v.o.1,List.all_append,AY]at g;rw[Ou,AR];intro c r;exact AR.1 g.2 c (Fc r)
    have A:(b.extract 0 n).size=n:=by rw[AG];omega
    have W:num (Je (b.extract 0 n))<10000000000000000000:=by
     have g:=Ot Q;rw[JC,A]at g;have L:(10:Nat)^n<=10^19:=Ak O (by have:=i.o;omega);omega
    have R:=hidR λV=>Z4 (b.extract 0 n) Q (by rw[A];have:=i.o;omega) (by rw[A];have:=i.o;omega) V;obtain⟨c,r⟩:∃c,c=num (Je (b.extract 0 n)):=⟨_,J⟩;rw[<-r]at W R;have Uc:=hidR r;have Qr:=hidR W;clear Q A r W;have an:0<n:=by have:=i.o;omega
    have T:Hid (Je s=(f++Je (b.extract 0 n))++Je (b.extract n b.size)/\(f++Je (b.extract 0 n)=[]\/(b.extract n b.size).size%19=0)):=by
     refine⟨?_,Au ?_⟩
     . rw[Ff,Ou,R4,Ch];exact v.o.1
     . rw[AG];have:=i.o;omega
    have Qu:Hid ((Jd Z (num (f++Je (b.extract 0 n)))).length<=2000):=by
     have g:=HD.o;rw[T.o.1,List.all_append,AY]at g;have L:=Z7 g.1;have h3:=congrArg List.length T.o.1;rw[Cc,JC]at h3;exact Af L O
    have Ua:=Mh l O;go_upto_region 7 with(first|(go_at_call 166;refine(R.o _).mono ?_;rintro e t ⟨rfl,N⟩))
    obtain⟨I,m⟩:=ex (t.alloc (.cells (cellsOf .u64 (nL (l+1) 0)).toArray 115));have H:DO I t.heap.size (nL (l+1) 0):=DO.made (by rw[<-m];exact BB t _);have x:=Bt hB N;have Qp:Bl w I:=by rw[<-m];exact x.alloc x.size _
    have Qq:UN I (C a l cap) (num f):=by rw[<-m];exact Row.below (Row.below k N) (Ba _ _)
    have X:=x.size;have Qo:Hid (∀p,a=some p->0<l->p.block≠t.heap.size):=by
     intro p ep S;obtain⟨_,_,_,_,ai⟩:=Ju k;obtain⟨b',ay,ea,am,_⟩:=ai 0 S;rw[ep]at ea;cases ea;have:=N.size;simp only;omega
    have Qn:=k.len;have Qy:=hidR Qn;rw[m];clear m Ua N x k Qn R hB;generalize t.heap.size=nb at *;have z0:=H.cell (j:=0) DG;have z1:=H.frozen 0;go_upto_region 8 with fail
    obtain⟨K,o⟩:=ex (I.setCell ⟨nb,0,none⟩ (.int .u64 (c:Nat)));have U:DO K nb (c::nL l 0):=by rw[<-o];have:=H.set 0 c;simpa[List.replicate_succ]using this
    have Qs:Bl w K:=by rw[<-o];exact Qp.setCell X _
    have Ub:UN K (C a l cap) (num f):=by rw[<-o];exact Row.grown Qq (JH _ _ _ _) Qo.o
    rw[o];clear o H Qp Qq z0 z1;have S:=U.cell (j:=l) DG;have ak:=U.frozen l;obtain⟨y,hy⟩:∃y,y=(c::nL l 0)[l]?.getD 0:=⟨_,J⟩;rw[<-hy]at S;have HY:=hidR hy;clear hy;have Qv:=hidR λV (hV:Bl K V)=>Oq nb 0 l (l+1) (c::nL l 0) a cap (Jd Z (num f)) 10000000000000000000 V (U.below hV) (DJ.cons (by have:=Qr.o;unfold Z;omega) λd P=>by rw[Fz P];unfold Z;omega) DG O (Row.below Ub hV) (Jr Jg _) Qo.o uo;have i0:(0:Int)<=(l:Int):=O
    have i1:(l:Int)<(l:Int)+1:=O
    have i2:(l:Int)<=(l:Int)+1:=O
    go_region_with (first
     |(go_at_call 167;refine(Qv.o _ ?_).mono ?_;exact(BA _ _).drew;rintro e w4 ⟨over,q,rfl,M,hA4,ad⟩;obtain⟨k1,k2,k3⟩:=aB hA4 M.1;rw[<-HY.o]at k1;have z:=Z9 (by have:=Qr.o;unfold Z;omega) Qy.o M;rw[<-HY.o]at z;have aj:nO.wrap ((y:Int)+over)=((y+over:Nat):Int):=aA z.1;have Qt:=hidR z.2;have Qz:=hidR M.1;clear z M))
    all_goals go_wp2_with fail
    all_goals
     have Qx:DO (w4.setCell ⟨nb,l,none⟩ (.int .u64 ((y:Int)+over))) nb (q++[y+over]):=by
      have:=k3 (y+over);rwa[Int.natCast_add]at this
     have ap:=Qz.o;have Qc:=Qx.row 0 (l+1) (l+1) si O O O;rw[Ca,Ad si]at Qc;refine(Xe _ _ _ Qc).mono ?_;rintro e w6 ⟨u,rfl,hu,ah⟩;rw[Qt.o,Z8 Uc.o i.o Qw v.o.2 ae]at hu;have Ud:=((below_grown Qs.drew ad X).setCell X _).trans (ah.mono (by have g:=Qs.size;have L:=ad.size;simp[World.setCell]at L ⊢;omega));obtain⟨au,cu,eu⟩:=UN.form hu;subst eu;go_wp2;go_roundw
     case rel=>exact⟨b.extract n b.size,f++Je (b.extract 0 n),au,_,cu,J,J,by rw[AG];omega,Qu.o,hu,T.o,Ud⟩
     case measure=>
      show(b.extract n b.size).size<b.size;rw[AG];omega
end
open Go.RowKit Go.Shelf
def LS(b:Bool)(n:Nat):Int:=if b then -(n:Int)else n
variable{l:List UInt8}{n:Nat}{a w:F}
def Mm(b:Bool)(v:Value)(n:Nat)(w:F)(h:UN w v n):G B 72 #[E b,v] w λe a=>∃u,e=.returned u/\Jm a u (LS b n)/\Bl w a:=KZ b v n w h
def IX:Value:=.tuple #[.agg #[E false,C none 0 0],E false]
theorem Mn(s:ByteArray)(w:F):G B 122 #[D s,D ⟨#[45]⟩] w λe a=>e=.returned (.tuple #[D ⟨(JX (Je s)).toArray⟩,E (decide ((Je s).head?=some 45))])/\a=w:=by
 refine(Tryz.strings_CutPrefix s ⟨#[45]⟩ w).mono ?_;rintro e a ⟨rfl,rfl⟩;have b:Lib.hasPrefix s.data.toList [45]=decide ((Je s).head?=some 45):=by
  unfold Je Lib.hasPrefix;cases s.data.toList with
  |nil=>rfl
  |cons c l=>
   grind
 refine⟨?_,J⟩;have d:Lib.trimPrefix s.data.toList [45]=JX (Je s):=by
  grind[Lib.trimPrefix,JX,Je,List.drop_one]
 grind
theorem Ov(h:l.length<=2000):good l=(GG (JX l) && !(decide (l.head?=some 45)&&decide (JX l=[48]))):=by
 rw[CH];simp only[good,GG,AY,BW,Bool.or_eq_true,CN,Bo,List.isEmpty_eq_false_iff,Bool.and_eq_false_iff];grind[JX]
def F1(l:List UInt8)(w:F)(e:Ending)(a:F):Prop:=
 (good l=true->∃u,e=.returned (.tuple #[u,E true])/\Jm a u (Xi l))/\(good l=false->e=.returned IX)/\Bl w a
def F1.no(h:good l=false)(c:Bl w a):F1 l w (.returned IX) a:=
 ⟨λb=>(by rw[h]at b;cases b),λ_=>rfl,c⟩
def F1.yes{u:Value}(h:good l=true)(d:Jm a u (Xi l))(c:Bl w a):F1 l w (.returned (.tuple #[u,E true])) a:=
 ⟨λ_=>⟨u,J,d⟩,λb=>(by rw[h]at b;cases b),c⟩
def aD(s:ByteArray)(b:2000<s.size)(c:s.size<=140737488351232)(w:F):G B 63 #[D s] w (F1 (Je s) w):=by
 have a:=hidR (show good (Je s)=false by
  have:=JC s;simp[good];omega)
 go_enter func63,ntmps63
 go_wp2_with(first
  |(go_at_call 122;refine(Mn _ _).mono ?_;rintro e d ⟨rfl,rfl⟩))
 exact A0 (v:=IX) (by simp[results,results63,go_sem,IX]) J (F1.no a.o (Ba _ _))
theorem aE(s:ByteArray)(k:s.size<=2000)(b:GG (JX (Je s))=false)(w:F):G B 63 #[D s] w (F1 (Je s) w):=by
 have j:=hidR (show good (Je s)=false by rw[Ov (by rw[JC];exact k),b];rfl);obtain⟨tb,c⟩:=ex ((⟨(JX (Je s)).toArray⟩:ByteArray):ByteArray);obtain⟨sg,f⟩:=ex (decide ((Je s).head?=some 45));have a:=λV=>Mn s V;rw[c,f]at a;have g:Je tb=JX (Je s):=by rw[<-c];rfl
 have m:tb.size<=2000:=by
  grind[JC,JX]
 have d:=hidR λV=>Od tb O V;rw[g,b]at d;have i:=hidR a;clear a g b c f;go_enter func63,ntmps63
 go_wp2_with(first
  |(go_at_call 122;refine(i.o _).mono ?_;rintro e l ⟨rfl,rfl⟩)
  |(go_at_call 123;refine(d.o _).mono ?_;rintro e l ⟨rfl,rfl⟩))
 exact A0 (v:=IX) (by simp[results,results63,go_sem,IX]) J (F1.no j.o (Ba _ _))
theorem aF(s:ByteArray)(k:s.size<=2000)(i:GG (JX (Je s))=true)(b:(Je s).head?=some 45)(c:JX (Je s)=[48])(w:F):G B 63 #[D s] w (F1 (Je s) w):=by
 have f:=hidR (show good (Je s)=false by grind[Ov,JC]);have a:=λV=>Mn s V;rw[c,decide_eq_true b]at a;have g:=hidR λV=>Od ⟨[48].toArray⟩ DK V;have d:=hidR a;clear a i b c;go_enter func63,ntmps63
 go_wp2_with(first
  |(go_at_call 122;refine(d.o _).mono ?_;rintro e j ⟨rfl,rfl⟩)
  |(go_at_call 123;refine(g.o _).mono ?_;rintro e j ⟨rfl,rfl⟩))
 exact A0 (v:=IX) (by simp[results,results63,go_sem,IX]) J (F1.no f.o (Ba _ _))
def aG(s tb:ByteArray)(sg:Bool)(K:s.size<=2000)(r:Hid (good (Je s)=true))(q:Hid (∀V,G B 122 #[D s,D ⟨#[45]⟩] V λe c=>e=.returned (.tuple #[D tb,E sg])/\c=V))
(t:Hid (∀V,G B 123 #[D tb] V λe c=>e=.returned (E true)/\c=V))(x:Hid (∀V,G B 124 #[D tb] V λe c=>∃u,e=.returned u/\UN c u (num (Je tb))/\Bl V c))
(o:sg=true->(tb.toList == [48])=false)(y:Hid (Xi (Je s)=LS sg (num (Je tb))))(w:F):G B 63 #[D s] w (F1 (Je s) w):=by
 have a:=Jp.new w 35 (E false) (C none 0 0);have b:Bl w (w.alloc (.cells #[E false,C none 0 0] 35)):=Ba _ _;cases sg
 . clear o;go_enter func63,ntmps63
   go_wp2_with(first
    |(go_at_call 122;refine(q.o _).mono ?_;rintro e c ⟨rfl,rfl⟩)
    |(go_at_call 123;refine(t.o _).mono ?_;rintro e c ⟨rfl,rfl⟩)
    |(go_at_call 124;refine(x.o _).mono ?_;rintro e H ⟨u,rfl,i,f⟩;obtain⟨z,A,rfl⟩:=i.form;have a:=a.below f;have b:=Bt b f)
    |(go_at_call 72;refine(Mm _ _ _ _ i).mono ?_;rintro e I ⟨v,rfl,j,g⟩;have a:=a.below g;have b:=Bt b g;rw[<-y.o]at j;obtain⟨d,k,c3,rfl,n⟩:=j;obtain⟨q0,p⟩:=a.cp;obtain⟨f0,f1⟩:=a.fp))
   obtain⟨m,l⟩:=Yj (E (decide (Xi (Je s)<0))) (C d k c3) b (Aa _) a J J n;exact A0 (by simp[results,results63,go_sem,q0,p]) J (F1.yes r.o ⟨d,k,c3,J,m⟩ l)
 . have L:=o J;clear o;go_enter func63,ntmps63
   go_wp2_with(first
    |(go_at_call 122;refine(q.o _).mono ?_;rintro e c ⟨rfl,rfl⟩)
    |(go_at_call 123;refine(t.o _).mono ?_;rintro e c ⟨rfl,rfl⟩)
    |(go_at_call 124;refine(x.o _).mono ?_;rintro e H ⟨u,rfl,i,f⟩;obtain⟨z,A,rfl⟩:=i.form;have a:=a.below f;have b:=Bt b f)
    |(go_at_call 72;refine(Mm _ _ _ _ i).mono ?_;rintro e I ⟨v,rfl,j,g⟩;have a:=a.below g;have b:=Bt b g;rw[<-y.o]at j;obtain⟨d,k,c3,rfl,n⟩:=j;obtain⟨q0,p⟩:=a.cp;obtain⟨f0,f1⟩:=a.fp))
   obtain⟨m,l⟩:=Yj (E (decide (Xi (Je s)<0))) (C d k c3) b (Aa _) a J J n;exact A0 (by simp[results,results63,go_sem,q0,p]) J (F1.yes r.o ⟨d,k,c3,J,m⟩ l)
theorem aH(s:ByteArray)(i:s.size<=140737488351232)(w:F):G B 63 #[D s] w (F1 (Je s) w):=by
 by_cases g:2000<s.size
 . exact aD s g i w
 have a:s.size<=2000:=O
 cases b:GG (JX (Je s))
 . exact aE s a b w
 by_cases c:(Je s).head?=some 45/\JX (Je s)=[48]
 . exact aF s a b c.1 c.2 w
 have hg:good (Je s)=true:=by
  grind[Ov,JC]
 have e:(JX (Je s)).all DU=true:=by
  grind[GG]
 have d:Je (⟨(JX (Je s)).toArray⟩:ByteArray)=JX (Je s):=rfl;have f:(⟨(JX (Je s)).toArray⟩:ByteArray).size<=2000:=by
  grind[JC,JX]
 refine aG s ⟨(JX (Je s)).toArray⟩ (decide ((Je s).head?=some 45)) a hg (λV=>Mn s V) (λV=>?_) (λV=>?_) (λh=>?_) ?_ w
 . have:=Od ⟨(JX (Je s)).toArray⟩ O V;rw[d,b]at this;exact this
 . exact aC ⟨(JX (Je s)).toArray⟩ (by rw[d];exact e) f V
 . grind[Lib.toList_data]
 . show Xi (Je s)=_;grind[Xi,LS]
def row_one(W:F)(v:Nat):Row .u64 (W.alloc (.cells #[.int .u64 (v:Nat)] 115)) (C (some ⟨W.heap.size,0,none⟩) 1 1) [v]:=by
 refine⟨_,1,J,DG,O,DG,Au ⟨W.heap.size,0,J,⟨_,_,BB W _⟩,λj a=>?_⟩⟩
 have:j=0:=by simp at a;omega
 subst this;exact(BF W 115 (.int .u64 (v:Nat))).cell
theorem aI(a:n≠0)(h:n<Z):Jd Z n=[n]:=by
 grind[X8,Ct,Cn,JG]
def aJ(h:n<Z):Jz [n]=Jd Z n:=by
 have:=Yd Jg (ds:=[n]) (DJ.cons h (DJ.nil _));rw[<-this];simp[val]
def aK(N:Nat)(A:N<=9223372036854775807)(w:F):G B 29 #[.int .i64 (N:Int)] w λe m=>∃u,e=.returned u/\Jm m u N/\Bl w m:=by
 have hg:¬((N:Int)<0):=O
 have z:nO.wrap (N:Int)=(N:Int):=by rw[IntKind.wrap_u64];omega
 have p:=hidR (aJ (n:=N) uo);have a:=(Jp.new w 35 (E false) (C none 0 0)).alloc (.cells #[.int .u64 (N:Nat)] 115);have b:Bl w ((w.alloc (.cells #[E false,C none 0 0] 35)).alloc (.cells #[.int .u64 (N:Nat)] 115)):=(Ba _ _).alloc DG _;have g:=row_one (w.alloc (.cells #[E false,C none 0 0] 35)) N;rw[Ax]at g;have i:(N:Int)=LS false N:=rfl;have o:=hidR i;clear i;go_enter func29,ntmps29
 go_wp2_with(first
  |(go_at_call 73;refine(Xe _ _ _ g).mono ?_;rintro e H ⟨u,rfl,d,j⟩;rw[p.o]at d;obtain⟨x,y,rfl⟩:=UN.form d;have a:=a.below j;have b:=Bt b j)
  |(go_at_call 72;refine(Mm _ _ _ _ d).mono ?_;rintro e I ⟨v,rfl,l,k⟩;have a:=a.below k;have b:=Bt b k;rw[<-o.o]at l;obtain⟨c,f,c3,rfl,s⟩:=l;obtain⟨q0,t⟩:=a.cp;obtain⟨f0,f1⟩:=a.fp))
 obtain⟨r,q⟩:=Yj (E (decide ((N:Int)<0))) (C c f c3) b (Aa _) a J J s;exact A0 (v:=.agg #[E (decide ((N:Int)<0)),C c f c3]) (by simp[results,results29,go_sem,q0,t]) J ⟨_,J,⟨c,f,c3,J,r⟩,q⟩
def aL(N:Nat)(t:1<=N)(x:N<=9223372036854775808)(w:F):G B 29 #[.int .i64 (-(N:Int))] w λe k=>∃u,e=.returned u/\Jm k u (-(N:Int))/\Bl w k:=by
 have hg:-(N:Int)<0:=O
 have s:nO.wrap (-(nO.wrap (-(N:Int))))=(N:Int):=by simp only[IntKind.wrap_u64];omega
 have m:=hidR (aI (n:=N) O uo);have a:=(Jp.new w 35 (E false) (C none 0 0)).alloc (.cells #[.int .u64 (N:Nat)] 115);have c:Bl w ((w.alloc (.cells #[E false,C none 0 0] 35)).alloc (.cells #[.int .u64 (N:Nat)] 115)):=(Ba _ _).alloc DG _;have b:=row_one (w.alloc (.cells #[E false,C none 0 0] 35)) N;rw[Ax,<-m.o]at b;have b:UN ((w.alloc (.cells #[E false,C none 0 0] 35)).alloc (.cells #[.int .u64 (N:Nat)] 115)) (C (some ⟨w.heap.size+1,0,none⟩) 1 1) N:=b;have g:-(N:Int)=LS true N:=rfl;have l:=hidR g;clear g;go_enter func29,ntmps29
 go_wp2_with(first
  |(go_at_call 72;refine(Mm _ _ _ _ b).mono ?_;rintro e y ⟨v,rfl,j,i⟩;have a:=a.below i;have c:=Bt c i;rw[<-l.o]at j;obtain⟨d,f,c3,rfl,q⟩:=j;obtain⟨q0,r⟩:=a.cp;obtain⟨f0,f1⟩:=a.fp))
 obtain⟨p,o⟩:=Yj (E true) (C d f c3) c (Aa _) a J J q;exact A0 (v:=.agg #[E true,C d f c3]) (by simp[results,results29,go_sem,q0,r]) J ⟨_,J,⟨d,f,c3,by rw[show decide (-(N:Int)<0)=true from decide_eq_true hg],p⟩,o⟩
def Kd(n:Int)(b:-9223372036854775808<=n)(c:n<=9223372036854775807)(w:F):G B 29 #[.int .i64 n] w λe a=>∃u,e=.returned u/\Jm a u n/\Bl w a:=by
 by_cases h:n<0
 . have e:n=-(n.natAbs:Int):=O
   rw[e];exact aL n.natAbs O O w
 . have e:n=(n.natAbs:Int):=O
   rw[e];exact aK n.natAbs O w

