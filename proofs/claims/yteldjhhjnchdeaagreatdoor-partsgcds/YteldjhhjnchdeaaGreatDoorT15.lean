import Derived.Test.YteldjhhjnchdeaaGreatDoorT10
import Derived.Test.YteldjhhjnchdeaaGreatDoorT09
import Derived.Deep.DeepCutAuto
import Derived.Deep.RegionHeld3
import Derived.Deep.RegionWith
import Derived.Deep.OwnRows
import Derived.Test.YteldjhhjnchdeaaGreatDoorT04
open Go.Value renaming slice->B,bool->D,string->E
open Go.Proofs.Tryz renaming prog->C
open Go renaming World->F,Calls->G
set_option maxRecDepth 100000
set_option maxHeartbeats 16000000
namespace Go.Proofs.YteldjhhjnchdeaaGreatDoor
open Go.RowKit Go.Shelf Go.Deep
variable{s:ByteArray}{q:List Nat}{l:List UInt8}{c n:Nat}
theorem hidR{p:Prop}(h:p):Hid p:=h
theorem VV(l:List UInt8)(a:Nat)(h:l.all Dc=true)(f:num l+10^l.length*a<18446744073709551616):Lib.parseUintM (2^64-1) a l=.ok (num l+10^l.length*a):=by
 induction l generalizing a with
 |nil=>simp[Lib.parseUintM,num,ED,val]
 |cons c l g=>
  have d:Dc c=true:=A4.1 h c (CK ..);have hl:l.all Dc=true:=by rw[List.all_cons,d,Bool.true_and]at h;exact h
  have b:=YR d;have e:num (c::l)=num l+10^l.length*(c.toNat-48):=by
   have:=Kg [c] l;rw[List.singleton_append]at this;rw[this];congr 2
  have i:num (c::l)+10^(c::l).length*a=num l+10^l.length*(a*10+(c.toNat-48)):=by
   rw[e,Am,AP,Ax,Ay,Ar 10 a];omega
  rw[i]at f ⊢;have hp:1<=10^l.length:=Nat.one_le_pow _ _ om;have j:a*10+(c.toNat-48)<=10^l.length*(a*10+(c.toNat-48)):=Fh _ om;rw[Lib.parseUintM,BG ⟨b.1,b.2⟩,BC om,BC om];exact g _ hl f
theorem Ns(h:l.all Dc=true):num l<10^l.length:=by
 have:=Yi (LZ h);rwa[Kf]at this
theorem VW(h:l.all Dc=true)(b:l≠[])(a:l.length<=19):Lib.parseUintB 64 l=.ok (num l):=by
 have c:=Ns h;have d:(10:Nat)^l.length<=10^19:=Aw om a;rw[Lib.parseUintB,BC b,VV l 0 h om];simp
theorem bytesWorld_below(w:F)(e:TypeId)(s:ByteArray):Bl w (Lib.bytesWorld w e s):=by
 unfold Lib.bytesWorld;refine⟨rfl,rfl,rfl,?_,λk a=>?_⟩
 . simp[World.freeze]
 . show(Array.modify _ _ _)[k]?=_;rw[Array.getElem?_modify,BC (show ¬w.heap.size=k by omega)];exact Bh w.drew _ k a
theorem Nt:Je (s.extract 0 n)=(Je s).take n:=by
 unfold Je;rw[Lib.extract_data];simp
theorem Pt:Je (s.extract n s.size)=(Je s).drop n:=by
 unfold Je;rw[Lib.extract_data,Ad];have:=JE s;unfold Je at this;rw[AV,this];omega
theorem VX(s:ByteArray)(h:(Je s).all Dc=true)(c:0<s.size)(b:s.size<=19)(w:F):
 G C 205 #[E s,.int .i64 10,.int .i64 64] w λe a=>e=.returned (.tuple #[.int .u64 (num (Je s):Nat),.nilIface])/\Bl w a:=by
 have hl:=JE s;refine(Tryz.strconv_ParseUint_10_at64_ok s om _ (VW (l:=Je s) h (by intro e;rw[e]at hl;simp at hl;omega) om) w).mono ?_;rintro e a ⟨rfl,rfl|rfl⟩
 . exact⟨rfl,BB _ _⟩
 . exact⟨rfl,bytesWorld_below _ _ _⟩
def VY:Value->Nat|E s=>s.size|_=>0
theorem VZ(h:l.all Dc=true):(Jc DR (num l)).length<=l.length:=by
 refine JJ Jf (AC (Ns h) (CS ?_ _));unfold DR;omega
theorem Va{a:ByteArray}{b:List UInt8}(e:c=num (Je (a.extract 0 n)))(f:n=(a.size-1)%19+1)(g:n<=a.size)(d:b=[]\/a.size%19=0)(i:0<a.size):c+num b*10000000000000000000=num (b++Je (a.extract 0 n)):=by
 have hl:(Je (a.extract 0 n)).length=n:=by rw[JE,Cx];omega
 rw[Kg,hl,<-e];rcases d with rfl|d
 . simp[num,ED,val]
 . have:n=19:=om
   rw[this,Ar]
theorem Vb{m l over:Nat}(n:c<DR)(hl:l=(Jc DR m).length)(h:Xz (c::List.replicate l 0) (Jc DR m) 0 10000000000000000000 l over q):
 (c::List.replicate l 0)[l]?.getD 0+over<DR/\Jw (q++[(c::List.replicate l 0)[l]?.getD 0+over])=Jc DR (c+m*10000000000000000000):=by
 obtain⟨d,o,r,a⟩:=h;have j:val DR (Jc DR m)=m:=Jo Jf m;rw[AE]at a;have e:∀k,val DR (List.replicate k 0)=0:=by
  intro k;induction k with
  |zero=>rfl
  |succ k p=>rw[C7,J5,p];rfl
 have g:(Jc DR m).take l=Jc DR m:=Ad om;rw[g,j]at a;have b:(c::List.replicate l 0)[l]?.getD 0+over<DR/\val DR (q++[(c::List.replicate l 0)[l]?.getD 0+over])=c+m*10000000000000000000:=by
  cases l with
  |zero=>
   have i:m=0:=by
    have:Jc DR m=[]:=Ap hl.symm;exact(JA Jf).1 this
   subst i;have hq:q=[]:=Ap d;subst hq;simp[val]at a;subst a;simp[val];exact n
  |succ l=>
   have f:(c::List.replicate (l+1) 0)[l+1]?.getD 0=0:=DQ
   rw[f,A8];refine⟨r,?_⟩;rw[YC,d,a,List.take_succ_cons,J5,List.take_replicate,e];omega
 refine⟨b.1,?_⟩;rw[<-J9 Jf (o.append (DT.cons b.1 (DT.nil _))),b.2]
theorem Vc{r d:Nat}(h:r+d<DR):IntKind.u64.wrap ((r:Int)+d)=((r+d:Nat):Int):=by
 unfold DR at h;rw[IntKind.wrap_u64];omega
theorem Vd{a:F}{nb l:Nat}(d:DX a nb (Dd (c::List.replicate l 0) 0 l q))(hq:q.length=l):
 a.cell? ⟨nb,l,none⟩=some (.int .u64 ((c::List.replicate l 0)[l]?.getD 0:Nat))/\a.frozen? ⟨nb,l,none⟩=false/\∀v,DX (a.setCell ⟨nb,l,none⟩ (.int .u64 (v:Nat))) nb (q++[v]):=by
 have b:Dd (c::List.replicate l 0) 0 l q=q++[(c::List.replicate l 0)[l]?.getD 0]:=by
  have hl:l<(c::List.replicate l 0).length:=DQ
  rw[Dd,CV,Ao,A8,A0 hl,AQ DQ,Ah hl];rfl
 have e:=d.cell (j:=l) (by rw[b];simp;omega);rw[b,AB om,hq,A3]at e;refine⟨e,d.frozen l,λv=>?_⟩;have:=d.set l v;rw[b,Cz _ _ om,hq,A3]at this;exact this
theorem Ve(s:ByteArray)(H:(Je s).all Dc=true)(hs:s.size<=2000)(w:F):
 G C 199 #[E s] w λe w'=>∃u,e=.returned u/\UN w' u (num (Je s))/\Bl w w':=by
 have HD:=hidR H;clear H;go_enter Tryz.func199,Tryz.ntmps199
 go_wp2;go_loopw [0,3] (λdv rv wr=>∃(b:ByteArray) (f:List UInt8) (a:Option Addr) (l cap:Nat),dv=E b/\rv=B a l cap/\b.size<=2000/\l<=2000/\UN wr (B a l cap) (num f)/\Hid (Je s=f++Je b/\(f=[]\/b.size%19=0))/\Bl w wr) (λdv _ _=>VY dv)
 case atStart=>exact⟨s,[],none,0,0,rfl,rfl,hs,om,by unfold UN;simp[num,ED,val,Jy];exact Row.nil _ _,⟨DQ,Or.inl rfl⟩,BB _ _⟩
 case round=>
  obtain⟨b,f,a,l,cap,rfl,rfl,an,hl,t,M,O⟩:=hrel;by_cases h0:b.size=0
  . have Qc:Je b=[]:=Ap (by rw[JE];exact h0);have e:f=Je s:=by rw[M.o.1,Qc,Cl]
    have HE:=hidR e;have hz:b.size<=0:=om
    clear e Qc h0;go_wp2;go_ret;exact⟨_,rfl,by rw[<-HE.o];exact t,O⟩
  . have ah:0<b.size:=om
    obtain⟨n,hn⟩:∃n,n=(b.size-1)%19+1:=⟨_,rfl⟩;have En:=hidR (show(((b.size:Int)-1)%19+1)=(n:Int)by omega);have Qz:n<=b.size:=om
    have k:=hidR hn;clear hn;go_upto_region 4 with fail
    rw[En.o];have R:(Je (b.extract 0 n)).all Dc=true:=by
     have g:=HD.o;rw[M.o.1,Fu,AM]at g;rw[Nt,A4];intro c m;exact A4.1 g.2 c (FK m)
    have K:(b.extract 0 n).size=n:=by rw[Cx];omega
    have U:num (Je (b.extract 0 n))<10000000000000000000:=by
     have g:=Ns R;rw[JE,K]at g;have I:(10:Nat)^n<=10^19:=Aw om (by have:=k.o;omega);have h3:(10:Nat)^19=10000000000000000000:=DS
     omega
    have X:=hidR (λV=>VX (b.extract 0 n) R (by rw[K];have:=k.o;omega) (by rw[K];have:=k.o;omega) V);obtain⟨c,m⟩:∃c,c=num (Je (b.extract 0 n)):=⟨_,rfl⟩;rw[<-m]at U X;have Qt:=hidR m;have Qm:=hidR U;clear R K m U;have ai:0<n:=by have:=k.o;omega
    have T:Hid (Je s=(f++Je (b.extract 0 n))++Je (b.extract n b.size)/\(f++Je (b.extract 0 n)=[]\/(b.extract n b.size).size%19=0)):=by
     refine⟨?_,Or.inr ?_⟩
     . rw[Cf,Nt,Pt,Cn];exact M.o.1
     . rw[Cx];have:=k.o;omega
    have Ub:Hid ((Jc DR (num (f++Je (b.extract 0 n)))).length<=2000):=by
     have g:=HD.o;rw[T.o.1,Fu,AM]at g;have I:=VZ g.1;have h3:=Bv List.length T.o.1;rw[Ai,JE]at h3;exact As I om
    have Uc:=Lu l om;go_upto_region 7 with(first|(go_at_call 205;refine(X.o _).mono ?_;rintro e i ⟨rfl,A⟩))
    obtain⟨x,r⟩:=ex (i.alloc (.cells (cellsOf .u64 (List.replicate (l+1) 0)).toArray 156));have z:DX x i.heap.size (List.replicate (l+1) 0):=DX.made (by rw[<-r];exact BE i _);have J:Bl w i:=Bt O A;have Qr:Bl w x:=by rw[<-r];exact J.alloc J.size _
    have Qs:UN x (B a l cap) (num f):=by rw[<-r];exact Row.below (Row.below t A) (Ba _ _)
    have W:w.heap.size<=i.heap.size:=J.size;have Qo:Hid (∀p,a=some p->0<l->p.block≠i.heap.size):=by
     intro p ep P;obtain⟨_,_,_,_,ae⟩:=Ju t;obtain⟨b',ak,ea,ap,_⟩:=ae 0 P;rw[ep]at ea;cases ea;have:=A.size;simp only;omega
    have Qp:=t.len;have Qy:=hidR Qp;rw[r];clear r Uc A J t Qp X O;generalize i.heap.size=nb at *;have z0:=z.cell (j:=0) DQ;have z1:=z.frozen 0;go_upto_region 8 with fail
    obtain⟨v,o⟩:=ex (x.setCell ⟨nb,0,none⟩ (.int .u64 (c:Nat)));have Qn:DX v nb (c::List.replicate l 0):=by rw[<-o];have:=z.set 0 c;simpa[List.replicate_succ]using this
    have Z:Bl w v:=by rw[<-o];exact Qr.setCell W _
    have Qu:UN v (B a l cap) (num f):=by rw[<-o];exact Row.grown Qs (JC _ _ _ _) Qo.o
    rw[o];clear o z Qr Qs z0 z1;have P:=Qn.cell (j:=l) DQ;obtain⟨y,S⟩:∃y,y=(c::List.replicate l 0)[l]?.getD 0:=⟨_,rfl⟩;rw[<-S]at P;have HY:=hidR S;clear S;have Qw:=hidR (λV (hV:Bl v V)=>Nr nb 0 l (l+1) (c::List.replicate l 0) a cap (Jc DR (num f)) 10000000000000000000 V (Qn.below hV) (DT.cons (by have:=Qm.o;unfold DR;omega) (λd H=>by rw[CF H];unfold DR;omega)) DQ om (Row.below Qu hV) (Jp Jf _) Qo.o uo);have i0:(0:Int)<=(l:Int):=om
    have i1:(l:Int)<(l:Int)+1:=om
    have i2:(l:Int)<=(l:Int)+1:=om
    go_region_with (first
     |(go_at_call 163;refine(Qw.o _ ?_).mono ?_;exact(BB _ _).drew;rintro e w4 ⟨over,q,rfl,N,hA4,ad⟩;obtain⟨k1,k2,k3⟩:=Vd hA4 N.1;rw[<-HY.o]at k1;have L:=Vb (by have:=Qm.o;unfold DR;omega) Qy.o N;rw[<-HY.o]at L;have am:IntKind.u64.wrap ((y:Int)+over)=((y+over:Nat):Int):=Vc L.1;have Ud:=hidR L.2;have Qx:=hidR N.1;clear L N))
    all_goals go_wp2_with fail
    all_goals
     have Qv:DX (w4.setCell ⟨nb,l,none⟩ (.int .u64 ((y:Int)+over))) nb (q++[y+over]):=by
      have:=k3 (y+over);rwa[Int.natCast_add]at this
     have aj:q.length=l:=Qx.o;have Y:=Qv.row 0 (l+1) (l+1) si om om om;rw[AE,Ad si]at Y;refine(YW _ _ _ Y).mono ?_;rintro e w6 ⟨u,rfl,Q,af⟩;rw[Ud.o,Va Qt.o k.o Qz M.o.2 ah]at Q;have Ua:Bl w w6:=((below_grown Z.drew ad W).setCell W _).trans (af.mono (by have g:=Z.size;have I:=ad.size;simp[World.setCell]at I ⊢;omega));obtain⟨au,cu,eu⟩:=UN.form Q;subst eu;go_wp2;go_roundw
     case rel=>exact⟨b.extract n b.size,f++Je (b.extract 0 n),au,_,cu,rfl,rfl,by rw[Cx];omega,Ub.o,Q,T.o,Ua⟩
     case measure=>
      show(b.extract n b.size).size<b.size;rw[Cx];omega
end Go.Proofs.YteldjhhjnchdeaaGreatDoor
namespace Go.Proofs.YteldjhhjnchdeaaGreatDoor
open Go.RowKit Go.Shelf
def Kq(b:Bool)(n:Nat):Int:=if b then -(n:Int)else n
variable{l:List UInt8}{n:Nat}{a w:F}
theorem L1(b:Bool)(v:Value)(n:Nat)(w:F)(h:UN w v n):G C 119 #[D b,v] w λe a=>∃u,e=.returned u/\Jl a u (Kq b n)/\Bl w a:=I1 b v n w h
def ID:Value:=.tuple #[.agg #[D false,B none 0 0],D false]
theorem Kr(s:ByteArray)(w:F):G C 70 #[E s,E ⟨#[45]⟩] w λe b=>e=.returned (.tuple #[E ⟨(JL (Je s)).toArray⟩,D (decide ((Je s).head?=some 45))])/\b=w:=by
 refine(Tryz.strings_CutPrefix s ⟨#[45]⟩ w).mono ?_;rintro e b ⟨rfl,rfl⟩;have a:Lib.hasPrefix s.data.toList [45]=decide ((Je s).head?=some 45):=by
  unfold Je Lib.hasPrefix;cases s.data.toList with
  |nil=>rfl
  |cons c l=>
   rw[Cp];simp[List.isPrefixOf];exact eq_comm
 refine⟨?_,rfl⟩;have d:Lib.trimPrefix s.data.toList [45]=JL (Je s):=by
  unfold Lib.trimPrefix JL;rw[a];by_cases h:(Je s).head?=some 45
  . rw[BG (BK h),BG h,FE,List.drop_one];rfl
  . rw[BC (by simp[h]),BC h];rfl
 show Ending.returned (.tuple #[E ⟨(Lib.trimPrefix s.data.toList [45]).toArray⟩,D (Lib.hasPrefix s.data.toList [45])])=_;rw[a,d]
theorem Nu(h:l.length<=2000):good l=(GJ (JL l) && !(decide (l.head?=some 45)&&decide (JL l=[48]))):=by
 rw[Cp];simp only[good,GJ,AM,BR,C9,Cr,Bg,List.isEmpty_eq_false_iff,Bool.and_eq_false_iff];constructor
 . rintro⟨⟨⟨_,d⟩,b⟩,f⟩;refine⟨⟨f,?_⟩,?_⟩
   . rcases b with b|b
     . exact Or.inr ⟨d,b⟩
     . left;rw[b];rfl
   . rcases b with b|b
     . right;intro e;apply b;rw[e];rfl
     . left;rw[b];simp
 . rintro⟨⟨f,a⟩,c⟩;have d:JL l≠[]:=by
    rcases a with a|a
    . rw[a];simp
    . exact a.1
   refine⟨⟨⟨h,d⟩,?_⟩,f⟩;rcases a with a|a
   . rcases c with c|c
     . right
       have:JL l=l:=by rw[JL,BC c]
       rw[<-this];exact a
     . exact absurd a c
   . exact Or.inl a.2
def XY(l:List UInt8)(w:F)(e:Ending)(a:F):Prop:=
 (good l=true->∃u,e=.returned (.tuple #[u,D true])/\Jl a u (YV l))/\(good l=false->e=.returned ID)/\Bl w a
theorem XY.no(h:good l=false)(c:Bl w a):XY l w (.returned ID) a:=
 ⟨λb=>(by rw[h]at b;cases b),λ_=>rfl,c⟩
theorem XY.yes{u:Value}(h:good l=true)(c:Jl a u (YV l))(d:Bl w a):XY l w (.returned (.tuple #[u,D true])) a:=
 ⟨λ_=>⟨u,rfl,c⟩,λb=>(by rw[h]at b;cases b),d⟩
theorem Vf(s:ByteArray)(b:2000<s.size)(hs:s.size<=140737488351232)(w:F):G C 190 #[E s] w (XY (Je s) w):=by
 have a:=hidR (show good (Je s)=false by
  have:=JE s;simp[good];omega)
 go_enter Tryz.func190,Tryz.ntmps190
 go_wp2_with(first
  |(go_at_call 70;refine(Kr _ _).mono ?_;rintro e c ⟨rfl,rfl⟩))
 exact BA (v:=ID) (by simp[results,Tryz.results190,go_sem,ID]) rfl (XY.no a.o (Ba _ _))
theorem Vg(s:ByteArray)(i:s.size<=2000)(d:GJ (JL (Je s))=false)(w:F):G C 190 #[E s] w (XY (Je s) w):=by
 have l:=hidR (show good (Je s)=false by rw[Nu (by rw[JE];exact i),d];rfl);obtain⟨tb,b⟩:=ex ((⟨(JL (Je s)).toArray⟩:ByteArray):ByteArray);obtain⟨m,g⟩:=ex (decide ((Je s).head?=some 45));have c:=λV=>Kr s V;rw[b,g]at c;have a:Je tb=JL (Je s):=by rw[<-b];rfl
 have n:tb.size<=2000:=by
  rw[<-JE,a,JL];have:=JE s;split
  . rw[List.length_tail];omega
  . omega
 have f:=hidR (λV=>NY tb om V);rw[a,d]at f;have j:=hidR c;clear c a d b g;go_enter Tryz.func190,Tryz.ntmps190
 go_wp2_with(first
  |(go_at_call 70;refine(j.o _).mono ?_;rintro e k ⟨rfl,rfl⟩)
  |(go_at_call 198;refine(f.o _).mono ?_;rintro e k ⟨rfl,rfl⟩))
 exact BA (v:=ID) (by simp[results,Tryz.results190,go_sem,ID]) rfl (XY.no l.o (Ba _ _))
theorem Vh(s:ByteArray)(f:s.size<=2000)(d:GJ (JL (Je s))=true)(b:(Je s).head?=some 45)(a:JL (Je s)=[48])(w:F):G C 190 #[E s] w (XY (Je s) w):=by
 have k:=hidR (show good (Je s)=false by rw[Nu (by rw[JE];exact f),d,a];simp[b]);have c:=λV=>Kr s V;rw[a,BK b]at c;have g:=hidR (λV=>NY ⟨[48].toArray⟩ DS V);have i:=hidR c;clear c d b a;go_enter Tryz.func190,Tryz.ntmps190
 go_wp2_with(first
  |(go_at_call 70;refine(i.o _).mono ?_;rintro e j ⟨rfl,rfl⟩)
  |(go_at_call 198;refine(g.o _).mono ?_;rintro e j ⟨rfl,rfl⟩))
 exact BA (v:=ID) (by simp[results,Tryz.results190,go_sem,ID]) rfl (XY.no k.o (Ba _ _))
theorem Vi(s tb:ByteArray)(l:Bool)(K:s.size<=2000)(r:Hid (good (Je s)=true))(x:Hid (∀V,G C 70 #[E s,E ⟨#[45]⟩] V λe c=>e=.returned (.tuple #[E tb,D l])/\c=V))
(y:Hid (∀V,G C 198 #[E tb] V λe c=>e=.returned (D true)/\c=V))(q:Hid (∀V,G C 199 #[E tb] V λe c=>∃u,e=.returned u/\UN c u (num (Je tb))/\Bl V c))
(o:l=true->(tb.toList == [48])=false)(t:Hid (YV (Je s)=Kq l (num (Je tb))))(w:F):G C 190 #[E s] w (XY (Je s) w):=by
 have a:=Jn.new w 63 (D false) (B none 0 0);have b:Bl w (w.alloc (.cells #[D false,B none 0 0] 63)):=Ba _ _;cases l
 . clear o;go_enter Tryz.func190,Tryz.ntmps190
   go_wp2_with(first
    |(go_at_call 70;refine(x.o _).mono ?_;rintro e c ⟨rfl,rfl⟩)
    |(go_at_call 198;refine(y.o _).mono ?_;rintro e c ⟨rfl,rfl⟩)
    |(go_at_call 199;refine(q.o _).mono ?_;rintro e H ⟨u,rfl,i,g⟩;obtain⟨I,z,rfl⟩:=i.form;have a:=a.below g;have b:=Bt b g)
    |(go_at_call 119;refine(L1 _ _ _ _ i).mono ?_;rintro e A ⟨v,rfl,j,k⟩;have a:=a.below k;have b:=Bt b k;rw[<-t.o]at j;obtain⟨d,f,c3,rfl,m⟩:=j;obtain⟨q0,q1⟩:=a.cp;obtain⟨f0,f1⟩:=a.fp))
   obtain⟨p,n⟩:=YO (D (decide (YV (Je s)<0))) (B d f c3) b (Aa _) a rfl rfl m;exact BA (v:=.tuple #[.agg #[D (decide (YV (Je s)<0)),B d f c3],D true]) (by simp[results,Tryz.results190,go_sem,q0,q1]) rfl (XY.yes r.o ⟨d,f,c3,rfl,p⟩ n)
 . have J:=o rfl;clear o;go_enter Tryz.func190,Tryz.ntmps190
   go_wp2_with(first
    |(go_at_call 70;refine(x.o _).mono ?_;rintro e c ⟨rfl,rfl⟩)
    |(go_at_call 198;refine(y.o _).mono ?_;rintro e c ⟨rfl,rfl⟩)
    |(go_at_call 199;refine(q.o _).mono ?_;rintro e H ⟨u,rfl,i,g⟩;obtain⟨I,z,rfl⟩:=i.form;have a:=a.below g;have b:=Bt b g)
    |(go_at_call 119;refine(L1 _ _ _ _ i).mono ?_;rintro e A ⟨v,rfl,j,k⟩;have a:=a.below k;have b:=Bt b k;rw[<-t.o]at j;obtain⟨d,f,c3,rfl,m⟩:=j;obtain⟨q0,q1⟩:=a.cp;obtain⟨f0,f1⟩:=a.fp))
   obtain⟨p,n⟩:=YO (D (decide (YV (Je s)<0))) (B d f c3) b (Aa _) a rfl rfl m;exact BA (v:=.tuple #[.agg #[D (decide (YV (Je s)<0)),B d f c3],D true]) (by simp[results,Tryz.results190,go_sem,q0,q1]) rfl (XY.yes r.o ⟨d,f,c3,rfl,p⟩ n)
theorem Vj(s:ByteArray)(hs:s.size<=140737488351232)(w:F):G C 190 #[E s] w (XY (Je s) w):=by
 by_cases i:2000<s.size
 . exact Vf s i hs w
 have c:s.size<=2000:=om
 cases a:GJ (JL (Je s))
 . exact Vg s c a w
 by_cases e:(Je s).head?=some 45/\JL (Je s)=[48]
 . exact Vh s c a e.1 e.2 w
 have g:good (Je s)=true:=by
  rw[Nu (by rw[JE];exact c),a];by_cases b:(Je s).head?=some 45
  . have f:¬JL (Je s)=[48]:=λh=>e ⟨b,h⟩;simp[f]
  . simp[b]
 have j:(JL (Je s)).all Dc=true:=by
  unfold GJ at a;rw[AM]at a;exact a.1
 have d:Je (⟨(JL (Je s)).toArray⟩:ByteArray)=JL (Je s):=rfl;have k:(⟨(JL (Je s)).toArray⟩:ByteArray).size<=2000:=by
  rw[<-JE,d,JL];have:=JE s;split
  . rw[List.length_tail];omega
  . omega
 refine Vi s ⟨(JL (Je s)).toArray⟩ (decide ((Je s).head?=some 45)) c g (λV=>Kr s V) (λV=>?_) (λV=>?_) (λh=>?_) ?_ w
 . have:=NY ⟨(JL (Je s)).toArray⟩ om V;rw[d,a]at this;exact this
 . exact Ve ⟨(JL (Je s)).toArray⟩ (by rw[d];exact j) k V
 . rw[Lib.toList_data];exact beq_eq_false_iff_ne.2 (λf=>e ⟨of_decide_eq_true h,f⟩)
 . show YV (Je s)=_;rw[d,YV,Kq];by_cases b:(Je s).head?=some 45
   . simp[b]
   . simp[b]
theorem row_one(W:F)(v:Nat):Row .u64 (W.alloc (.cells #[.int .u64 (v:Nat)] 156)) (B (some ⟨W.heap.size,0,none⟩) 1 1) [v]:=by
 refine⟨_,1,rfl,DQ,om,DQ,Or.inr ⟨W.heap.size,0,rfl,⟨_,_,BE W _⟩,λj a=>?_⟩⟩;have:j=0:=by simp at a;omega
 subst this;exact(BM W 156 (.int .u64 (v:Nat))).cell
theorem Vk(a:n≠0)(h:n<DR):Jc DR n=[n]:=by
 rw[XI Jf a,Cm h,Cb h,Jy]
theorem Vl(h:n<DR):Jw [n]=Jc DR n:=by
 have:=J9 Jf (ds:=[n]) (DT.cons h (DT.nil _));rw[<-this];simp[val]
theorem Vm(N:Nat)(t:N<=9223372036854775807)(w:F):G C 95 #[.int .i64 (N:Int)] w λe j=>∃u,e=.returned u/\Jl j u N/\Bl w j:=by
 have y:¬((N:Int)<0):=om
 have I:IntKind.u64.wrap (N:Int)=(N:Int):=by rw[IntKind.wrap_u64];omega
 have o:=hidR (Vl (n:=N) uo);have a:=(Jn.new w 63 (D false) (B none 0 0)).alloc (.cells #[.int .u64 (N:Nat)] 156);have b:Bl w ((w.alloc (.cells #[D false,B none 0 0] 63)).alloc (.cells #[.int .u64 (N:Nat)] 156)):=(Ba _ _).alloc DQ _;have i:=row_one (w.alloc (.cells #[D false,B none 0 0] 63)) N;rw[A1]at i;have k:(N:Int)=Kq false N:=rfl;have p:=hidR k;clear k;go_enter Tryz.func95,Tryz.ntmps95
 go_wp2_with(first
  |(go_at_call 128;refine(YW _ _ _ i).mono ?_;rintro e A ⟨u,rfl,f,g⟩;rw[o.o]at f;obtain⟨H,x,rfl⟩:=UN.form f;have a:=a.below g;have b:=Bt b g)
  |(go_at_call 119;refine(L1 _ _ _ _ f).mono ?_;rintro e z ⟨v,rfl,l,m⟩;have a:=a.below m;have b:=Bt b m;rw[<-p.o]at l;obtain⟨c,d,c3,rfl,q⟩:=l;obtain⟨q0,q1⟩:=a.cp;obtain⟨f0,f1⟩:=a.fp))
 obtain⟨s,r⟩:=YO (D (decide ((N:Int)<0))) (B c d c3) b (Aa _) a rfl rfl q;exact BA (v:=.agg #[D (decide ((N:Int)<0)),B c d c3]) (by simp[results,Tryz.results95,go_sem,q0,q1]) rfl ⟨_,rfl,⟨c,d,c3,rfl,s⟩,r⟩
theorem Vn(N:Nat)(t:1<=N)(s:N<=9223372036854775808)(w:F):G C 95 #[.int .i64 (-(N:Int))] w λe g=>∃u,e=.returned u/\Jl g u (-(N:Int))/\Bl w g:=by
 have l:-(N:Int)<0:=om
 have y:IntKind.u64.wrap (-(IntKind.u64.wrap (-(N:Int))))=(N:Int):=by simp only[IntKind.wrap_u64];omega
 have m:=hidR (Vk (n:=N) om uo);have a:=(Jn.new w 63 (D false) (B none 0 0)).alloc (.cells #[.int .u64 (N:Nat)] 156);have f:Bl w ((w.alloc (.cells #[D false,B none 0 0] 63)).alloc (.cells #[.int .u64 (N:Nat)] 156)):=(Ba _ _).alloc DQ _;have b:=row_one (w.alloc (.cells #[D false,B none 0 0] 63)) N;rw[A1,<-m.o]at b;have b:UN ((w.alloc (.cells #[D false,B none 0 0] 63)).alloc (.cells #[.int .u64 (N:Nat)] 156)) (B (some ⟨w.heap.size+1,0,none⟩) 1 1) N:=b;have i:-(N:Int)=Kq true N:=rfl;have o:=hidR i;clear i;go_enter Tryz.func95,Tryz.ntmps95
 go_wp2_with(first
  |(go_at_call 119;refine(L1 _ _ _ _ b).mono ?_;rintro e x ⟨v,rfl,j,k⟩;have a:=a.below k;have f:=Bt f k;rw[<-o.o]at j;obtain⟨c,d,c3,rfl,p⟩:=j;obtain⟨q0,q1⟩:=a.cp;obtain⟨f0,f1⟩:=a.fp))
 obtain⟨r,q⟩:=YO (D true) (B c d c3) f (Aa _) a rfl rfl p;exact BA (v:=.agg #[D true,B c d c3]) (by simp[results,Tryz.results95,go_sem,q0,q1]) rfl ⟨_,rfl,⟨c,d,c3,by rw[show decide (-(N:Int)<0)=true from BK l],r⟩,q⟩
theorem I6(n:Int)(b:-9223372036854775808<=n)(c:n<=9223372036854775807)(w:F):G C 95 #[.int .i64 n] w λe a=>∃u,e=.returned u/\Jl a u n/\Bl w a:=by
 by_cases h:n<0
 . have e:n=-(n.natAbs:Int):=om
   rw[e];exact Vn n.natAbs om om w
 . have e:n=(n.natAbs:Int):=om
   rw[e];exact Vm n.natAbs om w
