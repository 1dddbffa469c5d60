import Derived.Test.YteldjhhjnchdeaaGreatDoorV10
import Derived.Test.YteldjhhjnchdeaaGreatDoorV09
import Derived.Deep.DeepCutAuto
import Derived.Deep.RegionHeld3
import Derived.Deep.RegionWith
import Derived.Deep.OwnRows
import Derived.Test.YteldjhhjnchdeaaGreatDoorV04
open Go.Value renaming slice->B,bool->D,string->E
open Go.Proofs.Tryz renaming prog->C
open Go renaming World->F,Calls->G
set_option maxRecDepth 100000
set_option maxHeartbeats 16000000
namespace Go.Proofs.YteldjhhjnchdeaaGreatDoor
section
open Go.RowKit Go.Shelf Go.Deep
variable{s:ByteArray}{q:List Nat}{l:List UInt8}{c n:Nat}
theorem hidR{p:Prop}(h:p):Hid p:=h
theorem VW(l:List UInt8)(a:Nat)(h:l.all Da=true)(d:num l+10^l.length*a<18446744073709551616):Lib.parseUintM (2^64-1) a l=.ok (num l+10^l.length*a):=by
 induction l generalizing a with
 |nil=>simp[Lib.parseUintM,num,EF,val]
 |cons c l i=>
  have f:Da c=true:=A4.1 h c (CL ..);have hl:l.all Da=true:=by rw[List.all_cons,f,Bool.true_and]at h;exact h
  have b:=YT f;have e:num (c::l)=num l+10^l.length*(c.toNat-48):=by
   have:=Ki [c] l;rw[List.singleton_append]at this;rw[this];congr 2
  have g:num (c::l)+10^(c::l).length*a=num l+10^l.length*(a*10+(c.toNat-48)):=by
   rw[e,Am,AQ,Ax,Az,As 10 a];omega
  rw[g]at d ⊢;have hp:1<=10^l.length:=Nat.one_le_pow _ _ Y;have j:a*10+(c.toNat-48)<=10^l.length*(a*10+(c.toNat-48)):=Fh _ Y;rw[Lib.parseUintM,BG ⟨b.1,b.2⟩,BC Y,BC Y];exact i _ hl d
theorem Nq(h:l.all Da=true):num l<10^l.length:=by
 have:=Yh (LZ h);rwa[Kh]at this
theorem VX(h:l.all Da=true)(a:l≠[])(b:l.length<=19):Lib.parseUintB 64 l=.ok (num l):=by
 have c:=Nq h;have d:(10:Nat)^l.length<=10^19:=Aw Y b;rw[Lib.parseUintB,BC a,VW l 0 h Y];simp
theorem bytesWorld_below(w:F)(e:TypeId)(s:ByteArray):Bl w (Lib.bytesWorld w e s):=by
 unfold Lib.bytesWorld;refine⟨rfl,rfl,rfl,?_,λk a=>?_⟩
 . simp[World.freeze]
 . show(Array.modify _ _ _)[k]?=_;rw[Array.getElem?_modify,BC (show ¬w.heap.size=k by omega)];exact Bh w.drew _ k a
theorem Nr:Je (s.extract 0 n)=(Je s).take n:=by
 unfold Je;rw[Lib.extract_data];simp
theorem Pp:Je (s.extract n s.size)=(Je s).drop n:=by
 unfold Je;rw[Lib.extract_data,Ad];have:=JG s;unfold Je at this;rw[AV,this];omega
theorem VY(s:ByteArray)(h:(Je s).all Da=true)(b:0<s.size)(c:s.size<=19)(w:F):
 G C 205 #[E s,.int .i64 10,.int .i64 64] w λe a=>e=.returned (.tuple #[.int .u64 (num (Je s):Nat),.nilIface])/\Bl w a:=by
 have hl:=JG s;refine(Tryz.strconv_ParseUint_10_at64_ok s Y _ (VX (l:=Je s) h (by intro e;rw[e]at hl;simp at hl;omega) Y) w).mono ?_;rintro e a ⟨rfl,rfl|rfl⟩
 . exact⟨rfl,BB _ _⟩
 . exact⟨rfl,bytesWorld_below _ _ _⟩
def VZ:Value->Nat|E s=>s.size|_=>0
theorem Va(h:l.all Da=true):(Jc Z (num l)).length<=l.length:=by
 refine JK Jf (AC (Nq h) (CR ?_ _));unfold Z;omega
theorem Vb{a:ByteArray}{b:List UInt8}(e:c=num (Je (a.extract 0 n)))(g:n=(a.size-1)%19+1)(i:n<=a.size)(d:b=[]\/a.size%19=0)(f:0<a.size):c+num b*10000000000000000000=num (b++Je (a.extract 0 n)):=by
 have hl:(Je (a.extract 0 n)).length=n:=by rw[JG,Cx];omega
 rw[Ki,hl,<-e];rcases d with rfl|d
 . simp[num,EF,val]
 . have:n=19:=Y
   rw[this,As]
theorem Vc{m l over:Nat}(j:c<Z)(hl:l=(Jc Z m).length)(h:XD (c::List.replicate l 0) (Jc Z m) 0 10000000000000000000 l over q):
 (c::List.replicate l 0)[l]?.getD 0+over<Z/\Jy (q++[(c::List.replicate l 0)[l]?.getD 0+over])=Jc Z (c+m*10000000000000000000):=by
 obtain⟨d,g,i,a⟩:=h;have o:val Z (Jc Z m)=m:=Jo Jf m;rw[AE]at a;have p:∀k,val Z (List.replicate k 0)=0:=by
  intro k;induction k with
  |zero=>rfl
  |succ k r=>rw[C7,J5,r];rfl
 have e:(Jc Z m).take l=Jc Z m:=Ad Y;rw[e,o]at a;have b:(c::List.replicate l 0)[l]?.getD 0+over<Z/\val Z (q++[(c::List.replicate l 0)[l]?.getD 0+over])=c+m*10000000000000000000:=by
  cases l with
  |zero=>
   have n:m=0:=by
    have:Jc Z m=[]:=Ap hl.symm;exact(JC Jf).1 this
   subst n;have hq:q=[]:=Ap d;subst hq;simp[val]at a;subst a;simp[val];exact j
  |succ l=>
   have f:(c::List.replicate (l+1) 0)[l+1]?.getD 0=0:=O
   rw[f,A8];refine⟨i,?_⟩;rw[YG,d,a,List.take_succ_cons,J5,List.take_replicate,p];omega
 refine⟨b.1,?_⟩;rw[<-J9 Jf (g.append (DS.cons b.1 (DS.nil _))),b.2]
theorem Vd{r d:Nat}(h:r+d<Z):IntKind.u64.wrap ((r:Int)+d)=((r+d:Nat):Int):=by
 unfold Z at h;rw[IntKind.wrap_u64];omega
theorem Ve{a:F}{nb l:Nat}(d:DV a nb (Db (c::List.replicate l 0) 0 l q))(hq:q.length=l):
 a.cell? ⟨nb,l,none⟩=some (.int .u64 ((c::List.replicate l 0)[l]?.getD 0:Nat))/\a.frozen? ⟨nb,l,none⟩=false/\∀v,DV (a.setCell ⟨nb,l,none⟩ (.int .u64 (v:Nat))) nb (q++[v]):=by
 have b:Db (c::List.replicate l 0) 0 l q=q++[(c::List.replicate l 0)[l]?.getD 0]:=by
  have hl:l<(c::List.replicate l 0).length:=O
  rw[Db,CW,Ao,A8,A0 hl,AR O,Ah hl];rfl
 have e:=d.cell (j:=l) (by rw[b];simp;omega);rw[b,AB Y,hq,A3]at e;refine⟨e,d.frozen l,λv=>?_⟩;have:=d.set l v;rw[b,Cz _ _ Y,hq,A3]at this;exact this
theorem Vf(s:ByteArray)(P:(Je s).all Da=true)(hs:s.size<=2000)(w:F):
 G C 199 #[E s] w λe w'=>∃u,e=.returned u/\UN w' u (num (Je s))/\Bl w w':=by
 have HD:=hidR P;clear P;go_enter Tryz.func199,Tryz.ntmps199
 go_wp2;go_loopw [0,3] (λdv rv wr=>∃(b:ByteArray) (f:List UInt8) (a:Option Addr) (l cap:Nat),dv=E b/\rv=B a l cap/\b.size<=2000/\l<=2000/\UN wr (B a l cap) (num f)/\Hid (Je s=f++Je b/\(f=[]\/b.size%19=0))/\Bl w wr) λdv _ _=>VZ dv
 case atStart=>exact⟨s,[],none,0,0,rfl,rfl,hs,Y,by unfold UN;simp[num,EF,val,Jz];exact Row.nil _ _,⟨O,Or.inl rfl⟩,BB _ _⟩
 case round=>
  obtain⟨b,f,a,l,cap,rfl,rfl,an,hl,m,v,X⟩:=hrel;by_cases h0:b.size=0
  . have Qb:Je b=[]:=Ap (by rw[JG];exact h0);have e:f=Je s:=by rw[v.o.1,Qb,Cl]
    have HE:=hidR e;have hz:b.size<=0:=Y
    clear e Qb h0;go_wp2;go_ret;exact⟨_,rfl,by rw[<-HE.o];exact m,X⟩
  . have ae:0<b.size:=Y
    obtain⟨n,hn⟩:∃n,n=(b.size-1)%19+1:=⟨_,rfl⟩;have En:=hidR (show(((b.size:Int)-1)%19+1)=(n:Int)by omega);have Qw:n<=b.size:=Y
    have k:=hidR hn;clear hn;go_upto_region 4 with fail
    rw[En.o];have Q:(Je (b.extract 0 n)).all Da=true:=by
     have g:=HD.o;rw[v.o.1,Fv,AM]at g;rw[Nr,A4];intro c t;exact A4.1 g.2 c (FK t)
    have A:(b.extract 0 n).size=n:=by rw[Cx];omega
    have U:num (Je (b.extract 0 n))<10000000000000000000:=by
     have g:=Nq Q;rw[JG,A]at g;have L:(10:Nat)^n<=10^19:=Aw Y (by have:=k.o;omega);have h3:(10:Nat)^19=10000000000000000000:=DQ
     omega
    have R:=hidR λV=>VY (b.extract 0 n) Q (by rw[A];have:=k.o;omega) (by rw[A];have:=k.o;omega) V;obtain⟨c,t⟩:∃c,c=num (Je (b.extract 0 n)):=⟨_,rfl⟩;rw[<-t]at U R;have Uc:=hidR t;have Qr:=hidR U;clear Q A t U;have ak:0<n:=by have:=k.o;omega
    have T:Hid (Je s=(f++Je (b.extract 0 n))++Je (b.extract n b.size)/\(f++Je (b.extract 0 n)=[]\/(b.extract n b.size).size%19=0)):=by
     refine⟨?_,Or.inr ?_⟩
     . rw[Cf,Nr,Pp,Cn];exact v.o.1
     . rw[Cx];have:=k.o;omega
    have Qu:Hid ((Jc Z (num (f++Je (b.extract 0 n)))).length<=2000):=by
     have g:=HD.o;rw[T.o.1,Fv,AM]at g;have L:=Va g.1;have h3:=Bv List.length T.o.1;rw[Ai,JG]at h3;exact Aq L Y
    have Ua:=Lu l Y;go_upto_region 7 with(first|(go_at_call 205;refine(R.o _).mono ?_;rintro e i ⟨rfl,N⟩))
    obtain⟨I,o⟩:=ex (i.alloc (.cells (cellsOf .u64 (List.replicate (l+1) 0)).toArray 156));have H:DV I i.heap.size (List.replicate (l+1) 0):=DV.made (by rw[<-o];exact BE i _);have x:Bl w i:=Bt X N;have Qp:Bl w I:=by rw[<-o];exact x.alloc x.size _
    have Qq:UN I (B a l cap) (num f):=by rw[<-o];exact Row.below (Row.below m N) (Ba _ _)
    have W:w.heap.size<=i.heap.size:=x.size;have Qn:Hid (∀p,a=some p->0<l->p.block≠i.heap.size):=by
     intro p ep S;obtain⟨_,_,_,_,ah⟩:=Ju m;obtain⟨b',ap,ea,aj,_⟩:=ah 0 S;rw[ep]at ea;cases ea;have:=N.size;simp only;omega
    have Qm:=m.len;have Qy:=hidR Qm;rw[o];clear o Ua N x m Qm R X;generalize i.heap.size=nb at *;have z0:=H.cell (j:=0) O;have z1:=H.frozen 0;go_upto_region 8 with fail
    obtain⟨K,r⟩:=ex (I.setCell ⟨nb,0,none⟩ (.int .u64 (c:Nat)));have Qo:DV K nb (c::List.replicate l 0):=by rw[<-r];have:=H.set 0 c;simpa[List.replicate_succ]using this
    have Qs:Bl w K:=by rw[<-r];exact Qp.setCell W _
    have Ub:UN K (B a l cap) (num f):=by rw[<-r];exact Row.grown Qq (JD _ _ _ _) Qn.o
    rw[r];clear r H Qp Qq z0 z1;have S:=Qo.cell (j:=l) O;obtain⟨y,hy⟩:∃y,y=(c::List.replicate l 0)[l]?.getD 0:=⟨_,rfl⟩;rw[<-hy]at S;have HY:=hidR hy;clear hy;have Qv:=hidR λV (hV:Bl K V)=>Np nb 0 l (l+1) (c::List.replicate l 0) a cap (Jc Z (num f)) 10000000000000000000 V (Qo.below hV) (DS.cons (by have:=Qr.o;unfold Z;omega) λd P=>by rw[CG P];unfold Z;omega) O Y (Row.below Ub hV) (Jp Jf _) Qn.o uo;have i0:(0:Int)<=(l:Int):=Y
    have i1:(l:Int)<(l:Int)+1:=Y
    have i2:(l:Int)<=(l:Int)+1:=Y
    go_region_with (first
     |(go_at_call 163;refine(Qv.o _ ?_).mono ?_;exact(BB _ _).drew;rintro e w4 ⟨over,q,rfl,M,hA4,ad⟩;obtain⟨k1,k2,k3⟩:=Ve hA4 M.1;rw[<-HY.o]at k1;have z:=Vc (by have:=Qr.o;unfold Z;omega) Qy.o M;rw[<-HY.o]at z;have ai:IntKind.u64.wrap ((y:Int)+over)=((y+over:Nat):Int):=Vd z.1;have Qt:=hidR z.2;have Qz:=hidR M.1;clear z M))
    all_goals go_wp2_with fail
    all_goals
     have Qx:DV (w4.setCell ⟨nb,l,none⟩ (.int .u64 ((y:Int)+over))) nb (q++[y+over]):=by
      have:=k3 (y+over);rwa[Int.natCast_add]at this
     have am:q.length=l:=Qz.o;have Qc:=Qx.row 0 (l+1) (l+1) si Y Y Y;rw[AE,Ad si]at Qc;refine(YZ _ _ _ Qc).mono ?_;rintro e w6 ⟨u,rfl,hu,af⟩;rw[Qt.o,Vb Uc.o k.o Qw v.o.2 ae]at hu;have Ud:Bl w w6:=((below_grown Qs.drew ad W).setCell W _).trans (af.mono (by have g:=Qs.size;have L:=ad.size;simp[World.setCell]at L ⊢;omega));obtain⟨au,cu,eu⟩:=UN.form hu;subst eu;go_wp2;go_roundw
     case rel=>exact⟨b.extract n b.size,f++Je (b.extract 0 n),au,_,cu,rfl,rfl,by rw[Cx];omega,Qu.o,hu,T.o,Ud⟩
     case measure=>
      show(b.extract n b.size).size<b.size;rw[Cx];omega
end
open Go.RowKit Go.Shelf
def Ks(b:Bool)(n:Nat):Int:=if b then -(n:Int)else n
variable{l:List UInt8}{n:Nat}{a w:F}
theorem L1(b:Bool)(v:Value)(n:Nat)(w:F)(h:UN w v n):G C 119 #[D b,v] w λe a=>∃u,e=.returned u/\Jm a u (Ks b n)/\Bl w a:=I5 b v n w h
def IG:Value:=.tuple #[.agg #[D false,B none 0 0],D false]
theorem Kt(s:ByteArray)(w:F):G C 70 #[E s,E ⟨#[45]⟩] w λe b=>e=.returned (.tuple #[E ⟨(JM (Je s)).toArray⟩,D (decide ((Je s).head?=some 45))])/\b=w:=by
 refine(Tryz.strings_CutPrefix s ⟨#[45]⟩ w).mono ?_;rintro e b ⟨rfl,rfl⟩;have a:Lib.hasPrefix s.data.toList [45]=decide ((Je s).head?=some 45):=by
  unfold Je Lib.hasPrefix;cases s.data.toList with
  |nil=>rfl
  |cons c l=>
   rw[Cq];simp[List.isPrefixOf];exact eq_comm
 refine⟨?_,rfl⟩;have d:Lib.trimPrefix s.data.toList [45]=JM (Je s):=by
  unfold Lib.trimPrefix JM;rw[a];by_cases h:(Je s).head?=some 45
  . rw[BG (BK h),BG h,FE,List.drop_one];rfl
  . rw[BC (by simp[h]),BC h];rfl
 show Ending.returned (.tuple #[E ⟨(Lib.trimPrefix s.data.toList [45]).toArray⟩,D (Lib.hasPrefix s.data.toList [45])])=_;rw[a,d]
theorem Ns(h:l.length<=2000):good l=(GK (JM l) && !(decide (l.head?=some 45)&&decide (JM l=[48]))):=by
 rw[Cq];simp only[good,GK,AM,BR,C9,Cs,Bg,List.isEmpty_eq_false_iff,Bool.and_eq_false_iff];constructor
 . rintro⟨⟨⟨_,d⟩,b⟩,f⟩;refine⟨⟨f,?_⟩,?_⟩
   . rcases b with b|b
     . exact Or.inr ⟨d,b⟩
     . left;rw[b];rfl
   . rcases b with b|b
     . right;intro e;apply b;rw[e];rfl
     . left;rw[b];simp
 . rintro⟨⟨f,a⟩,c⟩;have d:JM l≠[]:=by
    rcases a with a|a
    . rw[a];simp
    . exact a.1
   refine⟨⟨⟨h,d⟩,?_⟩,f⟩;rcases a with a|a
   . rcases c with c|c
     . right
       have:JM l=l:=by rw[JM,BC c]
       rw[<-this];exact a
     . exact absurd a c
   . exact Or.inl a.2
def XW(l:List UInt8)(w:F)(e:Ending)(a:F):Prop:=
 (good l=true->∃u,e=.returned (.tuple #[u,D true])/\Jm a u (YY l))/\(good l=false->e=.returned IG)/\Bl w a
theorem XW.no(h:good l=false)(c:Bl w a):XW l w (.returned IG) a:=
 ⟨λb=>(by rw[h]at b;cases b),λ_=>rfl,c⟩
theorem XW.yes{u:Value}(h:good l=true)(d:Jm a u (YY l))(c:Bl w a):XW l w (.returned (.tuple #[u,D true])) a:=
 ⟨λ_=>⟨u,rfl,d⟩,λb=>(by rw[h]at b;cases b),c⟩
theorem Vg(s:ByteArray)(b:2000<s.size)(hs:s.size<=140737488351232)(w:F):G C 190 #[E s] w (XW (Je s) w):=by
 have a:=hidR (show good (Je s)=false by
  have:=JG s;simp[good];omega)
 go_enter Tryz.func190,Tryz.ntmps190
 go_wp2_with(first
  |(go_at_call 70;refine(Kt _ _).mono ?_;rintro e c ⟨rfl,rfl⟩))
 exact BA (v:=IG) (by simp[results,Tryz.results190,go_sem,IG]) rfl (XW.no a.o (Ba _ _))
theorem Vh(s:ByteArray)(k:s.size<=2000)(b:GK (JM (Je s))=false)(w:F):G C 190 #[E s] w (XW (Je s) w):=by
 have j:=hidR (show good (Je s)=false by rw[Ns (by rw[JG];exact k),b];rfl);obtain⟨tb,c⟩:=ex ((⟨(JM (Je s)).toArray⟩:ByteArray):ByteArray);obtain⟨n,g⟩:=ex (decide ((Je s).head?=some 45));have a:=λV=>Kt s V;rw[c,g]at a;have d:Je tb=JM (Je s):=by rw[<-c];rfl
 have m:tb.size<=2000:=by
  rw[<-JG,d,JM];have:=JG s;split
  . rw[List.length_tail];omega
  . omega
 have f:=hidR λV=>NW tb Y V;rw[d,b]at f;have i:=hidR a;clear a d b c g;go_enter Tryz.func190,Tryz.ntmps190
 go_wp2_with(first
  |(go_at_call 70;refine(i.o _).mono ?_;rintro e l ⟨rfl,rfl⟩)
  |(go_at_call 198;refine(f.o _).mono ?_;rintro e l ⟨rfl,rfl⟩))
 exact BA (v:=IG) (by simp[results,Tryz.results190,go_sem,IG]) rfl (XW.no j.o (Ba _ _))
theorem Vi(s:ByteArray)(j:s.size<=2000)(d:GK (JM (Je s))=true)(b:(Je s).head?=some 45)(c:JM (Je s)=[48])(w:F):G C 190 #[E s] w (XW (Je s) w):=by
 have g:=hidR (show good (Je s)=false by rw[Ns (by rw[JG];exact j),d,c];simp[b]);have a:=λV=>Kt s V;rw[c,BK b]at a;have i:=hidR λV=>NW ⟨[48].toArray⟩ DQ V;have f:=hidR a;clear a d b c;go_enter Tryz.func190,Tryz.ntmps190
 go_wp2_with(first
  |(go_at_call 70;refine(f.o _).mono ?_;rintro e k ⟨rfl,rfl⟩)
  |(go_at_call 198;refine(i.o _).mono ?_;rintro e k ⟨rfl,rfl⟩))
 exact BA (v:=IG) (by simp[results,Tryz.results190,go_sem,IG]) rfl (XW.no g.o (Ba _ _))
theorem Vj(s tb:ByteArray)(l:Bool)(K:s.size<=2000)(r:Hid (good (Je s)=true))(q:Hid (∀V,G C 70 #[E s,E ⟨#[45]⟩] V λe c=>e=.returned (.tuple #[E tb,D l])/\c=V))
(t:Hid (∀V,G C 198 #[E tb] V λe c=>e=.returned (D true)/\c=V))(x:Hid (∀V,G C 199 #[E tb] V λe c=>∃u,e=.returned u/\UN c u (num (Je tb))/\Bl V c))
(p:l=true->(tb.toList == [48])=false)(y:Hid (YY (Je s)=Ks l (num (Je tb))))(w:F):G C 190 #[E s] w (XW (Je s) w):=by
 have a:=Jn.new w 63 (D false) (B none 0 0);have b:Bl w (w.alloc (.cells #[D false,B none 0 0] 63)):=Ba _ _;cases l
 . clear p;go_enter Tryz.func190,Tryz.ntmps190
   go_wp2_with(first
    |(go_at_call 70;refine(q.o _).mono ?_;rintro e c ⟨rfl,rfl⟩)
    |(go_at_call 198;refine(t.o _).mono ?_;rintro e c ⟨rfl,rfl⟩)
    |(go_at_call 199;refine(x.o _).mono ?_;rintro e H ⟨u,rfl,j,g⟩;obtain⟨z,A,rfl⟩:=j.form;have a:=a.below g;have b:=Bt b g)
    |(go_at_call 119;refine(L1 _ _ _ _ j).mono ?_;rintro e I ⟨v,rfl,k,i⟩;have a:=a.below i;have b:=Bt b i;rw[<-y.o]at k;obtain⟨d,f,c3,rfl,o⟩:=k;obtain⟨q0,q1⟩:=a.cp;obtain⟨f0,f1⟩:=a.fp))
   obtain⟨n,m⟩:=YQ (D (decide (YY (Je s)<0))) (B d f c3) b (Aa _) a rfl rfl o;exact BA (v:=.tuple #[.agg #[D (decide (YY (Je s)<0)),B d f c3],D true]) (by simp[results,Tryz.results190,go_sem,q0,q1]) rfl (XW.yes r.o ⟨d,f,c3,rfl,n⟩ m)
 . have L:=p rfl;clear p;go_enter Tryz.func190,Tryz.ntmps190
   go_wp2_with(first
    |(go_at_call 70;refine(q.o _).mono ?_;rintro e c ⟨rfl,rfl⟩)
    |(go_at_call 198;refine(t.o _).mono ?_;rintro e c ⟨rfl,rfl⟩)
    |(go_at_call 199;refine(x.o _).mono ?_;rintro e H ⟨u,rfl,j,g⟩;obtain⟨z,A,rfl⟩:=j.form;have a:=a.below g;have b:=Bt b g)
    |(go_at_call 119;refine(L1 _ _ _ _ j).mono ?_;rintro e I ⟨v,rfl,k,i⟩;have a:=a.below i;have b:=Bt b i;rw[<-y.o]at k;obtain⟨d,f,c3,rfl,o⟩:=k;obtain⟨q0,q1⟩:=a.cp;obtain⟨f0,f1⟩:=a.fp))
   obtain⟨n,m⟩:=YQ (D (decide (YY (Je s)<0))) (B d f c3) b (Aa _) a rfl rfl o;exact BA (v:=.tuple #[.agg #[D (decide (YY (Je s)<0)),B d f c3],D true]) (by simp[results,Tryz.results190,go_sem,q0,q1]) rfl (XW.yes r.o ⟨d,f,c3,rfl,n⟩ m)
theorem Vk(s:ByteArray)(hs:s.size<=140737488351232)(w:F):G C 190 #[E s] w (XW (Je s) w):=by
 by_cases j:2000<s.size
 . exact Vg s j hs w
 have c:s.size<=2000:=Y
 cases a:GK (JM (Je s))
 . exact Vh s c a w
 by_cases d:(Je s).head?=some 45/\JM (Je s)=[48]
 . exact Vi s c a d.1 d.2 w
 have k:good (Je s)=true:=by
  rw[Ns (by rw[JG];exact c),a];by_cases b:(Je s).head?=some 45
  . have f:¬JM (Je s)=[48]:=λh=>d ⟨b,h⟩;simp[f]
  . simp[b]
 have g:(JM (Je s)).all Da=true:=by
  unfold GK at a;rw[AM]at a;exact a.1
 have e:Je (⟨(JM (Je s)).toArray⟩:ByteArray)=JM (Je s):=rfl;have i:(⟨(JM (Je s)).toArray⟩:ByteArray).size<=2000:=by
  rw[<-JG,e,JM];have:=JG s;split
  . rw[List.length_tail];omega
  . omega
 refine Vj s ⟨(JM (Je s)).toArray⟩ (decide ((Je s).head?=some 45)) c k (λV=>Kt s V) (λV=>?_) (λV=>?_) (λh=>?_) ?_ w
 . have:=NW ⟨(JM (Je s)).toArray⟩ Y V;rw[e,a]at this;exact this
 . exact Vf ⟨(JM (Je s)).toArray⟩ (by rw[e];exact g) i V
 . rw[Lib.toList_data];exact beq_eq_false_iff_ne.2 λf=>d ⟨of_decide_eq_true h,f⟩
 . show YY (Je s)=_;rw[e,YY,Ks];by_cases b:(Je s).head?=some 45
   . simp[b]
   . simp[b]
theorem row_one(W:F)(v:Nat):Row .u64 (W.alloc (.cells #[.int .u64 (v:Nat)] 156)) (B (some ⟨W.heap.size,0,none⟩) 1 1) [v]:=by
 refine⟨_,1,rfl,O,Y,O,Or.inr ⟨W.heap.size,0,rfl,⟨_,_,BE W _⟩,λj a=>?_⟩⟩;have:j=0:=by simp at a;omega
 subst this;exact(BM W 156 (.int .u64 (v:Nat))).cell
theorem Vl(a:n≠0)(h:n<Z):Jc Z n=[n]:=by
 rw[XK Jf a,Cm h,Cb h,Jz]
theorem Vm(h:n<Z):Jy [n]=Jc Z n:=by
 have:=J9 Jf (ds:=[n]) (DS.cons h (DS.nil _));rw[<-this];simp[val]
theorem Vn(N:Nat)(z:N<=9223372036854775807)(w:F):G C 95 #[.int .i64 (N:Int)] w λe m=>∃u,e=.returned u/\Jm m u N/\Bl w m:=by
 have A:¬((N:Int)<0):=Y
 have y:IntKind.u64.wrap (N:Int)=(N:Int):=by rw[IntKind.wrap_u64];omega
 have p:=hidR (Vm (n:=N) uo);have a:=(Jn.new w 63 (D false) (B none 0 0)).alloc (.cells #[.int .u64 (N:Nat)] 156);have b:Bl w ((w.alloc (.cells #[D false,B none 0 0] 63)).alloc (.cells #[.int .u64 (N:Nat)] 156)):=(Ba _ _).alloc O _;have g:=row_one (w.alloc (.cells #[D false,B none 0 0] 63)) N;rw[A1]at g;have i:(N:Int)=Ks false N:=rfl;have o:=hidR i;clear i;go_enter Tryz.func95,Tryz.ntmps95
 go_wp2_with(first
  |(go_at_call 128;refine(YZ _ _ _ g).mono ?_;rintro e H ⟨u,rfl,d,j⟩;rw[p.o]at d;obtain⟨t,x,rfl⟩:=UN.form d;have a:=a.below j;have b:=Bt b j)
  |(go_at_call 119;refine(L1 _ _ _ _ d).mono ?_;rintro e I ⟨v,rfl,l,k⟩;have a:=a.below k;have b:=Bt b k;rw[<-o.o]at l;obtain⟨c,f,c3,rfl,s⟩:=l;obtain⟨q0,q1⟩:=a.cp;obtain⟨f0,f1⟩:=a.fp))
 obtain⟨r,q⟩:=YQ (D (decide ((N:Int)<0))) (B c f c3) b (Aa _) a rfl rfl s;exact BA (v:=.agg #[D (decide ((N:Int)<0)),B c f c3]) (by simp[results,Tryz.results95,go_sem,q0,q1]) rfl ⟨_,rfl,⟨c,f,c3,rfl,r⟩,q⟩
theorem Vo(N:Nat)(t:1<=N)(x:N<=9223372036854775808)(w:F):G C 95 #[.int .i64 (-(N:Int))] w λe k=>∃u,e=.returned u/\Jm k u (-(N:Int))/\Bl w k:=by
 have p:-(N:Int)<0:=Y
 have s:IntKind.u64.wrap (-(IntKind.u64.wrap (-(N:Int))))=(N:Int):=by simp only[IntKind.wrap_u64];omega
 have m:=hidR (Vl (n:=N) Y uo);have a:=(Jn.new w 63 (D false) (B none 0 0)).alloc (.cells #[.int .u64 (N:Nat)] 156);have c:Bl w ((w.alloc (.cells #[D false,B none 0 0] 63)).alloc (.cells #[.int .u64 (N:Nat)] 156)):=(Ba _ _).alloc O _;have b:=row_one (w.alloc (.cells #[D false,B none 0 0] 63)) N;rw[A1,<-m.o]at b;have b:UN ((w.alloc (.cells #[D false,B none 0 0] 63)).alloc (.cells #[.int .u64 (N:Nat)] 156)) (B (some ⟨w.heap.size+1,0,none⟩) 1 1) N:=b;have g:-(N:Int)=Ks true N:=rfl;have l:=hidR g;clear g;go_enter Tryz.func95,Tryz.ntmps95
 go_wp2_with(first
  |(go_at_call 119;refine(L1 _ _ _ _ b).mono ?_;rintro e y ⟨v,rfl,j,i⟩;have a:=a.below i;have c:=Bt c i;rw[<-l.o]at j;obtain⟨d,f,c3,rfl,r⟩:=j;obtain⟨q0,q1⟩:=a.cp;obtain⟨f0,f1⟩:=a.fp))
 obtain⟨q,o⟩:=YQ (D true) (B d f c3) c (Aa _) a rfl rfl r;exact BA (v:=.agg #[D true,B d f c3]) (by simp[results,Tryz.results95,go_sem,q0,q1]) rfl ⟨_,rfl,⟨d,f,c3,by rw[show decide (-(N:Int)<0)=true from BK p],q⟩,o⟩
theorem I7(n:Int)(b:-9223372036854775808<=n)(c:n<=9223372036854775807)(w:F):G C 95 #[.int .i64 n] w λe a=>∃u,e=.returned u/\Jm a u n/\Bl w a:=by
 by_cases h:n<0
 . have e:n=-(n.natAbs:Int):=Y
   rw[e];exact Vo n.natAbs Y Y w
 . have e:n=(n.natAbs:Int):=Y
   rw[e];exact Vn n.natAbs Y w

