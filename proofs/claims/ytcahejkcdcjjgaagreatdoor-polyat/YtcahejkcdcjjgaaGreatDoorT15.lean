import Derived.Test.YtcahejkcdcjjgaaGreatDoorT10
import Derived.Test.YtcahejkcdcjjgaaGreatDoorT09
import Derived.Deep.DeepCutAuto
import Derived.Deep.RegionHeld3
import Derived.Deep.RegionWith
import Derived.Deep.OwnRows
import Derived.Test.YtcahejkcdcjjgaaGreatDoorT04
open Go.Value renaming slice->B,bool->D,string->E
open Go.Proofs.Tryz renaming prog->C
open Go renaming World->F,Calls->G
set_option maxRecDepth 100000
set_option maxHeartbeats 16000000
namespace Go.Proofs.YtcahejkcdcjjgaaGreatDoor
open Go.RowKit Go.Shelf Go.Deep
variable{s:ByteArray}{q:List Nat}{l:List UInt8}{c n:Nat}
theorem hidR{p:Prop}(h:p):Hid p:=h
theorem SC(l:List UInt8)(a:Nat)(h:l.all DY=true)(f:num l+10^l.length*a<18446744073709551616):Lib.parseUintM (2^64-1) a l=.ok (num l+10^l.length*a):=by
 induction l generalizing a with
 |nil=>simp[Lib.parseUintM,num,Dw,val]
 |cons c l g=>
  have d:DY c=true:=A8.1 h c (CB ..);have hl:l.all DY=true:=by rw[List.all_cons,d,Bool.true_and]at h;exact h
  have b:=Ya d;have e:num (c::l)=num l+10^l.length*(c.toNat-48):=by
   have:=XJ [c] l;rw[List.singleton_append]at this;rw[this];congr 2
  have i:num (c::l)+10^(c::l).length*a=num l+10^l.length*(a*10+(c.toNat-48)):=by
   rw[e,Aj,AR,Av,Aw,As 10 a];omega
  rw[i]at f ⊢;have j:1<=10^l.length:=Nat.one_le_pow _ _ om;have k:a*10+(c.toNat-48)<=10^l.length*(a*10+(c.toNat-48)):=Cw _ om;rw[Lib.parseUintM,BI ⟨b.1,b.2⟩,BE om,BE om];exact g _ hl f
theorem Lt(h:l.all DY=true):num l<10^l.length:=by
 have:=Yd (KA h);rwa[II]at this
theorem SF(h:l.all DY=true)(a:l≠[])(b:l.length<=19):Lib.parseUintB 64 l=.ok (num l):=by
 have c:=Lt h;have e:(10:Nat)^l.length<=10^19:=AD om b;have d:(10:Nat)^19<18446744073709551616:=DR
 rw[Lib.parseUintB,BE a,SC l 0 h om];simp
theorem bytesWorld_below(w:F)(e:TypeId)(s:ByteArray):Bl w (Lib.bytesWorld w e s):=by
 unfold Lib.bytesWorld;refine⟨rfl,rfl,rfl,?_,λk a=>?_⟩
 . simp[World.freeze]
 . show(Array.modify _ _ _)[k]?=_;rw[Array.getElem?_modify,BE (show ¬w.heap.size=k by omega)];exact Br w.drew _ k a
theorem Lu:Jd (s.extract 0 n)=(Jd s).take n:=by
 unfold Jd;rw[Lib.extract_data];simp
theorem Nz:Jd (s.extract n s.size)=(Jd s).drop n:=by
 unfold Jd;rw[Lib.extract_data,Ab];have:=Jv s;unfold Jd at this;rw[Ay,this];omega
theorem SH(s:ByteArray)(h:(Jd s).all DY=true)(b:0<s.size)(c:s.size<=19)(w:F):
 G C 171 #[E s,.int .i64 10,.int .i64 64] w λe a=>e=.returned (.tuple #[.int .u64 (num (Jd s):Nat),.nilIface])/\Bl w a:=by
 have hl:=Jv s;refine(Tryz.strconv_ParseUint_10_at64_ok s om _ (SF (l:=Jd s) h (by intro e;rw[e]at hl;simp at hl;omega) om) w).mono ?_;rintro e a ⟨rfl,rfl|rfl⟩
 . exact⟨rfl,BB _ _⟩
 . exact⟨rfl,bytesWorld_below _ _ _⟩
def SI:Value->Nat|E s=>s.size|_=>0
theorem SJ(h:l.all DY=true):(Jc DN (num l)).length<=l.length:=by
 refine JI Je (AC (Lt h) (C9 ?_ _));unfold DN;omega
theorem SK{a:ByteArray}{b:List UInt8}(e:c=num (Jd (a.extract 0 n)))(g:n=(a.size-1)%19+1)(i:n<=a.size)(d:b=[]\/a.size%19=0)(f:0<a.size):c+num b*10000000000000000000=num (b++Jd (a.extract 0 n)):=by
 have hl:(Jd (a.extract 0 n)).length=n:=by rw[Jv,AP];omega
 rw[XJ,hl,<-e];rcases d with rfl|d
 . simp[num,Dw,val]
 . have:n=19:=om
   rw[this,As]
theorem SL{m l over:Nat}(n:c<DN)(hl:l=(Jc DN m).length)(h:Xi (c::List.replicate l 0) (Jc DN m) 0 10000000000000000000 l over q):
 (c::List.replicate l 0)[l]?.getD 0+over<DN/\Jt (q++[(c::List.replicate l 0)[l]?.getD 0+over])=Jc DN (c+m*10000000000000000000):=by
 obtain⟨d,s,j,a⟩:=h;have r:val DN (Jc DN m)=m:=Jm Je m;rw[Au]at a;have e:∀k,val DN (List.replicate k 0)=0:=by
  intro k;induction k with
  |zero=>rfl
  |succ k p=>rw[CS,JX,p];rfl
 have g:(Jc DN m).take l=Jc DN m:=Ab om;rw[g,r]at a;have b:(c::List.replicate l 0)[l]?.getD 0+over<DN/\val DN (q++[(c::List.replicate l 0)[l]?.getD 0+over])=c+m*10000000000000000000:=by
  cases l with
  |zero=>
   have o:m=0:=by
    have:Jc DN m=[]:=Am hl.symm;exact(JB Je).1 this
   subst o;have i:q=[]:=Am d;subst i;simp[val]at a;subst a;simp[val];exact n
  |succ l=>
   have f:(c::List.replicate (l+1) 0)[l+1]?.getD 0=0:=DO
   rw[f,Ck];refine⟨j,?_⟩;rw[Yl,d,a,List.take_succ_cons,JX,List.take_replicate,e];omega
 refine⟨b.1,?_⟩;rw[<-JU Je (s.append (DP.cons b.1 (DP.nil _))),b.2]
theorem SM{r d:Nat}(h:r+d<DN):IntKind.u64.wrap ((r:Int)+d)=((r+d:Nat):Int):=by
 unfold DN at h;rw[IntKind.wrap_u64];omega
theorem SN{a:F}{nb l:Nat}(b:DU a nb (Da (c::List.replicate l 0) 0 l q))(e:q.length=l):
 a.cell? ⟨nb,l,none⟩=some (.int .u64 ((c::List.replicate l 0)[l]?.getD 0:Nat))/\a.frozen? ⟨nb,l,none⟩=false/\∀v,DU (a.setCell ⟨nb,l,none⟩ (.int .u64 (v:Nat))) nb (q++[v]):=by
 have d:Da (c::List.replicate l 0) 0 l q=q++[(c::List.replicate l 0)[l]?.getD 0]:=by
  have hl:l<(c::List.replicate l 0).length:=DO
  rw[Da,CK,Ap,Ck,AM hl,At DO,Af hl];rfl
 have f:=b.cell (j:=l) (by rw[d];simp;omega);rw[d,AJ om,e,A0]at f;refine⟨f,b.frozen l,λv=>?_⟩;have:=b.set l v;rw[d,Cr _ _ om,e,A0]at this;exact this
theorem SO(s:ByteArray)(K:(Jd s).all DY=true)(hs:s.size<=2000)(w:F):
 G C 139 #[E s] w λe w'=>∃u,e=.returned u/\UN w' u (num (Jd s))/\Bl w w':=by
 have HD:=hidR K;clear K;go_enter Tryz.func139,Tryz.ntmps139
 go_wp2;go_loopw [0,3] (λdv rv wr=>∃(b:ByteArray) (f:List UInt8) (a:Option Addr) (l cap:Nat),dv=E b/\rv=B a l cap/\b.size<=2000/\l<=2000/\UN wr (B a l cap) (num f)/\Hid (Jd s=f++Jd b/\(f=[]\/b.size%19=0))/\Bl w wr) (λdv _ _=>SI dv)
 case atStart=>exact⟨s,[],none,0,0,rfl,rfl,hs,om,by unfold UN;simp[num,Dw,val,Jy];exact Row.nil _ _,⟨DO,Or.inl rfl⟩,BB _ _⟩
 case round=>
  obtain⟨b,f,a,l,cap,rfl,rfl,ai,hl,t,H,U⟩:=hrel;by_cases h0:b.size=0
  . have Qb:Jd b=[]:=Am (by rw[Jv];exact h0);have e:f=Jd s:=by rw[H.o.1,Qb,Cm]
    have HE:=hidR e;have hz:b.size<=0:=om
    clear e Qb h0;go_wp2;go_ret;exact⟨_,rfl,by rw[<-HE.o];exact t,U⟩
  . have ah:0<b.size:=om
    obtain⟨n,hn⟩:∃n,n=(b.size-1)%19+1:=⟨_,rfl⟩;have En:=hidR (show(((b.size:Int)-1)%19+1)=(n:Int)by omega);have Ud:n<=b.size:=om
    have k:=hidR hn;clear hn;go_upto_region 4 with fail
    rw[En.o];have T:(Jd (b.extract 0 n)).all DY=true:=by
     have g:=HD.o;rw[H.o.1,CT,AA]at g;rw[Lu,A8];intro c o;exact A8.1 g.2 c (Fm o)
    have L:(b.extract 0 n).size=n:=by rw[AP];omega
    have O:num (Jd (b.extract 0 n))<10000000000000000000:=by
     have g:=Lt T;rw[Jv,L]at g;have M:(10:Nat)^n<=10^19:=AD om (by have:=k.o;omega);have h3:(10:Nat)^19=10000000000000000000:=DR
     omega
    have S:=hidR (λV=>SH (b.extract 0 n) T (by rw[L];have:=k.o;omega) (by rw[L];have:=k.o;omega) V);obtain⟨c,o⟩:∃c,c=num (Jd (b.extract 0 n)):=⟨_,rfl⟩;rw[<-o]at O S;have Qt:=hidR o;have Qo:=hidR O;clear T L o O;have av:0<n:=by have:=k.o;omega
    have W:Hid (Jd s=(f++Jd (b.extract 0 n))++Jd (b.extract n b.size)/\(f++Jd (b.extract 0 n)=[]\/(b.extract n b.size).size%19=0)):=by
     refine⟨?_,Or.inr ?_⟩
     . rw[Ch,Lu,Nz,Cg];exact H.o.1
     . rw[AP];have:=k.o;omega
    have Qx:Hid ((Jc DN (num (f++Jd (b.extract 0 n)))).length<=2000):=by
     have g:=HD.o;rw[W.o.1,CT,AA]at g;have M:=SJ g.1;have h3:=Bs List.length W.o.1;rw[Al,Jv]at h3;exact AE M om
    have Qu:=KU l om;go_upto_region 7 with(first|(go_at_call 171;refine(S.o _).mono ?_;rintro e i ⟨rfl,N⟩))
    obtain⟨I,r⟩:=ex (i.alloc (.cells (cellsOf .u64 (List.replicate (l+1) 0)).toArray 163));have J:DU I i.heap.size (List.replicate (l+1) 0):=DU.made (by rw[<-r];exact BC i _);have v:Bl w i:=Bt U N;have Qp:Bl w I:=by rw[<-r];exact v.alloc v.size _
    have Qr:UN I (B a l cap) (num f):=by rw[<-r];exact Row.below (Row.below t N) (Ba _ _)
    have Y:w.heap.size<=i.heap.size:=v.size;have Qs:Hid (∀p,a=some p->0<l->p.block≠i.heap.size):=by
     intro p ep P;obtain⟨_,_,_,_,af⟩:=Js t;obtain⟨b',ak,ea,ap,_⟩:=af 0 P;rw[ep]at ea;cases ea;have:=N.size;simp only;omega
    have Z:=t.len;have Qz:=hidR Z;rw[r];clear r Qu N v t Z S U;generalize i.heap.size=nb at *;have z0:=J.cell (j:=0) DO;have z1:=J.frozen 0;go_upto_region 8 with fail
    obtain⟨A,m⟩:=ex (I.setCell ⟨nb,0,none⟩ (.int .u64 (c:Nat)));have X:DU A nb (c::List.replicate l 0):=by rw[<-m];have:=J.set 0 c;simpa[List.replicate_succ]using this
    have Qq:Bl w A:=by rw[<-m];exact Qp.setCell Y _
    have Ua:UN A (B a l cap) (num f):=by rw[<-m];exact Row.grown Qr (JD _ _ _ _) Qs.o
    rw[m];clear m J Qp Qr z0 z1;have P:=X.cell (j:=l) DO;have an:=X.frozen l;obtain⟨y,Q⟩:∃y,y=(c::List.replicate l 0)[l]?.getD 0:=⟨_,rfl⟩;rw[<-Q]at P;have HY:=hidR Q;clear Q;have Qw:=hidR (λV (hV:Bl A V)=>Ls nb 0 l (l+1) (c::List.replicate l 0) a cap (Jc DN (num f)) 10000000000000000000 V (X.below hV) (DP.cons (by have:=Qo.o;unfold DN;omega) (λd K=>by rw[Cy K];unfold DN;omega)) DO om (Row.below Ua hV) (Jo Je _) Qs.o uo);have i0:(0:Int)<=(l:Int):=om
    have i1:(l:Int)<(l:Int)+1:=om
    have i2:(l:Int)<=(l:Int)+1:=om
    go_region_with (first
     |(go_at_call 172;refine(Qw.o _ ?_).mono ?_;exact(BB _ _).drew;rintro e w4 ⟨over,q,rfl,x,hA4,ad⟩;obtain⟨k1,k2,k3⟩:=SN hA4 x.1;rw[<-HY.o]at k1;have z:=SL (by have:=Qo.o;unfold DN;omega) Qz.o x;rw[<-HY.o]at z;have aj:IntKind.u64.wrap ((y:Int)+over)=((y+over:Nat):Int):=SM z.1;have Qv:=hidR z.2;have Qy:=hidR x.1;clear z x))
    all_goals go_wp2_with fail
    all_goals
     have Ub:DU (w4.setCell ⟨nb,l,none⟩ (.int .u64 ((y:Int)+over))) nb (q++[y+over]):=by
      have:=k3 (y+over);rwa[Int.natCast_add]at this
     have aq:q.length=l:=Qy.o;have Qc:=Ub.row 0 (l+1) (l+1) si om om om;rw[Au,Ab si]at Qc;refine(YK _ _ _ Qc).mono ?_;rintro e w6 ⟨u,rfl,R,ae⟩;rw[Qv.o,SK Qt.o k.o Ud H.o.2 ah]at R;have Uc:Bl w w6:=((below_grown Qq.drew ad Y).setCell Y _).trans (ae.mono (by have g:=Qq.size;have M:=ad.size;simp[World.setCell]at M ⊢;omega));obtain⟨au,cu,eu⟩:=UN.form R;subst eu;go_wp2;go_roundw
     case rel=>exact⟨b.extract n b.size,f++Jd (b.extract 0 n),au,_,cu,rfl,rfl,by rw[AP];omega,Qx.o,R,W.o,Uc⟩
     case measure=>
      show(b.extract n b.size).size<b.size;rw[AP];omega
end Go.Proofs.YtcahejkcdcjjgaaGreatDoor
namespace Go.Proofs.YtcahejkcdcjjgaaGreatDoor
open Go.RowKit Go.Shelf
def IW(b:Bool)(n:Nat):Int:=if b then -(n:Int)else n
variable{l:List UInt8}{n:Nat}{a w:F}
theorem KY(b:Bool)(v:Value)(n:Nat)(w:F)(h:UN w v n):G C 112 #[D b,v] w λe a=>∃u,e=.returned u/\Jk a u (IW b n)/\Bl w a:=Hf b v n w h
def GF:Value:=.tuple #[.agg #[D false,B none 0 0],D false]
theorem IX(s:ByteArray)(w:F):G C 96 #[E s,E ⟨#[45]⟩] w λe b=>e=.returned (.tuple #[E ⟨(JF (Jd s)).toArray⟩,D (decide ((Jd s).head?=some 45))])/\b=w:=by
 refine(Tryz.strings_CutPrefix s ⟨#[45]⟩ w).mono ?_;rintro e b ⟨rfl,rfl⟩;have a:Lib.hasPrefix s.data.toList [45]=decide ((Jd s).head?=some 45):=by
  unfold Jd Lib.hasPrefix;cases s.data.toList with
  |nil=>rfl
  |cons c l=>
   rw[Cn];simp[List.isPrefixOf];exact eq_comm
 refine⟨?_,rfl⟩;have d:Lib.trimPrefix s.data.toList [45]=JF (Jd s):=by
  unfold Lib.trimPrefix JF;rw[a];by_cases h:(Jd s).head?=some 45
  . rw[BI (BJ h),BI h,Fh,List.drop_one];rfl
  . rw[BE (by simp[h]),BE h];rfl
 show Ending.returned (.tuple #[E ⟨(Lib.trimPrefix s.data.toList [45]).toArray⟩,D (Lib.hasPrefix s.data.toList [45])])=_;rw[a,d]
theorem Lv(h:l.length<=2000):good l=(Ez (JF l) && !(decide (l.head?=some 45)&&decide (JF l=[48]))):=by
 rw[Cn];simp only[good,Ez,AA,BQ,CL,Cl,Be,List.isEmpty_eq_false_iff,Bool.and_eq_false_iff];constructor
 . rintro⟨⟨⟨_,d⟩,b⟩,f⟩;refine⟨⟨f,?_⟩,?_⟩
   . rcases b with b|b
     . exact Or.inr ⟨d,b⟩
     . left;rw[b];rfl
   . rcases b with b|b
     . right;intro e;apply b;rw[e];rfl
     . left;rw[b];simp
 . rintro⟨⟨f,a⟩,c⟩;have d:JF l≠[]:=by
    rcases a with a|a
    . rw[a];simp
    . exact a.1
   refine⟨⟨⟨h,d⟩,?_⟩,f⟩;rcases a with a|a
   . rcases c with c|c
     . right
       have:JF l=l:=by rw[JF,BE c]
       rw[<-this];exact a
     . exact absurd a c
   . exact Or.inl a.2
def Xy(l:List UInt8)(w:F)(e:Ending)(a:F):Prop:=
 (good l=true->∃u,e=.returned (.tuple #[u,D true])/\Jk a u (Ym l))/\(good l=false->e=.returned GF)/\Bl w a
theorem Xy.no(h:good l=false)(c:Bl w a):Xy l w (.returned GF) a:=
 ⟨λb=>(by rw[h]at b;cases b),λ_=>rfl,c⟩
theorem Xy.yes{u:Value}(h:good l=true)(d:Jk a u (Ym l))(c:Bl w a):Xy l w (.returned (.tuple #[u,D true])) a:=
 ⟨λ_=>⟨u,rfl,d⟩,λb=>(by rw[h]at b;cases b),c⟩
theorem SP(s:ByteArray)(b:2000<s.size)(hs:s.size<=140737488351232)(w:F):G C 103 #[E s] w (Xy (Jd s) w):=by
 have a:=hidR (show good (Jd s)=false by
  have:=Jv s;simp[good];omega)
 go_enter Tryz.func103,Tryz.ntmps103
 go_wp2_with(first
  |(go_at_call 96;refine(IX _ _).mono ?_;rintro e c ⟨rfl,rfl⟩))
 exact BA (v:=GF) (by simp[results,Tryz.results103,go_sem,GF]) rfl (Xy.no a.o (Ba _ _))
theorem SQ(s:ByteArray)(j:s.size<=2000)(f:Ez (JF (Jd s))=false)(w:F):G C 103 #[E s] w (Xy (Jd s) w):=by
 have m:=hidR (show good (Jd s)=false by rw[Lv (by rw[Jv];exact j),f];rfl);obtain⟨b,a⟩:=ex ((⟨(JF (Jd s)).toArray⟩:ByteArray):ByteArray);obtain⟨o,g⟩:=ex (decide ((Jd s).head?=some 45));have c:=λV=>IX s V;rw[a,g]at c;have d:Jd b=JF (Jd s):=by rw[<-a];rfl
 have n:b.size<=2000:=by
  rw[<-Jv,d,JF];have:=Jv s;split
  . rw[List.length_tail];omega
  . omega
 have i:=hidR (λV=>Lc b om V);rw[d,f]at i;have k:=hidR c;clear c d f a g;go_enter Tryz.func103,Tryz.ntmps103
 go_wp2_with(first
  |(go_at_call 96;refine(k.o _).mono ?_;rintro e l ⟨rfl,rfl⟩)
  |(go_at_call 138;refine(i.o _).mono ?_;rintro e l ⟨rfl,rfl⟩))
 exact BA (v:=GF) (by simp[results,Tryz.results103,go_sem,GF]) rfl (Xy.no m.o (Ba _ _))
theorem SR(s:ByteArray)(f:s.size<=2000)(d:Ez (JF (Jd s))=true)(c:(Jd s).head?=some 45)(a:JF (Jd s)=[48])(w:F):G C 103 #[E s] w (Xy (Jd s) w):=by
 have k:=hidR (show good (Jd s)=false by rw[Lv (by rw[Jv];exact f),d,a];simp[c]);have b:=λV=>IX s V;rw[a,BJ c]at b;have g:=hidR (λV=>Lc ⟨[48].toArray⟩ DR V);have i:=hidR b;clear b d c a;go_enter Tryz.func103,Tryz.ntmps103
 go_wp2_with(first
  |(go_at_call 96;refine(i.o _).mono ?_;rintro e j ⟨rfl,rfl⟩)
  |(go_at_call 138;refine(g.o _).mono ?_;rintro e j ⟨rfl,rfl⟩))
 exact BA (v:=GF) (by simp[results,Tryz.results103,go_sem,GF]) rfl (Xy.no k.o (Ba _ _))
theorem SU(s g:ByteArray)(m:Bool)(L:s.size<=2000)(z:Hid (good (Jd s)=true))(t:Hid (∀V,G C 96 #[E s,E ⟨#[45]⟩] V λe c=>e=.returned (.tuple #[E g,D m])/\c=V))
(r:Hid (∀V,G C 138 #[E g] V λe c=>e=.returned (D true)/\c=V))(y:Hid (∀V,G C 139 #[E g] V λe c=>∃u,e=.returned u/\UN c u (num (Jd g))/\Bl V c))
(q:m=true->(g.toList == [48])=false)(x:Hid (Ym (Jd s)=IW m (num (Jd g))))(w:F):G C 103 #[E s] w (Xy (Jd s) w):=by
 have a:=Jj.new w 36 (D false) (B none 0 0);have b:Bl w (w.alloc (.cells #[D false,B none 0 0] 36)):=Ba _ _;cases m
 . clear q;go_enter Tryz.func103,Tryz.ntmps103
   go_wp2_with(first
    |(go_at_call 96;refine(t.o _).mono ?_;rintro e c ⟨rfl,rfl⟩)
    |(go_at_call 138;refine(r.o _).mono ?_;rintro e c ⟨rfl,rfl⟩)
    |(go_at_call 139;refine(y.o _).mono ?_;rintro e I ⟨u,rfl,i,l⟩;obtain⟨A,J,rfl⟩:=i.form;have a:=a.below l;have b:=Bt b l)
    |(go_at_call 112;refine(KY _ _ _ _ i).mono ?_;rintro e H ⟨v,rfl,k,j⟩;have a:=a.below j;have b:=Bt b j;rw[<-x.o]at k;obtain⟨f,d,c3,rfl,o⟩:=k;obtain⟨q0,q1⟩:=a.cp;obtain⟨f0,f1⟩:=a.fp))
   obtain⟨p,n⟩:=J5 (D (decide (Ym (Jd s)<0))) (B f d c3) b (Aa _) a rfl rfl o;exact BA (v:=.tuple #[.agg #[D (decide (Ym (Jd s)<0)),B f d c3],D true]) (by simp[results,Tryz.results103,go_sem,q0,q1]) rfl (Xy.yes z.o ⟨f,d,c3,rfl,p⟩ n)
 . have K:=q rfl;clear q;go_enter Tryz.func103,Tryz.ntmps103
   go_wp2_with(first
    |(go_at_call 96;refine(t.o _).mono ?_;rintro e c ⟨rfl,rfl⟩)
    |(go_at_call 138;refine(r.o _).mono ?_;rintro e c ⟨rfl,rfl⟩)
    |(go_at_call 139;refine(y.o _).mono ?_;rintro e I ⟨u,rfl,i,l⟩;obtain⟨A,J,rfl⟩:=i.form;have a:=a.below l;have b:=Bt b l)
    |(go_at_call 112;refine(KY _ _ _ _ i).mono ?_;rintro e H ⟨v,rfl,k,j⟩;have a:=a.below j;have b:=Bt b j;rw[<-x.o]at k;obtain⟨f,d,c3,rfl,o⟩:=k;obtain⟨q0,q1⟩:=a.cp;obtain⟨f0,f1⟩:=a.fp))
   obtain⟨p,n⟩:=J5 (D (decide (Ym (Jd s)<0))) (B f d c3) b (Aa _) a rfl rfl o;exact BA (v:=.tuple #[.agg #[D (decide (Ym (Jd s)<0)),B f d c3],D true]) (by simp[results,Tryz.results103,go_sem,q0,q1]) rfl (Xy.yes z.o ⟨f,d,c3,rfl,p⟩ n)
theorem SV(s:ByteArray)(hs:s.size<=140737488351232)(w:F):G C 103 #[E s] w (Xy (Jd s) w):=by
 by_cases g:2000<s.size
 . exact SP s g hs w
 have e:s.size<=2000:=om
 cases a:Ez (JF (Jd s))
 . exact SQ s e a w
 by_cases c:(Jd s).head?=some 45/\JF (Jd s)=[48]
 . exact SR s e a c.1 c.2 w
 have k:good (Jd s)=true:=by
  rw[Lv (by rw[Jv];exact e),a];by_cases b:(Jd s).head?=some 45
  . have f:¬JF (Jd s)=[48]:=λh=>c ⟨b,h⟩;simp[f]
  . simp[b]
 have j:(JF (Jd s)).all DY=true:=by
  unfold Ez at a;rw[AA]at a;exact a.1
 have d:Jd (⟨(JF (Jd s)).toArray⟩:ByteArray)=JF (Jd s):=rfl;have i:(⟨(JF (Jd s)).toArray⟩:ByteArray).size<=2000:=by
  rw[<-Jv,d,JF];have:=Jv s;split
  . rw[List.length_tail];omega
  . omega
 refine SU s ⟨(JF (Jd s)).toArray⟩ (decide ((Jd s).head?=some 45)) e k (λV=>IX s V) (λV=>?_) (λV=>?_) (λh=>?_) ?_ w
 . have:=Lc ⟨(JF (Jd s)).toArray⟩ om V;rw[d,a]at this;exact this
 . exact SO ⟨(JF (Jd s)).toArray⟩ (by rw[d];exact j) i V
 . rw[Lib.toList_data];exact beq_eq_false_iff_ne.2 (λf=>c ⟨of_decide_eq_true h,f⟩)
 . show Ym (Jd s)=_;rw[d,Ym,IW];by_cases b:(Jd s).head?=some 45
   . simp[b]
   . simp[b]
theorem row_one(W:F)(v:Nat):Row .u64 (W.alloc (.cells #[.int .u64 (v:Nat)] 163)) (B (some ⟨W.heap.size,0,none⟩) 1 1) [v]:=by
 refine⟨_,1,rfl,DO,om,DO,Or.inr ⟨W.heap.size,0,rfl,⟨_,_,BC W _⟩,λj a=>?_⟩⟩;have:j=0:=by simp at a;omega
 subst this;exact(BK W 163 (.int .u64 (v:Nat))).cell
theorem SW(a:n≠0)(h:n<DN):Jc DN n=[n]:=by
 rw[Xo Je a,Cp h,Cj h,Jy]
theorem SX(h:n<DN):Jt [n]=Jc DN n:=by
 have:=JU Je (ds:=[n]) (DP.cons h (DP.nil _));rw[<-this];simp[val]
theorem SY(a:Nat)(H:a<=9223372036854775807)(w:F):G C 110 #[.int .i64 (a:Int)] w λe m=>∃u,e=.returned u/\Jk m u a/\Bl w m:=by
 have x:¬((a:Int)<0):=om
 have J:IntKind.u64.wrap (a:Int)=(a:Int):=by rw[IntKind.wrap_u64];omega
 have s:=hidR (SX (n:=a) uo);have b:=(Jj.new w 36 (D false) (B none 0 0)).alloc (.cells #[.int .u64 (a:Nat)] 163);have c:Bl w ((w.alloc (.cells #[D false,B none 0 0] 36)).alloc (.cells #[.int .u64 (a:Nat)] 163)):=(Ba _ _).alloc DO _;have k:=row_one (w.alloc (.cells #[D false,B none 0 0] 36)) a;rw[A1]at k;have l:(a:Int)=IW false a:=rfl;have t:=hidR l;clear l;go_enter Tryz.func110,Tryz.ntmps110
 go_wp2_with(first
  |(go_at_call 132;refine(YK _ _ _ k).mono ?_;rintro e A ⟨u,rfl,d,o⟩;rw[s.o]at d;obtain⟨y,I,rfl⟩:=UN.form d;have b:=b.below o;have c:=Bt c o)
  |(go_at_call 112;refine(KY _ _ _ _ d).mono ?_;rintro e z ⟨v,rfl,j,i⟩;have b:=b.below i;have c:=Bt c i;rw[<-t.o]at j;obtain⟨g,f,c3,rfl,q⟩:=j;obtain⟨q0,q1⟩:=b.cp;obtain⟨f0,f1⟩:=b.fp))
 obtain⟨r,p⟩:=J5 (D (decide ((a:Int)<0))) (B g f c3) c (Aa _) b rfl rfl q;exact BA (v:=.agg #[D (decide ((a:Int)<0)),B g f c3]) (by simp[results,Tryz.results110,go_sem,q0,q1]) rfl ⟨_,rfl,⟨g,f,c3,rfl,r⟩,p⟩
theorem SZ(a:Nat)(x:1<=a)(y:a<=9223372036854775808)(w:F):G C 110 #[.int .i64 (-(a:Int))] w λe l=>∃u,e=.returned u/\Jk l u (-(a:Int))/\Bl w l:=by
 have p:-(a:Int)<0:=om
 have z:IntKind.u64.wrap (-(IntKind.u64.wrap (-(a:Int))))=(a:Int):=by simp only[IntKind.wrap_u64];omega
 have r:=hidR (SW (n:=a) om uo);have b:=(Jj.new w 36 (D false) (B none 0 0)).alloc (.cells #[.int .u64 (a:Nat)] 163);have d:Bl w ((w.alloc (.cells #[D false,B none 0 0] 36)).alloc (.cells #[.int .u64 (a:Nat)] 163)):=(Ba _ _).alloc DO _;have c:=row_one (w.alloc (.cells #[D false,B none 0 0] 36)) a;rw[A1,<-r.o]at c;have c:UN ((w.alloc (.cells #[D false,B none 0 0] 36)).alloc (.cells #[.int .u64 (a:Nat)] 163)) (B (some ⟨w.heap.size+1,0,none⟩) 1 1) a:=c;have k:-(a:Int)=IW true a:=rfl;have s:=hidR k;clear k;go_enter Tryz.func110,Tryz.ntmps110
 go_wp2_with(first
  |(go_at_call 112;refine(KY _ _ _ _ c).mono ?_;rintro e t ⟨v,rfl,j,i⟩;have b:=b.below i;have d:=Bt d i;rw[<-s.o]at j;obtain⟨g,f,c3,rfl,o⟩:=j;obtain⟨q0,q1⟩:=b.cp;obtain⟨f0,f1⟩:=b.fp))
 obtain⟨q,m⟩:=J5 (D true) (B g f c3) d (Aa _) b rfl rfl o;exact BA (v:=.agg #[D true,B g f c3]) (by simp[results,Tryz.results110,go_sem,q0,q1]) rfl ⟨_,rfl,⟨g,f,c3,by rw[show decide (-(a:Int)<0)=true from BJ p],q⟩,m⟩
theorem KZ(n:Int)(c:-9223372036854775808<=n)(b:n<=9223372036854775807)(w:F):G C 110 #[.int .i64 n] w λe a=>∃u,e=.returned u/\Jk a u n/\Bl w a:=by
 by_cases h:n<0
 . have e:n=-(n.natAbs:Int):=om
   rw[e];exact SZ n.natAbs om om w
 . have e:n=(n.natAbs:Int):=om
   rw[e];exact SY n.natAbs om w
