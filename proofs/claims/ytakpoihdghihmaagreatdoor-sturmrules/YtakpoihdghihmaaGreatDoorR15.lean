import Derived.Test.YtakpoihdghihmaaGreatDoorR10
import Derived.Test.YtakpoihdghihmaaGreatDoorR09
import Derived.Deep.DeepCutAuto
import Derived.Deep.RegionHeld3
import Derived.Deep.RegionWith
import Derived.Deep.OwnRows
import Derived.Test.YtakpoihdghihmaaGreatDoorR04
open Go.Value renaming slice->B,bool->D,string->E
open Go.Proofs.Tryz renaming prog->C
open Go renaming World->F,Calls->G
set_option maxRecDepth 100000
set_option maxHeartbeats 16000000
namespace Go.Proofs.YtakpoihdghihmaaGreatDoor
section
open Go.RowKit Go.Shelf Go.Deep
variable{s:ByteArray}{q:List Nat}{l:List UInt8}{c n:Nat}
theorem hidR{p:Prop}(h:p):Hid p:=h
theorem U6(l:List UInt8)(a:Nat)(h:l.all DX=true)(d:num l+10^l.length*a<18446744073709551616):Lib.parseUintM (2^64-1) a l=.ok (num l+10^l.length*a):=by
 induction l generalizing a with
 |nil=>simp[Lib.parseUintM,num,Dz,val]
 |cons c l i=>
  have f:DX c=true:=Ca.1 h c (Cc ..);have hl:l.all DX=true:=by rw[List.all_cons,f,Bool.true_and]at h;exact h
  have b:=Y3 f;have e:num (c::l)=num l+10^l.length*(c.toNat-48):=by
   have:=Mp [c] l;rw[List.singleton_append]at this;rw[this];congr 2
  have g:num (c::l)+10^(c::l).length*a=num l+10^l.length*(a*10+(c.toNat-48)):=by
   rw[e,Ah,A4,AN,AH,At 10 a];omega
  rw[g]at d ⊢;have hp:1<=10^l.length:=Nat.one_le_pow _ _ Y;have j:a*10+(c.toNat-48)<=10^l.length*(a*10+(c.toNat-48)):=C3 _ Y;rw[Lib.parseUintM,BC ⟨b.1,b.2⟩,BB Y,BB Y];exact i _ hl d
theorem NO(h:l.all DX=true):num l<10^l.length:=by
 have:=YN (K9 h);rwa[KT]at this
theorem U7(h:l.all DX=true)(a:l≠[])(b:l.length<=19):Lib.parseUintB 64 l=.ok (num l):=by
 have c:=NO h;have d:(10:Nat)^l.length<=10^19:=AF Y b;rw[Lib.parseUintB,BB a,U6 l 0 h Y];simp
theorem bytesWorld_below(w:F)(e:TypeId)(s:ByteArray):Bl w (Lib.bytesWorld w e s):=by
 unfold Lib.bytesWorld;refine⟨rfl,rfl,rfl,?_,λk a=>?_⟩
 . simp[World.freeze]
 . show(Array.modify _ _ _)[k]?=_;rw[Array.getElem?_modify,BB (show ¬w.heap.size=k by omega)];exact Bh w.drew _ k a
theorem NP:Ji (s.extract 0 n)=(Ji s).take n:=by
 unfold Ji;rw[Lib.extract_data];simp
theorem Pg:Ji (s.extract n s.size)=(Ji s).drop n:=by
 unfold Ji;rw[Lib.extract_data,Ad];have:=JG s;unfold Ji at this;rw[AU,this];omega
theorem U8(s:ByteArray)(h:(Ji s).all DX=true)(b:0<s.size)(c:s.size<=19)(w:F):
 G C 166 #[E s,.int .i64 10,.int .i64 64] w λe a=>e=.returned (.tuple #[.int .u64 (num (Ji s):Nat),.nilIface])/\Bl w a:=by
 have hl:=JG s;refine(Tryz.strconv_ParseUint_10_at64_ok s Y _ (U7 (l:=Ji s) h (by intro e;rw[e]at hl;simp at hl;omega) Y) w).mono ?_;rintro e a ⟨rfl,rfl|rfl⟩
 . exact⟨rfl,BF _ _⟩
 . exact⟨rfl,bytesWorld_below _ _ _⟩
def U9:Value->Nat|E s=>s.size|_=>0
theorem VA(h:l.all DX=true):(Jj Z (num l)).length<=l.length:=by
 refine Y7 Jf (AW (NO h) (Fe ?_ _));unfold Z;omega
theorem VB{a:ByteArray}{b:List UInt8}(e:c=num (Ji (a.extract 0 n)))(g:n=(a.size-1)%19+1)(i:n<=a.size)(d:b=[]\/a.size%19=0)(f:0<a.size):c+num b*10000000000000000000=num (b++Ji (a.extract 0 n)):=by
 have hl:(Ji (a.extract 0 n)).length=n:=by rw[JG,Cy];omega
 rw[Mp,hl,<-e];rcases d with rfl|d
 . simp[num,Dz,val]
 . have:n=19:=Y
   rw[this,At]
theorem VC{m l b:Nat}(n:c<Z)(hl:l=(Jj Z m).length)(h:Xy (c::List.replicate l 0) (Jj Z m) 0 10000000000000000000 l b q):
 (c::List.replicate l 0)[l]?.getD 0+b<Z/\J6 (q++[(c::List.replicate l 0)[l]?.getD 0+b])=Jj Z (c+m*10000000000000000000):=by
 obtain⟨e,i,j,a⟩:=h;have p:val Z (Jj Z m)=m:=JC Jf m;rw[AX]at a;have r:∀k,val Z (List.replicate k 0)=0:=by
  intro k;induction k with
  |zero=>rfl
  |succ k s=>rw[Fz,Yg,s];rfl
 have f:(Jj Z m).take l=Jj Z m:=Ad Y;rw[f,p]at a;have d:(c::List.replicate l 0)[l]?.getD 0+b<Z/\val Z (q++[(c::List.replicate l 0)[l]?.getD 0+b])=c+m*10000000000000000000:=by
  cases l with
  |zero=>
   have o:m=0:=by
    have:Jj Z m=[]:=AD hl.symm;exact(Yn Jf).1 this
   subst o;have hq:q=[]:=AD e;subst hq;simp[val]at a;subst a;simp[val];exact n
  |succ l=>
   have g:(c::List.replicate (l+1) 0)[l+1]?.getD 0=0:=O
   rw[g,AY];refine⟨j,?_⟩;rw[XO,e,a,List.take_succ_cons,Yg,List.take_replicate,r];omega
 refine⟨d.1,?_⟩;rw[<-YE Jf (i.append (DH.cons d.1 (DH.nil _))),d.2]
theorem VD{r d:Nat}(h:r+d<Z):IntKind.u64.wrap ((r:Int)+d)=((r+d:Nat):Int):=by
 unfold Z at h;rw[IntKind.wrap_u64];omega
theorem VE{a:F}{nb l:Nat}(d:DJ a nb (DR (c::List.replicate l 0) 0 l q))(hq:q.length=l):
 a.cell? ⟨nb,l,none⟩=some (.int .u64 ((c::List.replicate l 0)[l]?.getD 0:Nat))/\a.frozen? ⟨nb,l,none⟩=false/\∀v,DJ (a.setCell ⟨nb,l,none⟩ (.int .u64 (v:Nat))) nb (q++[v]):=by
 have b:DR (c::List.replicate l 0) 0 l q=q++[(c::List.replicate l 0)[l]?.getD 0]:=by
  have hl:l<(c::List.replicate l 0).length:=O
  rw[DR,Fk,Ar,AY,Cm hl,A8 O,Am hl];rfl
 have e:=d.cell (j:=l) (by rw[b];simp;omega);rw[b,AE Y,hq,Cr]at e;refine⟨e,d.frozen l,λv=>?_⟩;have:=d.set l v;rw[b,CM _ _ Y,hq,Cr]at this;exact this
theorem VF(s:ByteArray)(Q:(Ji s).all DX=true)(hs:s.size<=2000)(w:F):
 G C 124 #[E s] w λe w'=>∃u,e=.returned u/\UN w' u (num (Ji s))/\Bl w w':=by
 have HD:=hidR Q;clear Q;go_enter Tryz.func124,Tryz.ntmps124
 go_wp2;go_loopw [0,3] (λdv rv wr=>∃(b:ByteArray) (f:List UInt8) (a:Option Addr) (l cap:Nat),dv=E b/\rv=B a l cap/\b.size<=2000/\l<=2000/\UN wr (B a l cap) (num f)/\Hid (Ji s=f++Ji b/\(f=[]\/b.size%19=0))/\Bl w wr) λdv _ _=>U9 dv
 case atStart=>exact⟨s,[],none,0,0,rfl,rfl,hs,Y,by unfold UN;simp[num,Dz,val,JR];exact Row.nil _ _,⟨O,Or.inl rfl⟩,BF _ _⟩
 case round=>
  obtain⟨b,f,a,l,cap,rfl,rfl,an,hl,m,x,hB⟩:=hrel;by_cases h0:b.size=0
  . have Qb:Ji b=[]:=AD (by rw[JG];exact h0);have e:f=Ji s:=by rw[x.o.1,Qb,C4]
    have HE:=hidR e;have hz:b.size<=0:=Y
    clear e Qb h0;go_wp2;go_ret;exact⟨_,rfl,by rw[<-HE.o];exact m,hB⟩
  . have ae:0<b.size:=Y
    obtain⟨n,hn⟩:∃n,n=(b.size-1)%19+1:=⟨_,rfl⟩;have En:=hidR (show(((b.size:Int)-1)%19+1)=(n:Int)by omega);have Qw:n<=b.size:=Y
    have k:=hidR hn;clear hn;go_upto_region 4 with fail
    rw[En.o];have R:(Ji (b.extract 0 n)).all DX=true:=by
     have g:=HD.o;rw[x.o.1,List.all_append,Cv]at g;rw[NP,Ca];intro c t;exact Ca.1 g.2 c (Fu t)
    have H:(b.extract 0 n).size=n:=by rw[Cy];omega
    have W:num (Ji (b.extract 0 n))<10000000000000000000:=by
     have g:=NO R;rw[JG,H]at g;have M:(10:Nat)^n<=10^19:=AF Y (by have:=k.o;omega);have h3:(10:Nat)^19=10000000000000000000:=DF
     omega
    have S:=hidR λV=>U8 (b.extract 0 n) R (by rw[H];have:=k.o;omega) (by rw[H];have:=k.o;omega) V;obtain⟨c,t⟩:∃c,c=num (Ji (b.extract 0 n)):=⟨_,rfl⟩;rw[<-t]at W S;have Uc:=hidR t;have Qr:=hidR W;clear R H t W;have ak:0<n:=by have:=k.o;omega
    have U:Hid (Ji s=(f++Ji (b.extract 0 n))++Ji (b.extract n b.size)/\(f++Ji (b.extract 0 n)=[]\/(b.extract n b.size).size%19=0)):=by
     refine⟨?_,Or.inr ?_⟩
     . rw[CY,NP,Pg,Ct];exact x.o.1
     . rw[Cy];have:=k.o;omega
    have Qu:Hid ((Jj Z (num (f++Ji (b.extract 0 n)))).length<=2000):=by
     have g:=HD.o;rw[U.o.1,List.all_append,Cv]at g;have M:=VA g.1;have h3:=Bw List.length U.o.1;rw[Ao,JG]at h3;exact An M Y
    have Ua:=LN l Y;go_upto_region 7 with(first|(go_at_call 166;refine(S.o _).mono ?_;rintro e i ⟨rfl,P⟩))
    obtain⟨K,o⟩:=ex (i.alloc (.cells (cellsOf .u64 (List.replicate (l+1) 0)).toArray 115));have I:DJ K i.heap.size (List.replicate (l+1) 0):=DJ.made (by rw[<-o];exact BE i _);have z:Bl w i:=Bt hB P;have Qp:Bl w K:=by rw[<-o];exact z.alloc z.size _
    have Qq:UN K (B a l cap) (num f):=by rw[<-o];exact Row.below (Row.below m P) (Ba _ _)
    have X:w.heap.size<=i.heap.size:=z.size;have Qn:Hid (∀p,a=some p->0<l->p.block≠i.heap.size):=by
     intro p ep T;obtain⟨_,_,_,_,ah⟩:=JH m;obtain⟨b',ap,ea,aj,_⟩:=ah 0 T;rw[ep]at ea;cases ea;have:=P.size;simp only;omega
    have Qm:=m.len;have Qy:=hidR Qm;rw[o];clear o Ua P z m Qm S hB;generalize i.heap.size=nb at *;have z0:=I.cell (j:=0) O;have z1:=I.frozen 0;go_upto_region 8 with fail
    obtain⟨L,r⟩:=ex (K.setCell ⟨nb,0,none⟩ (.int .u64 (c:Nat)));have Qo:DJ L nb (c::List.replicate l 0):=by rw[<-r];have:=I.set 0 c;simpa[List.replicate_succ]using this
    have Qs:Bl w L:=by rw[<-r];exact Qp.setCell X _
    have Ub:UN L (B a l cap) (num f):=by rw[<-r];exact Row.grown Qq (JT _ _ _ _) Qn.o
    rw[r];clear r I Qp Qq z0 z1;have T:=Qo.cell (j:=l) O;obtain⟨y,hy⟩:∃y,y=(c::List.replicate l 0)[l]?.getD 0:=⟨_,rfl⟩;rw[<-hy]at T;have HY:=hidR hy;clear hy;have Qv:=hidR λV (hV:Bl L V)=>NN nb 0 l (l+1) (c::List.replicate l 0) a cap (Jj Z (num f)) 10000000000000000000 V (Qo.below hV) (DH.cons (by have:=Qr.o;unfold Z;omega) λd Q=>by rw[C6 Q];unfold Z;omega) O Y (Row.below Ub hV) (JE Jf _) Qn.o uo;have i0:(0:Int)<=(l:Int):=Y
    have i1:(l:Int)<(l:Int)+1:=Y
    have i2:(l:Int)<=(l:Int)+1:=Y
    go_region_with (first
     |(go_at_call 167;refine(Qv.o _ ?_).mono ?_;exact(BF _ _).drew;rintro e w4 ⟨v,q,rfl,N,hA4,ad⟩;obtain⟨k1,k2,k3⟩:=VE hA4 N.1;rw[<-HY.o]at k1;have A:=VC (by have:=Qr.o;unfold Z;omega) Qy.o N;rw[<-HY.o]at A;have ai:IntKind.u64.wrap ((y:Int)+v)=((y+v:Nat):Int):=VD A.1;have Qt:=hidR A.2;have Qz:=hidR N.1;clear A N))
    all_goals go_wp2_with fail
    all_goals
     have Qx:DJ (w4.setCell ⟨nb,l,none⟩ (.int .u64 ((y:Int)+v))) nb (q++[y+v]):=by
      have:=k3 (y+v);rwa[Int.natCast_add]at this
     have am:q.length=l:=Qz.o;have Qc:=Qx.row 0 (l+1) (l+1) si Y Y Y;rw[AX,Ad si]at Qc;refine(YV _ _ _ Qc).mono ?_;rintro e w6 ⟨u,rfl,hu,af⟩;rw[Qt.o,VB Uc.o k.o Qw x.o.2 ae]at hu;have Ud:Bl w w6:=((below_grown Qs.drew ad X).setCell X _).trans (af.mono (by have g:=Qs.size;have M:=ad.size;simp[World.setCell]at M ⊢;omega));obtain⟨au,cu,eu⟩:=UN.form hu;subst eu;go_wp2;go_roundw
     case rel=>exact⟨b.extract n b.size,f++Ji (b.extract 0 n),au,_,cu,rfl,rfl,by rw[Cy];omega,Qu.o,hu,U.o,Ud⟩
     case measure=>
      show(b.extract n b.size).size<b.size;rw[Cy];omega
end
open Go.RowKit Go.Shelf
def KZ(b:Bool)(n:Nat):Int:=if b then -(n:Int)else n
variable{l:List UInt8}{n:Nat}{a w:F}
theorem LT(b:Bool)(v:Value)(n:Nat)(w:F)(h:UN w v n):G C 72 #[D b,v] w λe a=>∃u,e=.returned u/\Jk a u (KZ b n)/\Bl w a:=Iw b v n w h
def Hp:Value:=.tuple #[.agg #[D false,B none 0 0],D false]
theorem LU(s:ByteArray)(w:F):G C 122 #[E s,E ⟨#[45]⟩] w λe b=>e=.returned (.tuple #[E ⟨(J1 (Ji s)).toArray⟩,D (decide ((Ji s).head?=some 45))])/\b=w:=by
 refine(Tryz.strings_CutPrefix s ⟨#[45]⟩ w).mono ?_;rintro e b ⟨rfl,rfl⟩;have a:Lib.hasPrefix s.data.toList [45]=decide ((Ji s).head?=some 45):=by
  unfold Ji Lib.hasPrefix;cases s.data.toList with
  |nil=>rfl
  |cons c l=>
   rw[Fc];simp[List.isPrefixOf];exact eq_comm
 refine⟨?_,rfl⟩;have d:Lib.trimPrefix s.data.toList [45]=J1 (Ji s):=by
  unfold Lib.trimPrefix J1;rw[a];by_cases h:(Ji s).head?=some 45
  . rw[BC (decide_eq_true h),BC h,List.length_singleton,List.drop_one];rfl
  . rw[BB (by simp[h]),BB h];rfl
 show Ending.returned (.tuple #[E ⟨(Lib.trimPrefix s.data.toList [45]).toArray⟩,D (Lib.hasPrefix s.data.toList [45])])=_;rw[a,d]
theorem NQ(h:l.length<=2000):good l=(FX (J1 l) && !(decide (l.head?=some 45)&&decide (J1 l=[48]))):=by
 rw[Fc];simp only[good,FX,Cv,Bn,Fo,CS,Bs,List.isEmpty_eq_false_iff,Bool.and_eq_false_iff];constructor
 . rintro⟨⟨⟨_,d⟩,b⟩,f⟩;refine⟨⟨f,?_⟩,?_⟩
   . rcases b with b|b
     . exact Or.inr ⟨d,b⟩
     . left;rw[b];rfl
   . rcases b with b|b
     . right;intro e;apply b;rw[e];rfl
     . left;rw[b];simp
 . rintro⟨⟨f,a⟩,c⟩;have d:J1 l≠[]:=by
    rcases a with a|a
    . rw[a];simp
    . exact a.1
   refine⟨⟨⟨h,d⟩,?_⟩,f⟩;rcases a with a|a
   . rcases c with c|c
     . right
       have:J1 l=l:=by rw[J1,BB c]
       rw[<-this];exact a
     . exact absurd a c
   . exact Or.inl a.2
def XP(l:List UInt8)(w:F)(e:Ending)(a:F):Prop:=
 (good l=true->∃u,e=.returned (.tuple #[u,D true])/\Jk a u (Xb l))/\(good l=false->e=.returned Hp)/\Bl w a
theorem XP.no(h:good l=false)(c:Bl w a):XP l w (.returned Hp) a:=
 ⟨λb=>(by rw[h]at b;cases b),λ_=>rfl,c⟩
theorem XP.yes{u:Value}(h:good l=true)(d:Jk a u (Xb l))(c:Bl w a):XP l w (.returned (.tuple #[u,D true])) a:=
 ⟨λ_=>⟨u,rfl,d⟩,λb=>(by rw[h]at b;cases b),c⟩
theorem VG(s:ByteArray)(b:2000<s.size)(c:s.size<=140737488351232)(w:F):G C 63 #[E s] w (XP (Ji s) w):=by
 have a:=hidR (show good (Ji s)=false by
  have:=JG s;simp[good];omega)
 go_enter Tryz.func63,Tryz.ntmps63
 go_wp2_with(first
  |(go_at_call 122;refine(LU _ _).mono ?_;rintro e d ⟨rfl,rfl⟩))
 exact BA (v:=Hp) (by simp[results,Tryz.results63,go_sem,Hp]) rfl (XP.no a.o (Ba _ _))
theorem VH(s:ByteArray)(k:s.size<=2000)(b:FX (J1 (Ji s))=false)(w:F):G C 63 #[E s] w (XP (Ji s) w):=by
 have j:=hidR (show good (Ji s)=false by rw[NQ (by rw[JG];exact k),b];rfl);obtain⟨tb,c⟩:=ex ((⟨(J1 (Ji s)).toArray⟩:ByteArray):ByteArray);obtain⟨sg,g⟩:=ex (decide ((Ji s).head?=some 45));have a:=λV=>LU s V;rw[c,g]at a;have d:Ji tb=J1 (Ji s):=by rw[<-c];rfl
 have m:tb.size<=2000:=by
  rw[<-JG,d,J1];have:=JG s;split
  . rw[List.length_tail];omega
  . omega
 have f:=hidR λV=>ND tb Y V;rw[d,b]at f;have i:=hidR a;clear a d b c g;go_enter Tryz.func63,Tryz.ntmps63
 go_wp2_with(first
  |(go_at_call 122;refine(i.o _).mono ?_;rintro e l ⟨rfl,rfl⟩)
  |(go_at_call 123;refine(f.o _).mono ?_;rintro e l ⟨rfl,rfl⟩))
 exact BA (v:=Hp) (by simp[results,Tryz.results63,go_sem,Hp]) rfl (XP.no j.o (Ba _ _))
theorem VI(s:ByteArray)(j:s.size<=2000)(d:FX (J1 (Ji s))=true)(b:(Ji s).head?=some 45)(c:J1 (Ji s)=[48])(w:F):G C 63 #[E s] w (XP (Ji s) w):=by
 have g:=hidR (show good (Ji s)=false by rw[NQ (by rw[JG];exact j),d,c];simp[b]);have a:=λV=>LU s V;rw[c,decide_eq_true b]at a;have i:=hidR λV=>ND ⟨[48].toArray⟩ DF V;have f:=hidR a;clear a d b c;go_enter Tryz.func63,Tryz.ntmps63
 go_wp2_with(first
  |(go_at_call 122;refine(f.o _).mono ?_;rintro e k ⟨rfl,rfl⟩)
  |(go_at_call 123;refine(i.o _).mono ?_;rintro e k ⟨rfl,rfl⟩))
 exact BA (v:=Hp) (by simp[results,Tryz.results63,go_sem,Hp]) rfl (XP.no g.o (Ba _ _))
theorem VJ(s tb:ByteArray)(sg:Bool)(K:s.size<=2000)(r:Hid (good (Ji s)=true))(q:Hid (∀V,G C 122 #[E s,E ⟨#[45]⟩] V λe c=>e=.returned (.tuple #[E tb,D sg])/\c=V))
(t:Hid (∀V,G C 123 #[E tb] V λe c=>e=.returned (D true)/\c=V))(x:Hid (∀V,G C 124 #[E tb] V λe c=>∃u,e=.returned u/\UN c u (num (Ji tb))/\Bl V c))
(o:sg=true->(tb.toList == [48])=false)(y:Hid (Xb (Ji s)=KZ sg (num (Ji tb))))(w:F):G C 63 #[E s] w (XP (Ji s) w):=by
 have a:=Ju.new w 35 (D false) (B none 0 0);have b:Bl w (w.alloc (.cells #[D false,B none 0 0] 35)):=Ba _ _;cases sg
 . clear o;go_enter Tryz.func63,Tryz.ntmps63
   go_wp2_with(first
    |(go_at_call 122;refine(q.o _).mono ?_;rintro e c ⟨rfl,rfl⟩)
    |(go_at_call 123;refine(t.o _).mono ?_;rintro e c ⟨rfl,rfl⟩)
    |(go_at_call 124;refine(x.o _).mono ?_;rintro e H ⟨u,rfl,j,g⟩;obtain⟨z,A,rfl⟩:=j.form;have a:=a.below g;have b:=Bt b g)
    |(go_at_call 72;refine(LT _ _ _ _ j).mono ?_;rintro e I ⟨v,rfl,k,i⟩;have a:=a.below i;have b:=Bt b i;rw[<-y.o]at k;obtain⟨d,f,c3,rfl,n⟩:=k;obtain⟨q0,p⟩:=a.cp;obtain⟨f0,f1⟩:=a.fp))
   obtain⟨m,l⟩:=IP (D (decide (Xb (Ji s)<0))) (B d f c3) b (Aa _) a rfl rfl n;exact BA (v:=.tuple #[.agg #[D (decide (Xb (Ji s)<0)),B d f c3],D true]) (by simp[results,Tryz.results63,go_sem,q0,p]) rfl (XP.yes r.o ⟨d,f,c3,rfl,m⟩ l)
 . have L:=o rfl;clear o;go_enter Tryz.func63,Tryz.ntmps63
   go_wp2_with(first
    |(go_at_call 122;refine(q.o _).mono ?_;rintro e c ⟨rfl,rfl⟩)
    |(go_at_call 123;refine(t.o _).mono ?_;rintro e c ⟨rfl,rfl⟩)
    |(go_at_call 124;refine(x.o _).mono ?_;rintro e H ⟨u,rfl,j,g⟩;obtain⟨z,A,rfl⟩:=j.form;have a:=a.below g;have b:=Bt b g)
    |(go_at_call 72;refine(LT _ _ _ _ j).mono ?_;rintro e I ⟨v,rfl,k,i⟩;have a:=a.below i;have b:=Bt b i;rw[<-y.o]at k;obtain⟨d,f,c3,rfl,n⟩:=k;obtain⟨q0,p⟩:=a.cp;obtain⟨f0,f1⟩:=a.fp))
   obtain⟨m,l⟩:=IP (D (decide (Xb (Ji s)<0))) (B d f c3) b (Aa _) a rfl rfl n;exact BA (v:=.tuple #[.agg #[D (decide (Xb (Ji s)<0)),B d f c3],D true]) (by simp[results,Tryz.results63,go_sem,q0,p]) rfl (XP.yes r.o ⟨d,f,c3,rfl,m⟩ l)
theorem VK(s:ByteArray)(l:s.size<=140737488351232)(w:F):G C 63 #[E s] w (XP (Ji s) w):=by
 by_cases j:2000<s.size
 . exact VG s j l w
 have c:s.size<=2000:=Y
 cases a:FX (J1 (Ji s))
 . exact VH s c a w
 by_cases d:(Ji s).head?=some 45/\J1 (Ji s)=[48]
 . exact VI s c a d.1 d.2 w
 have k:good (Ji s)=true:=by
  rw[NQ (by rw[JG];exact c),a];by_cases b:(Ji s).head?=some 45
  . have f:¬J1 (Ji s)=[48]:=λh=>d ⟨b,h⟩;simp[f]
  . simp[b]
 have g:(J1 (Ji s)).all DX=true:=by
  unfold FX at a;rw[Cv]at a;exact a.1
 have e:Ji (⟨(J1 (Ji s)).toArray⟩:ByteArray)=J1 (Ji s):=rfl;have i:(⟨(J1 (Ji s)).toArray⟩:ByteArray).size<=2000:=by
  rw[<-JG,e,J1];have:=JG s;split
  . rw[List.length_tail];omega
  . omega
 refine VJ s ⟨(J1 (Ji s)).toArray⟩ (decide ((Ji s).head?=some 45)) c k (λV=>LU s V) (λV=>?_) (λV=>?_) (λh=>?_) ?_ w
 . have:=ND ⟨(J1 (Ji s)).toArray⟩ Y V;rw[e,a]at this;exact this
 . exact VF ⟨(J1 (Ji s)).toArray⟩ (by rw[e];exact g) i V
 . rw[Lib.toList_data];exact beq_eq_false_iff_ne.2 λf=>d ⟨of_decide_eq_true h,f⟩
 . show Xb (Ji s)=_;rw[e,Xb,KZ];by_cases b:(Ji s).head?=some 45
   . simp[b]
   . simp[b]
theorem row_one(W:F)(v:Nat):Row .u64 (W.alloc (.cells #[.int .u64 (v:Nat)] 115)) (B (some ⟨W.heap.size,0,none⟩) 1 1) [v]:=by
 refine⟨_,1,rfl,O,Y,O,Or.inr ⟨W.heap.size,0,rfl,⟨_,_,BE W _⟩,λj a=>?_⟩⟩;have:j=0:=by simp at a;omega
 subst this;exact(BG W 115 (.int .u64 (v:Nat))).cell
theorem VL(a:n≠0)(h:n<Z):Jj Z n=[n]:=by
 rw[XW Jf a,Cx h,Cp h,JR]
theorem VM(h:n<Z):J6 [n]=Jj Z n:=by
 have:=YE Jf (ds:=[n]) (DH.cons h (DH.nil _));rw[<-this];simp[val]
theorem VN(N:Nat)(A:N<=9223372036854775807)(w:F):G C 29 #[.int .i64 (N:Int)] w λe m=>∃u,e=.returned u/\Jk m u N/\Bl w m:=by
 have H:¬((N:Int)<0):=Y
 have z:IntKind.u64.wrap (N:Int)=(N:Int):=by rw[IntKind.wrap_u64];omega
 have p:=hidR (VM (n:=N) uo);have a:=(Ju.new w 35 (D false) (B none 0 0)).alloc (.cells #[.int .u64 (N:Nat)] 115);have b:Bl w ((w.alloc (.cells #[D false,B none 0 0] 35)).alloc (.cells #[.int .u64 (N:Nat)] 115)):=(Ba _ _).alloc O _;have g:=row_one (w.alloc (.cells #[D false,B none 0 0] 35)) N;rw[Ax]at g;have i:(N:Int)=KZ false N:=rfl;have o:=hidR i;clear i;go_enter Tryz.func29,Tryz.ntmps29
 go_wp2_with(first
  |(go_at_call 73;refine(YV _ _ _ g).mono ?_;rintro e I ⟨u,rfl,d,j⟩;rw[p.o]at d;obtain⟨x,y,rfl⟩:=UN.form d;have a:=a.below j;have b:=Bt b j)
  |(go_at_call 72;refine(LT _ _ _ _ d).mono ?_;rintro e K ⟨v,rfl,l,k⟩;have a:=a.below k;have b:=Bt b k;rw[<-o.o]at l;obtain⟨c,f,c3,rfl,s⟩:=l;obtain⟨q0,t⟩:=a.cp;obtain⟨f0,f1⟩:=a.fp))
 obtain⟨r,q⟩:=IP (D (decide ((N:Int)<0))) (B c f c3) b (Aa _) a rfl rfl s;exact BA (v:=.agg #[D (decide ((N:Int)<0)),B c f c3]) (by simp[results,Tryz.results29,go_sem,q0,t]) rfl ⟨_,rfl,⟨c,f,c3,rfl,r⟩,q⟩
theorem VO(N:Nat)(x:1<=N)(y:N<=9223372036854775808)(w:F):G C 29 #[.int .i64 (-(N:Int))] w λe k=>∃u,e=.returned u/\Jk k u (-(N:Int))/\Bl w k:=by
 have p:-(N:Int)<0:=Y
 have t:IntKind.u64.wrap (-(IntKind.u64.wrap (-(N:Int))))=(N:Int):=by simp only[IntKind.wrap_u64];omega
 have m:=hidR (VL (n:=N) Y uo);have a:=(Ju.new w 35 (D false) (B none 0 0)).alloc (.cells #[.int .u64 (N:Nat)] 115);have c:Bl w ((w.alloc (.cells #[D false,B none 0 0] 35)).alloc (.cells #[.int .u64 (N:Nat)] 115)):=(Ba _ _).alloc O _;have b:=row_one (w.alloc (.cells #[D false,B none 0 0] 35)) N;rw[Ax,<-m.o]at b;have b:UN ((w.alloc (.cells #[D false,B none 0 0] 35)).alloc (.cells #[.int .u64 (N:Nat)] 115)) (B (some ⟨w.heap.size+1,0,none⟩) 1 1) N:=b;have g:-(N:Int)=KZ true N:=rfl;have l:=hidR g;clear g;go_enter Tryz.func29,Tryz.ntmps29
 go_wp2_with(first
  |(go_at_call 72;refine(LT _ _ _ _ b).mono ?_;rintro e z ⟨v,rfl,j,i⟩;have a:=a.below i;have c:=Bt c i;rw[<-l.o]at j;obtain⟨d,f,c3,rfl,r⟩:=j;obtain⟨q0,s⟩:=a.cp;obtain⟨f0,f1⟩:=a.fp))
 obtain⟨q,o⟩:=IP (D true) (B d f c3) c (Aa _) a rfl rfl r;exact BA (v:=.agg #[D true,B d f c3]) (by simp[results,Tryz.results29,go_sem,q0,s]) rfl ⟨_,rfl,⟨d,f,c3,by rw[show decide (-(N:Int)<0)=true from decide_eq_true p],q⟩,o⟩
theorem Iz(n:Int)(b:-9223372036854775808<=n)(c:n<=9223372036854775807)(w:F):G C 29 #[.int .i64 n] w λe a=>∃u,e=.returned u/\Jk a u n/\Bl w a:=by
 by_cases h:n<0
 . have e:n=-(n.natAbs:Int):=Y
   rw[e];exact VO n.natAbs Y Y w
 . have e:n=(n.natAbs:Int):=Y
   rw[e];exact VN n.natAbs Y w

