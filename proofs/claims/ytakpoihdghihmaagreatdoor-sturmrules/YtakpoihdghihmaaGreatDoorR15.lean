import Derived.Test.YtakpoihdghihmaaGreatDoorR10
import Derived.Test.YtakpoihdghihmaaGreatDoorR09
import Derived.Deep.DeepCutAuto
import Derived.Deep.RegionHeld3
import Derived.Deep.RegionWith
import Derived.Deep.OwnRows
import Derived.Test.YtakpoihdghihmaaGreatDoorR04
open Go.Value renaming slice->B,bool->D,string->E
open Go.Proofs.Tryz renaming prog->C
open Go renaming World->F,Calls->G
set_option maxRecDepth 100000
set_option maxHeartbeats 16000000
namespace Go.Proofs.YtakpoihdghihmaaGreatDoor
section
open Go.RowKit Go.Shelf Go.Deep
variable{s:ByteArray}{q:List Nat}{l:List UInt8}{c n:Nat}
theorem hidR{p:Prop}(h:p):Hid p:=h
theorem U7(l:List UInt8)(a:Nat)(h:l.all DV=true)(d:num l+10^l.length*a<18446744073709551616):Lib.parseUintM (2^64-1) a l=.ok (num l+10^l.length*a):=by
 induction l generalizing a with
 |nil=>simp[Lib.parseUintM,num,Dt,val]
 |cons c l i=>
  have f:DV c=true:=Ca.1 h c (Cc ..);have hl:l.all DV=true:=by rw[List.all_cons,f,Bool.true_and]at h;exact h
  have b:=Y1 f;have e:num (c::l)=num l+10^l.length*(c.toNat-48):=by
   have:=Mh [c] l;rw[List.singleton_append]at this;rw[this];congr 2
  have g:num (c::l)+10^(c::l).length*a=num l+10^l.length*(a*10+(c.toNat-48)):=by
   rw[e,Af,A4,AN,AH,At 10 a];omega
  rw[g]at d ⊢;have hp:1<=10^l.length:=Nat.one_le_pow _ _ O;have j:a*10+(c.toNat-48)<=10^l.length*(a*10+(c.toNat-48)):=C3 _ O;rw[Lib.parseUintM,BC ⟨b.1,b.2⟩,BA O,BA O];exact i _ hl d
theorem NI(h:l.all DV=true):num l<10^l.length:=by
 have:=YM (K3 h);rwa[KQ]at this
theorem U8(h:l.all DV=true)(a:l≠[])(b:l.length<=19):Lib.parseUintB 64 l=.ok (num l):=by
 have c:=NI h;have d:(10:Nat)^l.length<=10^19:=AF O b;rw[Lib.parseUintB,BA a,U7 l 0 h O];simp
theorem bytesWorld_below(w:F)(e:TypeId)(s:ByteArray):Bl w (Lib.bytesWorld w e s):=by
 unfold Lib.bytesWorld;refine⟨rfl,rfl,rfl,?_,λk a=>?_⟩
 . simp[World.freeze]
 . show(Array.modify _ _ _)[k]?=_;rw[Array.getElem?_modify,BA (show ¬w.heap.size=k by omega)];exact Bh w.drew _ k a
theorem NJ:Jj (s.extract 0 n)=(Jj s).take n:=by
 unfold Jj;rw[Lib.extract_data];simp
theorem Pf:Jj (s.extract n s.size)=(Jj s).drop n:=by
 unfold Jj;rw[Lib.extract_data,Ad];have:=JG s;unfold Jj at this;rw[AU,this];omega
theorem U9(s:ByteArray)(h:(Jj s).all DV=true)(b:0<s.size)(c:s.size<=19)(w:F):
 G C 166 #[E s,.int .i64 10,.int .i64 64] w λe a=>e=.returned (.tuple #[.int .u64 (num (Jj s):Nat),.nilIface])/\Bl w a:=by
 have hl:=JG s;refine(Tryz.strconv_ParseUint_10_at64_ok s O _ (U8 (l:=Jj s) h (by intro e;rw[e]at hl;simp at hl;omega) O) w).mono ?_;rintro e a ⟨rfl,rfl|rfl⟩
 . exact⟨rfl,BF _ _⟩
 . exact⟨rfl,bytesWorld_below _ _ _⟩
def VA:Value->Nat|E s=>s.size|_=>0
theorem VB(h:l.all DV=true):(Ji Y (num l)).length<=l.length:=by
 refine Y6 Jf (AW (NI h) (Fe ?_ _));unfold Y;omega
theorem VC{a:ByteArray}{b:List UInt8}(e:c=num (Jj (a.extract 0 n)))(g:n=(a.size-1)%19+1)(i:n<=a.size)(d:b=[]\/a.size%19=0)(f:0<a.size):c+num b*10000000000000000000=num (b++Jj (a.extract 0 n)):=by
 have hl:(Jj (a.extract 0 n)).length=n:=by rw[JG,Cx];omega
 rw[Mh,hl,<-e];rcases d with rfl|d
 . simp[num,Dt,val]
 . have:n=19:=O
   rw[this,At]
theorem VD{m l b:Nat}(n:c<Y)(hl:l=(Ji Y m).length)(h:Xv (c::List.replicate l 0) (Ji Y m) 0 10000000000000000000 l b q):
 (c::List.replicate l 0)[l]?.getD 0+b<Y/\J6 (q++[(c::List.replicate l 0)[l]?.getD 0+b])=Ji Y (c+m*10000000000000000000):=by
 obtain⟨e,i,j,a⟩:=h;have p:val Y (Ji Y m)=m:=JC Jf m;rw[AX]at a;have r:∀k,val Y (List.replicate k 0)=0:=by
  intro k;induction k with
  |zero=>rfl
  |succ k s=>rw[Fz,Yg,s];rfl
 have f:(Ji Y m).take l=Ji Y m:=Ad O;rw[f,p]at a;have d:(c::List.replicate l 0)[l]?.getD 0+b<Y/\val Y (q++[(c::List.replicate l 0)[l]?.getD 0+b])=c+m*10000000000000000000:=by
  cases l with
  |zero=>
   have o:m=0:=by
    have:Ji Y m=[]:=AD hl.symm
    exact(Ym Jf).1 this
   subst o;have hq:q=[]:=AD e;subst hq;simp[val]at a;subst a;simp[val];exact n
  |succ l=>
   have g:(c::List.replicate (l+1) 0)[l+1]?.getD 0=0:=Z
   rw[g,AY];refine⟨j,?_⟩;rw[XK,e,a,List.take_succ_cons,Yg,List.take_replicate,r];omega
 refine⟨d.1,?_⟩;rw[<-YD Jf (i.append (DG.cons d.1 (DG.nil _))),d.2]
theorem VE{r d:Nat}(h:r+d<Y):IntKind.u64.wrap ((r:Int)+d)=((r+d:Nat):Int):=by
 unfold Y at h;rw[IntKind.wrap_u64];omega
theorem VF{a:F}{nb l:Nat}(d:DJ a nb (DP (c::List.replicate l 0) 0 l q))(hq:q.length=l):
 a.cell? ⟨nb,l,none⟩=some (.int .u64 ((c::List.replicate l 0)[l]?.getD 0:Nat))/\a.frozen? ⟨nb,l,none⟩=false/\∀v,DJ (a.setCell ⟨nb,l,none⟩ (.int .u64 (v:Nat))) nb (q++[v]):=by
 have b:DP (c::List.replicate l 0) 0 l q=q++[(c::List.replicate l 0)[l]?.getD 0]:=by
  have hl:l<(c::List.replicate l 0).length:=Z
  rw[DP,Fk,Ar,AY,Cl hl,A8 Z,Am hl];rfl
 have e:=d.cell (j:=l) (by rw[b];simp;omega);rw[b,AE O,hq,Cq]at e;refine⟨e,d.frozen l,λv=>?_⟩;have:=d.set l v;rw[b,CM _ _ O,hq,Cq]at this;exact this
theorem VG(s:ByteArray)(Q:(Jj s).all DV=true)(hs:s.size<=2000)(w:F):
 G C 124 #[E s] w λe w'=>∃u,e=.returned u/\UN w' u (num (Jj s))/\Bl w w':=by
 have HD:=hidR Q;clear Q;go_enter Tryz.func124,Tryz.ntmps124
 go_wp2;go_loopw [0,3] (λdv rv wr=>∃(b:ByteArray) (f:List UInt8) (a:Option Addr) (l cap:Nat),dv=E b/\rv=B a l cap/\b.size<=2000/\l<=2000/\UN wr (B a l cap) (num f)/\Hid (Jj s=f++Jj b/\(f=[]\/b.size%19=0))/\Bl w wr) λdv _ _=>VA dv
 case atStart=>exact⟨s,[],none,0,0,rfl,rfl,hs,O,by unfold UN;simp[num,Dt,val,JR];exact Row.nil _ _,⟨Z,Or.inl rfl⟩,BF _ _⟩
 case round=>
  obtain⟨b,f,a,l,cap,rfl,rfl,an,hl,m,x,hB⟩:=hrel;by_cases h0:b.size=0
  . have Qb:Jj b=[]:=AD (by rw[JG];exact h0);have e:f=Jj s:=by rw[x.o.1,Qb,C4]
    have HE:=hidR e;have hz:b.size<=0:=O
    clear e Qb h0;go_wp2;go_ret;exact⟨_,rfl,by rw[<-HE.o];exact m,hB⟩
  . have ae:0<b.size:=O
    obtain⟨n,hn⟩:∃n,n=(b.size-1)%19+1:=⟨_,rfl⟩;have En:=hidR (show(((b.size:Int)-1)%19+1)=(n:Int)by omega);have Qw:n<=b.size:=O
    have k:=hidR hn;clear hn;go_upto_region 4 with fail
    rw[En.o];have R:(Jj (b.extract 0 n)).all DV=true:=by
     have g:=HD.o;rw[x.o.1,List.all_append,Cu]at g;rw[NJ,Ca];intro c t;exact Ca.1 g.2 c (Fu t)
    have H:(b.extract 0 n).size=n:=by rw[Cx];omega
    have W:num (Jj (b.extract 0 n))<10000000000000000000:=by
     have g:=NI R;rw[JG,H]at g;have M:(10:Nat)^n<=10^19:=AF O (by have:=k.o;omega);have h3:(10:Nat)^19=10000000000000000000:=DF
     omega
    have S:=hidR λV=>U9 (b.extract 0 n) R (by rw[H];have:=k.o;omega) (by rw[H];have:=k.o;omega) V;obtain⟨c,t⟩:∃c,c=num (Jj (b.extract 0 n)):=⟨_,rfl⟩;rw[<-t]at W S;have Uc:=hidR t;have Qr:=hidR W;clear R H t W;have ak:0<n:=by have:=k.o;omega
    have U:Hid (Jj s=(f++Jj (b.extract 0 n))++Jj (b.extract n b.size)/\(f++Jj (b.extract 0 n)=[]\/(b.extract n b.size).size%19=0)):=by
     refine⟨?_,Or.inr ?_⟩
     . rw[CY,NJ,Pf,Cs];exact x.o.1
     . rw[Cx];have:=k.o;omega
    have Qu:Hid ((Ji Y (num (f++Jj (b.extract 0 n)))).length<=2000):=by
     have g:=HD.o;rw[U.o.1,List.all_append,Cu]at g;have M:=VB g.1;have h3:=Bw List.length U.o.1;rw[Ao,JG]at h3;exact An M O
    have Ua:=LG l O;go_upto_region 7 with(first|(go_at_call 166;refine(S.o _).mono ?_;rintro e i ⟨rfl,P⟩))
    obtain⟨K,o⟩:=ex (i.alloc (.cells (cellsOf .u64 (List.replicate (l+1) 0)).toArray 115));have I:DJ K i.heap.size (List.replicate (l+1) 0):=DJ.made (by rw[<-o];exact BE i _);have z:Bl w i:=Bt hB P;have Qp:Bl w K:=by rw[<-o];exact z.alloc z.size _
    have Qq:UN K (B a l cap) (num f):=by rw[<-o];exact Row.below (Row.below m P) (Ba _ _)
    have X:w.heap.size<=i.heap.size:=z.size;have Qn:Hid (∀p,a=some p->0<l->p.block≠i.heap.size):=by
     intro p ep T;obtain⟨_,_,_,_,ah⟩:=JH m;obtain⟨b',ap,ea,aj,_⟩:=ah 0 T;rw[ep]at ea;cases ea;have:=P.size;simp only;omega
    have Qm:=m.len;have Qy:=hidR Qm;rw[o];clear o Ua P z m Qm S hB;generalize i.heap.size=nb at *;have z0:=I.cell (j:=0) Z;have z1:=I.frozen 0;go_upto_region 8 with fail
    obtain⟨L,r⟩:=ex (K.setCell ⟨nb,0,none⟩ (.int .u64 (c:Nat)));have Qo:DJ L nb (c::List.replicate l 0):=by rw[<-r];have:=I.set 0 c;simpa[List.replicate_succ]using this
    have Qs:Bl w L:=by rw[<-r];exact Qp.setCell X _
    have Ub:UN L (B a l cap) (num f):=by rw[<-r];exact Row.grown Qq (JT _ _ _ _) Qn.o
    rw[r];clear r I Qp Qq z0 z1;have T:=Qo.cell (j:=l) Z;obtain⟨y,hy⟩:∃y,y=(c::List.replicate l 0)[l]?.getD 0:=⟨_,rfl⟩;rw[<-hy]at T;have HY:=hidR hy;clear hy;have Qv:=hidR λV (hV:Bl L V)=>NH nb 0 l (l+1) (c::List.replicate l 0) a cap (Ji Y (num f)) 10000000000000000000 V (Qo.below hV) (DG.cons (by have:=Qr.o;unfold Y;omega) λd Q=>by rw[C6 Q];unfold Y;omega) Z O (Row.below Ub hV) (JE Jf _) Qn.o uo;have i0:(0:Int)<=(l:Int):=O
    have i1:(l:Int)<(l:Int)+1:=O
    have i2:(l:Int)<=(l:Int)+1:=O
    go_region_with (first
     |(go_at_call 167;refine(Qv.o _ ?_).mono ?_;exact(BF _ _).drew;rintro e w4 ⟨v,q,rfl,N,hA4,ad⟩;obtain⟨k1,k2,k3⟩:=VF hA4 N.1;rw[<-HY.o]at k1;have A:=VD (by have:=Qr.o;unfold Y;omega) Qy.o N;rw[<-HY.o]at A;have ai:IntKind.u64.wrap ((y:Int)+v)=((y+v:Nat):Int):=VE A.1;have Qt:=hidR A.2;have Qz:=hidR N.1;clear A N))
    all_goals go_wp2_with fail
    all_goals
     have Qx:DJ (w4.setCell ⟨nb,l,none⟩ (.int .u64 ((y:Int)+v))) nb (q++[y+v]):=by
      have:=k3 (y+v);rwa[Int.natCast_add]at this
     have am:q.length=l:=Qz.o;have Qc:=Qx.row 0 (l+1) (l+1) si O O O;rw[AX,Ad si]at Qc;refine(YU _ _ _ Qc).mono ?_;rintro e w6 ⟨u,rfl,hu,af⟩;rw[Qt.o,VC Uc.o k.o Qw x.o.2 ae]at hu;have Ud:Bl w w6:=((below_grown Qs.drew ad X).setCell X _).trans (af.mono (by have g:=Qs.size;have M:=ad.size;simp[World.setCell]at M ⊢;omega));obtain⟨au,cu,eu⟩:=UN.form hu;subst eu;go_wp2;go_roundw
     case rel=>exact⟨b.extract n b.size,f++Jj (b.extract 0 n),au,_,cu,rfl,rfl,by rw[Cx];omega,Qu.o,hu,U.o,Ud⟩
     case measure=>
      show(b.extract n b.size).size<b.size;rw[Cx];omega
end
open Go.RowKit Go.Shelf
def KX(b:Bool)(n:Nat):Int:=if b then -(n:Int)else n
variable{l:List UInt8}{n:Nat}{a w:F}
theorem LM(b:Bool)(v:Value)(n:Nat)(w:F)(h:UN w v n):G C 72 #[D b,v] w λe a=>∃u,e=.returned u/\Jk a u (KX b n)/\Bl w a:=Ir b v n w h
def Hg:Value:=.tuple #[.agg #[D false,B none 0 0],D false]
theorem LN(s:ByteArray)(w:F):G C 122 #[E s,E ⟨#[45]⟩] w λe b=>e=.returned (.tuple #[E ⟨(J1 (Jj s)).toArray⟩,D (decide ((Jj s).head?=some 45))])/\b=w:=by
 refine(Tryz.strings_CutPrefix s ⟨#[45]⟩ w).mono ?_;rintro e b ⟨rfl,rfl⟩;have a:Lib.hasPrefix s.data.toList [45]=decide ((Jj s).head?=some 45):=by
  unfold Jj Lib.hasPrefix;cases s.data.toList with
  |nil=>rfl
  |cons c l=>
   rw[Fc];simp[List.isPrefixOf];exact eq_comm
 refine⟨?_,rfl⟩;have d:Lib.trimPrefix s.data.toList [45]=J1 (Jj s):=by
  unfold Lib.trimPrefix J1;rw[a];by_cases h:(Jj s).head?=some 45
  . rw[BC (decide_eq_true h),BC h,List.length_singleton,List.drop_one];rfl
  . rw[BA (by simp[h]),BA h];rfl
 show Ending.returned (.tuple #[E ⟨(Lib.trimPrefix s.data.toList [45]).toArray⟩,D (Lib.hasPrefix s.data.toList [45])])=_;rw[a,d]
theorem NK(h:l.length<=2000):good l=(FT (J1 l) && !(decide (l.head?=some 45)&&decide (J1 l=[48]))):=by
 rw[Fc];simp only[good,FT,Cu,Bn,Fo,CS,Bs,List.isEmpty_eq_false_iff,Bool.and_eq_false_iff];constructor
 . rintro⟨⟨⟨_,d⟩,b⟩,f⟩;refine⟨⟨f,?_⟩,?_⟩
   . rcases b with b|b
     . exact Or.inr ⟨d,b⟩
     . left;rw[b];rfl
   . rcases b with b|b
     . right;intro e;apply b;rw[e];rfl
     . left;rw[b];simp
 . rintro⟨⟨f,a⟩,c⟩;have d:J1 l≠[]:=by
    rcases a with a|a
    . rw[a];simp
    . exact a.1
   refine⟨⟨⟨h,d⟩,?_⟩,f⟩;rcases a with a|a
   . rcases c with c|c
     . right
       have:J1 l=l:=by rw[J1,BA c]
       rw[<-this];exact a
     . exact absurd a c
   . exact Or.inl a.2
def XM(l:List UInt8)(w:F)(e:Ending)(a:F):Prop:=
 (good l=true->∃u,e=.returned (.tuple #[u,D true])/\Jk a u (Xb l))/\(good l=false->e=.returned Hg)/\Bl w a
theorem XM.no(h:good l=false)(c:Bl w a):XM l w (.returned Hg) a:=
 ⟨λb=>(by rw[h]at b;cases b),λ_=>rfl,c⟩
theorem XM.yes{u:Value}(h:good l=true)(d:Jk a u (Xb l))(c:Bl w a):XM l w (.returned (.tuple #[u,D true])) a:=
 ⟨λ_=>⟨u,rfl,d⟩,λb=>(by rw[h]at b;cases b),c⟩
theorem VH(s:ByteArray)(b:2000<s.size)(c:s.size<=140737488351232)(w:F):G C 63 #[E s] w (XM (Jj s) w):=by
 have a:=hidR (show good (Jj s)=false by
  have:=JG s;simp[good];omega)
 go_enter Tryz.func63,Tryz.ntmps63
 go_wp2_with(first
  |(go_at_call 122;refine(LN _ _).mono ?_;rintro e d ⟨rfl,rfl⟩))
 exact BB (v:=Hg) (by simp[results,Tryz.results63,go_sem,Hg]) rfl (XM.no a.o (Ba _ _))
theorem VI(s:ByteArray)(k:s.size<=2000)(b:FT (J1 (Jj s))=false)(w:F):G C 63 #[E s] w (XM (Jj s) w):=by
 have j:=hidR (show good (Jj s)=false by rw[NK (by rw[JG];exact k),b];rfl);obtain⟨tb,c⟩:=ex ((⟨(J1 (Jj s)).toArray⟩:ByteArray):ByteArray);obtain⟨sg,g⟩:=ex (decide ((Jj s).head?=some 45));have a:=λV=>LN s V;rw[c,g]at a;have d:Jj tb=J1 (Jj s):=by rw[<-c];rfl
 have m:tb.size<=2000:=by
  rw[<-JG,d,J1];have:=JG s;split
  . rw[List.length_tail];omega
  . omega
 have f:=hidR λV=>Mw tb O V;rw[d,b]at f;have i:=hidR a;clear a d b c g;go_enter Tryz.func63,Tryz.ntmps63
 go_wp2_with(first
  |(go_at_call 122;refine(i.o _).mono ?_;rintro e l ⟨rfl,rfl⟩)
  |(go_at_call 123;refine(f.o _).mono ?_;rintro e l ⟨rfl,rfl⟩))
 exact BB (v:=Hg) (by simp[results,Tryz.results63,go_sem,Hg]) rfl (XM.no j.o (Ba _ _))
theorem VJ(s:ByteArray)(j:s.size<=2000)(d:FT (J1 (Jj s))=true)(b:(Jj s).head?=some 45)(c:J1 (Jj s)=[48])(w:F):G C 63 #[E s] w (XM (Jj s) w):=by
 have g:=hidR (show good (Jj s)=false by rw[NK (by rw[JG];exact j),d,c];simp[b]);have a:=λV=>LN s V;rw[c,decide_eq_true b]at a;have i:=hidR λV=>Mw ⟨[48].toArray⟩ DF V;have f:=hidR a;clear a d b c;go_enter Tryz.func63,Tryz.ntmps63
 go_wp2_with(first
  |(go_at_call 122;refine(f.o _).mono ?_;rintro e k ⟨rfl,rfl⟩)
  |(go_at_call 123;refine(i.o _).mono ?_;rintro e k ⟨rfl,rfl⟩))
 exact BB (v:=Hg) (by simp[results,Tryz.results63,go_sem,Hg]) rfl (XM.no g.o (Ba _ _))
theorem VK(s tb:ByteArray)(sg:Bool)(K:s.size<=2000)(r:Hid (good (Jj s)=true))(q:Hid (∀V,G C 122 #[E s,E ⟨#[45]⟩] V λe c=>e=.returned (.tuple #[E tb,D sg])/\c=V))
(t:Hid (∀V,G C 123 #[E tb] V λe c=>e=.returned (D true)/\c=V))(x:Hid (∀V,G C 124 #[E tb] V λe c=>∃u,e=.returned u/\UN c u (num (Jj tb))/\Bl V c))
(o:sg=true->(tb.toList == [48])=false)(y:Hid (Xb (Jj s)=KX sg (num (Jj tb))))(w:F):G C 63 #[E s] w (XM (Jj s) w):=by
 have a:=Jt.new w 35 (D false) (B none 0 0);have b:Bl w (w.alloc (.cells #[D false,B none 0 0] 35)):=Ba _ _;cases sg
 . clear o;go_enter Tryz.func63,Tryz.ntmps63
   go_wp2_with(first
    |(go_at_call 122;refine(q.o _).mono ?_;rintro e c ⟨rfl,rfl⟩)
    |(go_at_call 123;refine(t.o _).mono ?_;rintro e c ⟨rfl,rfl⟩)
    |(go_at_call 124;refine(x.o _).mono ?_;rintro e H ⟨u,rfl,j,g⟩;obtain⟨z,A,rfl⟩:=j.form;have a:=a.below g;have b:=Bt b g)
    |(go_at_call 72;refine(LM _ _ _ _ j).mono ?_;rintro e I ⟨v,rfl,k,i⟩;have a:=a.below i;have b:=Bt b i;rw[<-y.o]at k;obtain⟨d,f,c3,rfl,n⟩:=k;obtain⟨q0,p⟩:=a.cp;obtain⟨f0,f1⟩:=a.fp))
   obtain⟨m,l⟩:=IG (D (decide (Xb (Jj s)<0))) (B d f c3) b (Aa _) a rfl rfl n;exact BB (v:=.tuple #[.agg #[D (decide (Xb (Jj s)<0)),B d f c3],D true]) (by simp[results,Tryz.results63,go_sem,q0,p]) rfl (XM.yes r.o ⟨d,f,c3,rfl,m⟩ l)
 . have L:=o rfl;clear o;go_enter Tryz.func63,Tryz.ntmps63
   go_wp2_with(first
    |(go_at_call 122;refine(q.o _).mono ?_;rintro e c ⟨rfl,rfl⟩)
    |(go_at_call 123;refine(t.o _).mono ?_;rintro e c ⟨rfl,rfl⟩)
    |(go_at_call 124;refine(x.o _).mono ?_;rintro e H ⟨u,rfl,j,g⟩;obtain⟨z,A,rfl⟩:=j.form;have a:=a.below g;have b:=Bt b g)
    |(go_at_call 72;refine(LM _ _ _ _ j).mono ?_;rintro e I ⟨v,rfl,k,i⟩;have a:=a.below i;have b:=Bt b i;rw[<-y.o]at k;obtain⟨d,f,c3,rfl,n⟩:=k;obtain⟨q0,p⟩:=a.cp;obtain⟨f0,f1⟩:=a.fp))
   obtain⟨m,l⟩:=IG (D (decide (Xb (Jj s)<0))) (B d f c3) b (Aa _) a rfl rfl n;exact BB (v:=.tuple #[.agg #[D (decide (Xb (Jj s)<0)),B d f c3],D true]) (by simp[results,Tryz.results63,go_sem,q0,p]) rfl (XM.yes r.o ⟨d,f,c3,rfl,m⟩ l)
theorem VL(s:ByteArray)(l:s.size<=140737488351232)(w:F):G C 63 #[E s] w (XM (Jj s) w):=by
 by_cases j:2000<s.size
 . exact VH s j l w
 have c:s.size<=2000:=O
 cases a:FT (J1 (Jj s))
 . exact VI s c a w
 by_cases d:(Jj s).head?=some 45/\J1 (Jj s)=[48]
 . exact VJ s c a d.1 d.2 w
 have k:good (Jj s)=true:=by
  rw[NK (by rw[JG];exact c),a];by_cases b:(Jj s).head?=some 45
  . have f:¬J1 (Jj s)=[48]:=λh=>d ⟨b,h⟩;simp[f]
  . simp[b]
 have g:(J1 (Jj s)).all DV=true:=by
  unfold FT at a;rw[Cu]at a;exact a.1
 have e:Jj (⟨(J1 (Jj s)).toArray⟩:ByteArray)=J1 (Jj s):=rfl;have i:(⟨(J1 (Jj s)).toArray⟩:ByteArray).size<=2000:=by
  rw[<-JG,e,J1];have:=JG s;split
  . rw[List.length_tail];omega
  . omega
 refine VK s ⟨(J1 (Jj s)).toArray⟩ (decide ((Jj s).head?=some 45)) c k (λV=>LN s V) (λV=>?_) (λV=>?_) (λh=>?_) ?_ w
 . have:=Mw ⟨(J1 (Jj s)).toArray⟩ O V;rw[e,a]at this;exact this
 . exact VG ⟨(J1 (Jj s)).toArray⟩ (by rw[e];exact g) i V
 . rw[Lib.toList_data];exact beq_eq_false_iff_ne.2 λf=>d ⟨of_decide_eq_true h,f⟩
 . show Xb (Jj s)=_;rw[e,Xb,KX];by_cases b:(Jj s).head?=some 45
   . simp[b]
   . simp[b]
theorem row_one(W:F)(v:Nat):Row .u64 (W.alloc (.cells #[.int .u64 (v:Nat)] 115)) (B (some ⟨W.heap.size,0,none⟩) 1 1) [v]:=by
 refine⟨_,1,rfl,Z,O,Z,Or.inr ⟨W.heap.size,0,rfl,⟨_,_,BE W _⟩,λj a=>?_⟩⟩
 have:j=0:=by simp at a;omega
 subst this;exact(BG W 115 (.int .u64 (v:Nat))).cell
theorem VM(a:n≠0)(h:n<Y):Ji Y n=[n]:=by
 rw[XT Jf a,Cw h,Co h,JR]
theorem VN(h:n<Y):J6 [n]=Ji Y n:=by
 have:=YD Jf (ds:=[n]) (DG.cons h (DG.nil _));rw[<-this];simp[val]
theorem VO(N:Nat)(A:N<=9223372036854775807)(w:F):G C 29 #[.int .i64 (N:Int)] w λe m=>∃u,e=.returned u/\Jk m u N/\Bl w m:=by
 have H:¬((N:Int)<0):=O
 have z:IntKind.u64.wrap (N:Int)=(N:Int):=by rw[IntKind.wrap_u64];omega
 have p:=hidR (VN (n:=N) uo);have a:=(Jt.new w 35 (D false) (B none 0 0)).alloc (.cells #[.int .u64 (N:Nat)] 115);have b:Bl w ((w.alloc (.cells #[D false,B none 0 0] 35)).alloc (.cells #[.int .u64 (N:Nat)] 115)):=(Ba _ _).alloc Z _;have g:=row_one (w.alloc (.cells #[D false,B none 0 0] 35)) N;rw[Ax]at g;have i:(N:Int)=KX false N:=rfl;have o:=hidR i;clear i;go_enter Tryz.func29,Tryz.ntmps29
 go_wp2_with(first
  |(go_at_call 73;refine(YU _ _ _ g).mono ?_;rintro e I ⟨u,rfl,d,j⟩;rw[p.o]at d;obtain⟨x,y,rfl⟩:=UN.form d;have a:=a.below j;have b:=Bt b j)
  |(go_at_call 72;refine(LM _ _ _ _ d).mono ?_;rintro e K ⟨v,rfl,l,k⟩;have a:=a.below k;have b:=Bt b k;rw[<-o.o]at l;obtain⟨c,f,c3,rfl,s⟩:=l;obtain⟨q0,t⟩:=a.cp;obtain⟨f0,f1⟩:=a.fp))
 obtain⟨r,q⟩:=IG (D (decide ((N:Int)<0))) (B c f c3) b (Aa _) a rfl rfl s;exact BB (v:=.agg #[D (decide ((N:Int)<0)),B c f c3]) (by simp[results,Tryz.results29,go_sem,q0,t]) rfl ⟨_,rfl,⟨c,f,c3,rfl,r⟩,q⟩
theorem VP(N:Nat)(x:1<=N)(y:N<=9223372036854775808)(w:F):G C 29 #[.int .i64 (-(N:Int))] w λe k=>∃u,e=.returned u/\Jk k u (-(N:Int))/\Bl w k:=by
 have p:-(N:Int)<0:=O
 have t:IntKind.u64.wrap (-(IntKind.u64.wrap (-(N:Int))))=(N:Int):=by simp only[IntKind.wrap_u64];omega
 have m:=hidR (VM (n:=N) O uo);have a:=(Jt.new w 35 (D false) (B none 0 0)).alloc (.cells #[.int .u64 (N:Nat)] 115);have c:Bl w ((w.alloc (.cells #[D false,B none 0 0] 35)).alloc (.cells #[.int .u64 (N:Nat)] 115)):=(Ba _ _).alloc Z _;have b:=row_one (w.alloc (.cells #[D false,B none 0 0] 35)) N;rw[Ax,<-m.o]at b;have b:UN ((w.alloc (.cells #[D false,B none 0 0] 35)).alloc (.cells #[.int .u64 (N:Nat)] 115)) (B (some ⟨w.heap.size+1,0,none⟩) 1 1) N:=b;have g:-(N:Int)=KX true N:=rfl;have l:=hidR g;clear g;go_enter Tryz.func29,Tryz.ntmps29
 go_wp2_with(first
  |(go_at_call 72;refine(LM _ _ _ _ b).mono ?_;rintro e z ⟨v,rfl,j,i⟩;have a:=a.below i;have c:=Bt c i;rw[<-l.o]at j;obtain⟨d,f,c3,rfl,r⟩:=j;obtain⟨q0,s⟩:=a.cp;obtain⟨f0,f1⟩:=a.fp))
 obtain⟨q,o⟩:=IG (D true) (B d f c3) c (Aa _) a rfl rfl r;exact BB (v:=.agg #[D true,B d f c3]) (by simp[results,Tryz.results29,go_sem,q0,s]) rfl ⟨_,rfl,⟨d,f,c3,by rw[show decide (-(N:Int)<0)=true from decide_eq_true p],q⟩,o⟩
theorem Iu(n:Int)(b:-9223372036854775808<=n)(c:n<=9223372036854775807)(w:F):G C 29 #[.int .i64 n] w λe a=>∃u,e=.returned u/\Jk a u n/\Bl w a:=by
 by_cases h:n<0
 . have e:n=-(n.natAbs:Int):=O
   rw[e];exact VP n.natAbs O O w
 . have e:n=(n.natAbs:Int):=O
   rw[e];exact VO n.natAbs O w

