import Derived.Test.YtakpoihdghihmaaGreatDoorQ10
import Derived.Test.YtakpoihdghihmaaGreatDoorQ09
import Derived.Deep.DeepCutAuto
import Derived.Deep.RegionHeld3
import Derived.Deep.RegionWith
import Derived.Deep.OwnRows
import Derived.Test.YtakpoihdghihmaaGreatDoorQ04
open Go.Value renaming slice->B,bool->D,string->E
open Go.Proofs.Tryz renaming prog->C
open Go renaming World->F,Calls->G
set_option maxRecDepth 100000
set_option maxHeartbeats 16000000
namespace Go.Proofs.YtakpoihdghihmaaGreatDoor
section
open Go.RowKit Go.Shelf Go.Deep
variable{s:ByteArray}{q:List Nat}{l:List UInt8}{c n:Nat}
theorem hidR{p:Prop}(h:p):Hid p:=h
theorem TT(l:List UInt8)(a:Nat)(h:l.all DW=true)(d:num l+10^l.length*a<18446744073709551616):Lib.parseUintM (2^64-1) a l=.ok (num l+10^l.length*a):=by
 induction l generalizing a with
 |nil=>simp[Lib.parseUintM,num,Dr,val]
 |cons c l i=>
  have f:DW c=true:=Cb.1 h c (CH ..);have hl:l.all DW=true:=by rw[List.all_cons,f,Bool.true_and]at h;exact h
  have b:=YU f;have e:num (c::l)=num l+10^l.length*(c.toNat-48):=by
   have:=L0 [c] l;rw[List.singleton_append]at this;rw[this];congr 2
  have g:num (c::l)+10^(c::l).length*a=num l+10^l.length*(a*10+(c.toNat-48)):=by
   rw[e,Ae,A4,AN,AJ,As 10 a];omega
  rw[g]at d ⊢;have hp:1<=10^l.length:=Nat.one_le_pow _ _ Y;have j:a*10+(c.toNat-48)<=10^l.length*(a*10+(c.toNat-48)):=C4 _ Y;rw[Lib.parseUintM,BH ⟨b.1,b.2⟩,BB Y,BB Y];exact i _ hl d
theorem MT(h:l.all DW=true):num l<10^l.length:=by
 have:=YH (Kf h);rwa[Iz]at this
theorem TU(h:l.all DW=true)(a:l≠[])(b:l.length<=19):Lib.parseUintB 64 l=.ok (num l):=by
 have c:=MT h;have d:(10:Nat)^l.length<=10^19:=AE Y b;rw[Lib.parseUintB,BB a,TT l 0 h Y];simp
theorem bytesWorld_below(w:F)(e:TypeId)(s:ByteArray):Bl w (Lib.bytesWorld w e s):=by
 unfold Lib.bytesWorld;refine⟨rfl,rfl,rfl,?_,λk a=>?_⟩
 . simp[World.freeze]
 . show(Array.modify _ _ _)[k]?=_;rw[Array.getElem?_modify,BB (show ¬w.heap.size=k by omega)];exact Bk w.drew _ k a
theorem MU:Jj (s.extract 0 n)=(Jj s).take n:=by
 unfold Jj;rw[Lib.extract_data];simp
theorem On:Jj (s.extract n s.size)=(Jj s).drop n:=by
 unfold Jj;rw[Lib.extract_data,Ac];have:=JC s;unfold Jj at this;rw[AX,this];omega
theorem TV(s:ByteArray)(h:(Jj s).all DW=true)(b:0<s.size)(c:s.size<=19)(w:F):
 G C 166 #[E s,.int .i64 10,.int .i64 64] w λe a=>e=.returned (.tuple #[.int .u64 (num (Jj s):Nat),.nilIface])/\Bl w a:=by
 have hl:=JC s;refine(Tryz.strconv_ParseUint_10_at64_ok s Y _ (TU (l:=Jj s) h (by intro e;rw[e]at hl;simp at hl;omega) Y) w).mono ?_;rintro e a ⟨rfl,rfl|rfl⟩
 . exact⟨rfl,BE _ _⟩
 . exact⟨rfl,bytesWorld_below _ _ _⟩
def TW:Value->Nat|E s=>s.size|_=>0
theorem TX(h:l.all DW=true):(Ji O (num l)).length<=l.length:=by
 refine YY Jf (AU (MT h) (Fe ?_ _));unfold O;omega
theorem TY{a:ByteArray}{b:List UInt8}(e:c=num (Jj (a.extract 0 n)))(g:n=(a.size-1)%19+1)(i:n<=a.size)(d:b=[]\/a.size%19=0)(f:0<a.size):c+num b*10000000000000000000=num (b++Jj (a.extract 0 n)):=by
 have hl:(Jj (a.extract 0 n)).length=n:=by rw[JC,Cx];omega
 rw[L0,hl,<-e];rcases d with rfl|d
 . simp[num,Dr,val]
 . have:n=19:=Y
   rw[this,As]
theorem TZ{m l b:Nat}(n:c<O)(hl:l=(Ji O m).length)(h:Xl (c::List.replicate l 0) (Ji O m) 0 10000000000000000000 l b q):
 (c::List.replicate l 0)[l]?.getD 0+b<O/\J4 (q++[(c::List.replicate l 0)[l]?.getD 0+b])=Ji O (c+m*10000000000000000000):=by
 obtain⟨e,i,j,a⟩:=h;have p:val O (Ji O m)=m:=Jw Jf m;rw[A2]at a;have r:∀k,val O (List.replicate k 0)=0:=by
  intro k;induction k with
  |zero=>rfl
  |succ k s=>rw[Fz,Yb,s];rfl
 have f:(Ji O m).take l=Ji O m:=Ac Y;rw[f,p]at a;have d:(c::List.replicate l 0)[l]?.getD 0+b<O/\val O (q++[(c::List.replicate l 0)[l]?.getD 0+b])=c+m*10000000000000000000:=by
  cases l with
  |zero=>
   have o:m=0:=by
    have:Ji O m=[]:=AB hl.symm
    exact(Yg Jf).1 this
   subst o;have hq:q=[]:=AB e;subst hq;simp[val]at a;subst a;simp[val];exact n
  |succ l=>
   have g:(c::List.replicate (l+1) 0)[l+1]?.getD 0=0:=Z
   rw[g,Ce];refine⟨j,?_⟩;rw[XE,e,a,List.take_succ_cons,Yb,List.take_replicate,r];omega
 refine⟨d.1,?_⟩;rw[<-Yx Jf (i.append (DJ.cons d.1 (DJ.nil _))),d.2]
theorem Ta{r d:Nat}(h:r+d<O):IntKind.u64.wrap ((r:Int)+d)=((r+d:Nat):Int):=by
 unfold O at h;rw[IntKind.wrap_u64];omega
theorem Tb{a:F}{nb l:Nat}(d:DL a nb (DR (c::List.replicate l 0) 0 l q))(hq:q.length=l):
 a.cell? ⟨nb,l,none⟩=some (.int .u64 ((c::List.replicate l 0)[l]?.getD 0:Nat))/\a.frozen? ⟨nb,l,none⟩=false/\∀v,DL (a.setCell ⟨nb,l,none⟩ (.int .u64 (v:Nat))) nb (q++[v]):=by
 have b:DR (c::List.replicate l 0) 0 l q=q++[(c::List.replicate l 0)[l]?.getD 0]:=by
  have hl:l<(c::List.replicate l 0).length:=Z
  rw[DR,Fl,Aq,Ce,Cl hl,A8 Z,Am hl];rfl
 have e:=d.cell (j:=l) (by rw[b];simp;omega);rw[b,AW Y,hq,Cw]at e;refine⟨e,d.frozen l,λv=>?_⟩;have:=d.set l v;rw[b,CL _ _ Y,hq,Cw]at this;exact this
theorem Tc(s:ByteArray)(Q:(Jj s).all DW=true)(hs:s.size<=2000)(w:F):
 G C 124 #[E s] w λe w'=>∃u,e=.returned u/\UN w' u (num (Jj s))/\Bl w w':=by
 have HD:=hidR Q;clear Q;go_enter Tryz.func124,Tryz.ntmps124
 go_wp2;go_loopw [0,3] (λdv rv wr=>∃(b:ByteArray) (f:List UInt8) (a:Option Addr) (l cap:Nat),dv=E b/\rv=B a l cap/\b.size<=2000/\l<=2000/\UN wr (B a l cap) (num f)/\Hid (Jj s=f++Jj b/\(f=[]\/b.size%19=0))/\Bl w wr) λdv _ _=>TW dv
 case atStart=>exact⟨s,[],none,0,0,rfl,rfl,hs,Y,by unfold UN;simp[num,Dr,val,JN];exact Row.nil _ _,⟨Z,Or.inl rfl⟩,BE _ _⟩
 case round=>
  obtain⟨b,f,a,l,cap,rfl,rfl,an,hl,m,x,hB⟩:=hrel;by_cases h0:b.size=0
  . have Qb:Jj b=[]:=AB (by rw[JC];exact h0);have e:f=Jj s:=by rw[x.o.1,Qb,Fc]
    have HE:=hidR e;have hz:b.size<=0:=Y
    clear e Qb h0;go_wp2;go_ret;exact⟨_,rfl,by rw[<-HE.o];exact m,hB⟩
  . have ae:0<b.size:=Y
    obtain⟨n,hn⟩:∃n,n=(b.size-1)%19+1:=⟨_,rfl⟩;have En:=hidR (show(((b.size:Int)-1)%19+1)=(n:Int)by omega);have Qw:n<=b.size:=Y
    have k:=hidR hn;clear hn;go_upto_region 4 with fail
    rw[En.o];have R:(Jj (b.extract 0 n)).all DW=true:=by
     have g:=HD.o;rw[x.o.1,List.all_append,Ct]at g;rw[MU,Cb];intro c t;exact Cb.1 g.2 c (FN t)
    have H:(b.extract 0 n).size=n:=by rw[Cx];omega
    have W:num (Jj (b.extract 0 n))<10000000000000000000:=by
     have g:=MT R;rw[JC,H]at g;have M:(10:Nat)^n<=10^19:=AE Y (by have:=k.o;omega);have h3:(10:Nat)^19=10000000000000000000:=DI
     omega
    have S:=hidR λV=>TV (b.extract 0 n) R (by rw[H];have:=k.o;omega) (by rw[H];have:=k.o;omega) V;obtain⟨c,t⟩:∃c,c=num (Jj (b.extract 0 n)):=⟨_,rfl⟩;rw[<-t]at W S;have Uc:=hidR t;have Qr:=hidR W;clear R H t W;have ak:0<n:=by have:=k.o;omega
    have U:Hid (Jj s=(f++Jj (b.extract 0 n))++Jj (b.extract n b.size)/\(f++Jj (b.extract 0 n)=[]\/(b.extract n b.size).size%19=0)):=by
     refine⟨?_,Or.inr ?_⟩
     . rw[C1,MU,On,Cr];exact x.o.1
     . rw[Cx];have:=k.o;omega
    have Qu:Hid ((Ji O (num (f++Jj (b.extract 0 n)))).length<=2000):=by
     have g:=HD.o;rw[U.o.1,List.all_append,Ct]at g;have M:=TX g.1;have h3:=congrArg List.length U.o.1;rw[Av,JC]at h3;exact An M Y
    have Ua:=Ks l Y;go_upto_region 7 with(first|(go_at_call 166;refine(S.o _).mono ?_;rintro e i ⟨rfl,P⟩))
    obtain⟨K,o⟩:=ex (i.alloc (.cells (cellsOf .u64 (List.replicate (l+1) 0)).toArray 115));have I:DL K i.heap.size (List.replicate (l+1) 0):=DL.made (by rw[<-o];exact BD i _);have z:Bl w i:=Bt hB P;have Qp:Bl w K:=by rw[<-o];exact z.alloc z.size _
    have Qq:UN K (B a l cap) (num f):=by rw[<-o];exact Row.below (Row.below m P) (Ba _ _)
    have X:w.heap.size<=i.heap.size:=z.size;have Qn:Hid (∀p,a=some p->0<l->p.block≠i.heap.size):=by
     intro p ep T;obtain⟨_,_,_,_,ah⟩:=JD m;obtain⟨b',ap,ea,aj,_⟩:=ah 0 T;rw[ep]at ea;cases ea;have:=P.size;simp only;omega
    have Qm:=m.len;have Qy:=hidR Qm;rw[o];clear o Ua P z m Qm S hB;generalize i.heap.size=nb at *;have z0:=I.cell (j:=0) Z;have z1:=I.frozen 0;go_upto_region 8 with fail
    obtain⟨L,r⟩:=ex (K.setCell ⟨nb,0,none⟩ (.int .u64 (c:Nat)));have Qo:DL L nb (c::List.replicate l 0):=by rw[<-r];have:=I.set 0 c;simpa[List.replicate_succ]using this
    have Qs:Bl w L:=by rw[<-r];exact Qp.setCell X _
    have Ub:UN L (B a l cap) (num f):=by rw[<-r];exact Row.grown Qq (JQ _ _ _ _) Qn.o
    rw[r];clear r I Qp Qq z0 z1;have T:=Qo.cell (j:=l) Z;obtain⟨y,hy⟩:∃y,y=(c::List.replicate l 0)[l]?.getD 0:=⟨_,rfl⟩;rw[<-hy]at T;have HY:=hidR hy;clear hy;have Qv:=hidR λV (hV:Bl L V)=>MS nb 0 l (l+1) (c::List.replicate l 0) a cap (Ji O (num f)) 10000000000000000000 V (Qo.below hV) (DJ.cons (by have:=Qr.o;unfold O;omega) λd Q=>by rw[C6 Q];unfold O;omega) Z Y (Row.below Ub hV) (JA Jf _) Qn.o uo;have i0:(0:Int)<=(l:Int):=Y
    have i1:(l:Int)<(l:Int)+1:=Y
    have i2:(l:Int)<=(l:Int)+1:=Y
    go_region_with (first
     |(go_at_call 167;refine(Qv.o _ ?_).mono ?_;exact(BE _ _).drew;rintro e w4 ⟨v,q,rfl,N,hA4,ad⟩;obtain⟨k1,k2,k3⟩:=Tb hA4 N.1;rw[<-HY.o]at k1;have A:=TZ (by have:=Qr.o;unfold O;omega) Qy.o N;rw[<-HY.o]at A;have ai:IntKind.u64.wrap ((y:Int)+v)=((y+v:Nat):Int):=Ta A.1;have Qt:=hidR A.2;have Qz:=hidR N.1;clear A N))
    all_goals go_wp2_with fail
    all_goals
     have Qx:DL (w4.setCell ⟨nb,l,none⟩ (.int .u64 ((y:Int)+v))) nb (q++[y+v]):=by
      have:=k3 (y+v);rwa[Int.natCast_add]at this
     have am:q.length=l:=Qz.o;have Qc:=Qx.row 0 (l+1) (l+1) si Y Y Y;rw[A2,Ac si]at Qc;refine(YP _ _ _ Qc).mono ?_;rintro e w6 ⟨u,rfl,hu,af⟩;rw[Qt.o,TY Uc.o k.o Qw x.o.2 ae]at hu;have Ud:Bl w w6:=((below_grown Qs.drew ad X).setCell X _).trans (af.mono (by have g:=Qs.size;have M:=ad.size;simp[World.setCell]at M ⊢;omega));obtain⟨au,cu,eu⟩:=UN.form hu;subst eu;go_wp2;go_roundw
     case rel=>exact⟨b.extract n b.size,f++Jj (b.extract 0 n),au,_,cu,rfl,rfl,by rw[Cx];omega,Qu.o,hu,U.o,Ud⟩
     case measure=>
      show(b.extract n b.size).size<b.size;rw[Cx];omega
end
open Go.RowKit Go.Shelf
def I6(b:Bool)(n:Nat):Int:=if b then -(n:Int)else n
variable{l:List UInt8}{n:Nat}{a w:F}
theorem Kw(b:Bool)(v:Value)(n:Nat)(w:F)(h:UN w v n):G C 72 #[D b,v] w λe a=>∃u,e=.returned u/\Jk a u (I6 b n)/\Bl w a:=IF b v n w h
def Gj:Value:=.tuple #[.agg #[D false,B none 0 0],D false]
theorem Kx(s:ByteArray)(w:F):G C 122 #[E s,E ⟨#[45]⟩] w λe b=>e=.returned (.tuple #[E ⟨(JX (Jj s)).toArray⟩,D (decide ((Jj s).head?=some 45))])/\b=w:=by
 refine(Tryz.strings_CutPrefix s ⟨#[45]⟩ w).mono ?_;rintro e b ⟨rfl,rfl⟩;have a:Lib.hasPrefix s.data.toList [45]=decide ((Jj s).head?=some 45):=by
  unfold Jj Lib.hasPrefix;cases s.data.toList with
  |nil=>rfl
  |cons c l=>
   rw[Fd];simp[List.isPrefixOf];exact eq_comm
 refine⟨?_,rfl⟩;have d:Lib.trimPrefix s.data.toList [45]=JX (Jj s):=by
  unfold Lib.trimPrefix JX;rw[a];by_cases h:(Jj s).head?=some 45
  . rw[BH (decide_eq_true h),BH h,List.length_singleton,List.drop_one];rfl
  . rw[BB (by simp[h]),BB h];rfl
 show Ending.returned (.tuple #[E ⟨(Lib.trimPrefix s.data.toList [45]).toArray⟩,D (Lib.hasPrefix s.data.toList [45])])=_;rw[a,d]
theorem MV(h:l.length<=2000):good l=(E1 (JX l) && !(decide (l.head?=some 45)&&decide (JX l=[48]))):=by
 rw[Fd];simp only[good,E1,Ct,Bs,Fs,CR,Bv,List.isEmpty_eq_false_iff,Bool.and_eq_false_iff];constructor
 . rintro⟨⟨⟨_,d⟩,b⟩,f⟩;refine⟨⟨f,?_⟩,?_⟩
   . rcases b with b|b
     . exact Or.inr ⟨d,b⟩
     . left;rw[b];rfl
   . rcases b with b|b
     . right;intro e;apply b;rw[e];rfl
     . left;rw[b];simp
 . rintro⟨⟨f,a⟩,c⟩;have d:JX l≠[]:=by
    rcases a with a|a
    . rw[a];simp
    . exact a.1
   refine⟨⟨⟨h,d⟩,?_⟩,f⟩;rcases a with a|a
   . rcases c with c|c
     . right
       have:JX l=l:=by rw[JX,BB c]
       rw[<-this];exact a
     . exact absurd a c
   . exact Or.inl a.2
def XF(l:List UInt8)(w:F)(e:Ending)(a:F):Prop:=
 (good l=true->∃u,e=.returned (.tuple #[u,D true])/\Jk a u (Y4 l))/\(good l=false->e=.returned Gj)/\Bl w a
theorem XF.no(h:good l=false)(c:Bl w a):XF l w (.returned Gj) a:=
 ⟨λb=>(by rw[h]at b;cases b),λ_=>rfl,c⟩
theorem XF.yes{u:Value}(h:good l=true)(d:Jk a u (Y4 l))(c:Bl w a):XF l w (.returned (.tuple #[u,D true])) a:=
 ⟨λ_=>⟨u,rfl,d⟩,λb=>(by rw[h]at b;cases b),c⟩
theorem Td(s:ByteArray)(b:2000<s.size)(c:s.size<=140737488351232)(w:F):G C 63 #[E s] w (XF (Jj s) w):=by
 have a:=hidR (show good (Jj s)=false by
  have:=JC s;simp[good];omega)
 go_enter Tryz.func63,Tryz.ntmps63
 go_wp2_with(first
  |(go_at_call 122;refine(Kx _ _).mono ?_;rintro e d ⟨rfl,rfl⟩))
 exact BA (v:=Gj) (by simp[results,Tryz.results63,go_sem,Gj]) rfl (XF.no a.o (Ba _ _))
theorem Te(s:ByteArray)(k:s.size<=2000)(b:E1 (JX (Jj s))=false)(w:F):G C 63 #[E s] w (XF (Jj s) w):=by
 have j:=hidR (show good (Jj s)=false by rw[MV (by rw[JC];exact k),b];rfl);obtain⟨tb,c⟩:=ex ((⟨(JX (Jj s)).toArray⟩:ByteArray):ByteArray);obtain⟨sg,g⟩:=ex (decide ((Jj s).head?=some 45));have a:=λV=>Kx s V;rw[c,g]at a;have d:Jj tb=JX (Jj s):=by rw[<-c];rfl
 have m:tb.size<=2000:=by
  rw[<-JC,d,JX];have:=JC s;split
  . rw[List.length_tail];omega
  . omega
 have f:=hidR λV=>MF tb Y V;rw[d,b]at f;have i:=hidR a;clear a d b c g;go_enter Tryz.func63,Tryz.ntmps63
 go_wp2_with(first
  |(go_at_call 122;refine(i.o _).mono ?_;rintro e l ⟨rfl,rfl⟩)
  |(go_at_call 123;refine(f.o _).mono ?_;rintro e l ⟨rfl,rfl⟩))
 exact BA (v:=Gj) (by simp[results,Tryz.results63,go_sem,Gj]) rfl (XF.no j.o (Ba _ _))
theorem Tf(s:ByteArray)(j:s.size<=2000)(d:E1 (JX (Jj s))=true)(b:(Jj s).head?=some 45)(c:JX (Jj s)=[48])(w:F):G C 63 #[E s] w (XF (Jj s) w):=by
 have g:=hidR (show good (Jj s)=false by rw[MV (by rw[JC];exact j),d,c];simp[b]);have a:=λV=>Kx s V;rw[c,decide_eq_true b]at a;have i:=hidR λV=>MF ⟨[48].toArray⟩ DI V;have f:=hidR a;clear a d b c;go_enter Tryz.func63,Tryz.ntmps63
 go_wp2_with(first
  |(go_at_call 122;refine(f.o _).mono ?_;rintro e k ⟨rfl,rfl⟩)
  |(go_at_call 123;refine(i.o _).mono ?_;rintro e k ⟨rfl,rfl⟩))
 exact BA (v:=Gj) (by simp[results,Tryz.results63,go_sem,Gj]) rfl (XF.no g.o (Ba _ _))
theorem Tg(s tb:ByteArray)(sg:Bool)(K:s.size<=2000)(r:Hid (good (Jj s)=true))(q:Hid (∀V,G C 122 #[E s,E ⟨#[45]⟩] V λe c=>e=.returned (.tuple #[E tb,D sg])/\c=V))
(t:Hid (∀V,G C 123 #[E tb] V λe c=>e=.returned (D true)/\c=V))(x:Hid (∀V,G C 124 #[E tb] V λe c=>∃u,e=.returned u/\UN c u (num (Jj tb))/\Bl V c))
(o:sg=true->(tb.toList == [48])=false)(y:Hid (Y4 (Jj s)=I6 sg (num (Jj tb))))(w:F):G C 63 #[E s] w (XF (Jj s) w):=by
 have a:=Jn.new w 35 (D false) (B none 0 0);have b:Bl w (w.alloc (.cells #[D false,B none 0 0] 35)):=Ba _ _;cases sg
 . clear o;go_enter Tryz.func63,Tryz.ntmps63
   go_wp2_with(first
    |(go_at_call 122;refine(q.o _).mono ?_;rintro e c ⟨rfl,rfl⟩)
    |(go_at_call 123;refine(t.o _).mono ?_;rintro e c ⟨rfl,rfl⟩)
    |(go_at_call 124;refine(x.o _).mono ?_;rintro e H ⟨u,rfl,j,g⟩;obtain⟨z,A,rfl⟩:=j.form;have a:=a.below g;have b:=Bt b g)
    |(go_at_call 72;refine(Kw _ _ _ _ j).mono ?_;rintro e I ⟨v,rfl,k,i⟩;have a:=a.below i;have b:=Bt b i;rw[<-y.o]at k;obtain⟨d,f,c3,rfl,n⟩:=k;obtain⟨q0,p⟩:=a.cp;obtain⟨f0,f1⟩:=a.fp))
   obtain⟨m,l⟩:=Hf (D (decide (Y4 (Jj s)<0))) (B d f c3) b (Aa _) a rfl rfl n;exact BA (v:=.tuple #[.agg #[D (decide (Y4 (Jj s)<0)),B d f c3],D true]) (by simp[results,Tryz.results63,go_sem,q0,p]) rfl (XF.yes r.o ⟨d,f,c3,rfl,m⟩ l)
 . have L:=o rfl;clear o;go_enter Tryz.func63,Tryz.ntmps63
   go_wp2_with(first
    |(go_at_call 122;refine(q.o _).mono ?_;rintro e c ⟨rfl,rfl⟩)
    |(go_at_call 123;refine(t.o _).mono ?_;rintro e c ⟨rfl,rfl⟩)
    |(go_at_call 124;refine(x.o _).mono ?_;rintro e H ⟨u,rfl,j,g⟩;obtain⟨z,A,rfl⟩:=j.form;have a:=a.below g;have b:=Bt b g)
    |(go_at_call 72;refine(Kw _ _ _ _ j).mono ?_;rintro e I ⟨v,rfl,k,i⟩;have a:=a.below i;have b:=Bt b i;rw[<-y.o]at k;obtain⟨d,f,c3,rfl,n⟩:=k;obtain⟨q0,p⟩:=a.cp;obtain⟨f0,f1⟩:=a.fp))
   obtain⟨m,l⟩:=Hf (D (decide (Y4 (Jj s)<0))) (B d f c3) b (Aa _) a rfl rfl n;exact BA (v:=.tuple #[.agg #[D (decide (Y4 (Jj s)<0)),B d f c3],D true]) (by simp[results,Tryz.results63,go_sem,q0,p]) rfl (XF.yes r.o ⟨d,f,c3,rfl,m⟩ l)
theorem Th(s:ByteArray)(l:s.size<=140737488351232)(w:F):G C 63 #[E s] w (XF (Jj s) w):=by
 by_cases j:2000<s.size
 . exact Td s j l w
 have c:s.size<=2000:=Y
 cases a:E1 (JX (Jj s))
 . exact Te s c a w
 by_cases d:(Jj s).head?=some 45/\JX (Jj s)=[48]
 . exact Tf s c a d.1 d.2 w
 have k:good (Jj s)=true:=by
  rw[MV (by rw[JC];exact c),a];by_cases b:(Jj s).head?=some 45
  . have f:¬JX (Jj s)=[48]:=λh=>d ⟨b,h⟩;simp[f]
  . simp[b]
 have g:(JX (Jj s)).all DW=true:=by
  unfold E1 at a;rw[Ct]at a;exact a.1
 have e:Jj (⟨(JX (Jj s)).toArray⟩:ByteArray)=JX (Jj s):=rfl;have i:(⟨(JX (Jj s)).toArray⟩:ByteArray).size<=2000:=by
  rw[<-JC,e,JX];have:=JC s;split
  . rw[List.length_tail];omega
  . omega
 refine Tg s ⟨(JX (Jj s)).toArray⟩ (decide ((Jj s).head?=some 45)) c k (λV=>Kx s V) (λV=>?_) (λV=>?_) (λh=>?_) ?_ w
 . have:=MF ⟨(JX (Jj s)).toArray⟩ Y V;rw[e,a]at this;exact this
 . exact Tc ⟨(JX (Jj s)).toArray⟩ (by rw[e];exact g) i V
 . rw[Lib.toList_data];exact beq_eq_false_iff_ne.2 λf=>d ⟨of_decide_eq_true h,f⟩
 . show Y4 (Jj s)=_;rw[e,Y4,I6];by_cases b:(Jj s).head?=some 45
   . simp[b]
   . simp[b]
theorem row_one(W:F)(v:Nat):Row .u64 (W.alloc (.cells #[.int .u64 (v:Nat)] 115)) (B (some ⟨W.heap.size,0,none⟩) 1 1) [v]:=by
 refine⟨_,1,rfl,Z,Y,Z,Or.inr ⟨W.heap.size,0,rfl,⟨_,_,BD W _⟩,λj a=>?_⟩⟩
 have:j=0:=by simp at a;omega
 subst this;exact(BI W 115 (.int .u64 (v:Nat))).cell
theorem Ti(a:n≠0)(h:n<O):Ji O n=[n]:=by
 rw[XL Jf a,Cv h,Co h,JN]
theorem Tj(h:n<O):J4 [n]=Ji O n:=by
 have:=Yx Jf (ds:=[n]) (DJ.cons h (DJ.nil _));rw[<-this];simp[val]
theorem Tk(N:Nat)(A:N<=9223372036854775807)(w:F):G C 29 #[.int .i64 (N:Int)] w λe m=>∃u,e=.returned u/\Jk m u N/\Bl w m:=by
 have H:¬((N:Int)<0):=Y
 have z:IntKind.u64.wrap (N:Int)=(N:Int):=by rw[IntKind.wrap_u64];omega
 have p:=hidR (Tj (n:=N) uo);have a:=(Jn.new w 35 (D false) (B none 0 0)).alloc (.cells #[.int .u64 (N:Nat)] 115);have b:Bl w ((w.alloc (.cells #[D false,B none 0 0] 35)).alloc (.cells #[.int .u64 (N:Nat)] 115)):=(Ba _ _).alloc Z _;have g:=row_one (w.alloc (.cells #[D false,B none 0 0] 35)) N;rw[Ax]at g;have i:(N:Int)=I6 false N:=rfl;have o:=hidR i;clear i;go_enter Tryz.func29,Tryz.ntmps29
 go_wp2_with(first
  |(go_at_call 73;refine(YP _ _ _ g).mono ?_;rintro e I ⟨u,rfl,d,j⟩;rw[p.o]at d;obtain⟨x,y,rfl⟩:=UN.form d;have a:=a.below j;have b:=Bt b j)
  |(go_at_call 72;refine(Kw _ _ _ _ d).mono ?_;rintro e K ⟨v,rfl,l,k⟩;have a:=a.below k;have b:=Bt b k;rw[<-o.o]at l;obtain⟨c,f,c3,rfl,s⟩:=l;obtain⟨q0,t⟩:=a.cp;obtain⟨f0,f1⟩:=a.fp))
 obtain⟨r,q⟩:=Hf (D (decide ((N:Int)<0))) (B c f c3) b (Aa _) a rfl rfl s;exact BA (v:=.agg #[D (decide ((N:Int)<0)),B c f c3]) (by simp[results,Tryz.results29,go_sem,q0,t]) rfl ⟨_,rfl,⟨c,f,c3,rfl,r⟩,q⟩
theorem Tl(N:Nat)(x:1<=N)(y:N<=9223372036854775808)(w:F):G C 29 #[.int .i64 (-(N:Int))] w λe k=>∃u,e=.returned u/\Jk k u (-(N:Int))/\Bl w k:=by
 have p:-(N:Int)<0:=Y
 have t:IntKind.u64.wrap (-(IntKind.u64.wrap (-(N:Int))))=(N:Int):=by simp only[IntKind.wrap_u64];omega
 have m:=hidR (Ti (n:=N) Y uo);have a:=(Jn.new w 35 (D false) (B none 0 0)).alloc (.cells #[.int .u64 (N:Nat)] 115);have c:Bl w ((w.alloc (.cells #[D false,B none 0 0] 35)).alloc (.cells #[.int .u64 (N:Nat)] 115)):=(Ba _ _).alloc Z _;have b:=row_one (w.alloc (.cells #[D false,B none 0 0] 35)) N;rw[Ax,<-m.o]at b;have b:UN ((w.alloc (.cells #[D false,B none 0 0] 35)).alloc (.cells #[.int .u64 (N:Nat)] 115)) (B (some ⟨w.heap.size+1,0,none⟩) 1 1) N:=b;have g:-(N:Int)=I6 true N:=rfl;have l:=hidR g;clear g;go_enter Tryz.func29,Tryz.ntmps29
 go_wp2_with(first
  |(go_at_call 72;refine(Kw _ _ _ _ b).mono ?_;rintro e z ⟨v,rfl,j,i⟩;have a:=a.below i;have c:=Bt c i;rw[<-l.o]at j;obtain⟨d,f,c3,rfl,r⟩:=j;obtain⟨q0,s⟩:=a.cp;obtain⟨f0,f1⟩:=a.fp))
 obtain⟨q,o⟩:=Hf (D true) (B d f c3) c (Aa _) a rfl rfl r;exact BA (v:=.agg #[D true,B d f c3]) (by simp[results,Tryz.results29,go_sem,q0,s]) rfl ⟨_,rfl,⟨d,f,c3,by rw[show decide (-(N:Int)<0)=true from decide_eq_true p],q⟩,o⟩
theorem IH(n:Int)(b:-9223372036854775808<=n)(c:n<=9223372036854775807)(w:F):G C 29 #[.int .i64 n] w λe a=>∃u,e=.returned u/\Jk a u n/\Bl w a:=by
 by_cases h:n<0
 . have e:n=-(n.natAbs:Int):=Y
   rw[e];exact Tl n.natAbs Y Y w
 . have e:n=(n.natAbs:Int):=Y
   rw[e];exact Tk n.natAbs Y w

