import Derived.Test.YteldjhhjnchdeaaGreatDoorW10
import Derived.Test.YteldjhhjnchdeaaGreatDoorW09
import Derived.Deep.DeepCutAuto
import Derived.Deep.RegionHeld3
import Derived.Deep.RegionWith
import Derived.Deep.OwnRows
import Derived.Test.YteldjhhjnchdeaaGreatDoorW04
open Go.Value renaming slice->B,bool->D,string->E
open Go.Proofs.Tryz renaming prog->C
open Go renaming World->F,Calls->G
set_option maxRecDepth 100000
set_option maxHeartbeats 16000000
namespace Go.Proofs.YteldjhhjnchdeaaGreatDoor
section
open Go.RowKit Go.Shelf Go.Deep
variable{s:ByteArray}{q:List Nat}{l:List UInt8}{c n:Nat}
theorem hidR{p:Prop}(h:p):Hid p:=h
theorem TP(l:List UInt8)(a:Nat)(h:l.all DU=true)(d:num l+10^l.length*a<18446744073709551616):Lib.parseUintM (2^64-1) a l=.ok (num l+10^l.length*a):=by
 induction l generalizing a with
 |nil=>simp[Lib.parseUintM,num,Dr,val]
 |cons c l i=>
  have f:DU c=true:=A1.1 h c (CH ..);have hl:l.all DU=true:=by rw[List.all_cons,f,Bool.true_and]at h;exact h
  have b:=YK f;have e:num (c::l)=num l+10^l.length*(c.toNat-48):=by
   have:=Ih [c] l;rw[List.singleton_append]at this;rw[this];congr 2
  have g:num (c::l)+10^(c::l).length*a=num l+10^l.length*(a*10+(c.toNat-48)):=by
   rw[e,Ao,AY,AO,AH,Av 10 a];omega
  rw[g]at d ⊢;have hp:1<=10^l.length:=Nat.one_le_pow _ _ Y;have j:a*10+(c.toNat-48)<=10^l.length*(a*10+(c.toNat-48)):=Cz _ Y;rw[Lib.parseUintM,BJ ⟨b.1,b.2⟩,BH Y,BH Y];exact i _ hl d
theorem ME(h:l.all DU=true):num l<10^l.length:=by
 have:=Yv (KP h);rwa[Ig]at this
theorem TQ(h:l.all DU=true)(a:l≠[])(b:l.length<=19):Lib.parseUintB 64 l=.ok (num l):=by
 have c:=ME h;have d:(10:Nat)^l.length<=10^19:=Ay Y b;rw[Lib.parseUintB,BH a,TP l 0 h Y];simp
theorem bytesWorld_below(w:F)(e:TypeId)(s:ByteArray):Bl w (Lib.bytesWorld w e s):=by
 unfold Lib.bytesWorld;refine⟨rfl,rfl,rfl,?_,λk a=>?_⟩
 . simp[World.freeze]
 . show(Array.modify _ _ _)[k]?=_;rw[Array.getElem?_modify,BH (show ¬w.heap.size=k by omega)];exact Bf w.drew _ k a
theorem MF:Jh (s.extract 0 n)=(Jh s).take n:=by
 unfold Jh;rw[Lib.extract_data];simp
theorem Od:Jh (s.extract n s.size)=(Jh s).drop n:=by
 unfold Jh;rw[Lib.extract_data,Ag];have:=JB s;unfold Jh at this;rw[AV,this];omega
theorem TR(s:ByteArray)(h:(Jh s).all DU=true)(b:0<s.size)(c:s.size<=19)(w:F):
 G C 205 #[E s,.int .i64 10,.int .i64 64] w λe a=>e=.returned (.tuple #[.int .u64 (num (Jh s):Nat),.nilIface])/\Bl w a:=by
 have hl:=JB s;refine(Tryz.strconv_ParseUint_10_at64_ok s Y _ (TQ (l:=Jh s) h (by intro e;rw[e]at hl;simp at hl;omega) Y) w).mono ?_;rintro e a ⟨rfl,rfl|rfl⟩
 . exact⟨rfl,BE _ _⟩
 . exact⟨rfl,bytesWorld_below _ _ _⟩
def TS:Value->Nat|E s=>s.size|_=>0
theorem TT(h:l.all DU=true):(Jg J (num l)).length<=l.length:=by
 refine JX Jf (AC (ME h) (CN ?_ _));unfold J;omega
theorem TU{a:ByteArray}{b:List UInt8}(e:c=num (Jh (a.extract 0 n)))(g:n=(a.size-1)%19+1)(i:n<=a.size)(d:b=[]\/a.size%19=0)(f:0<a.size):c+num b*10000000000000000000=num (b++Jh (a.extract 0 n)):=by
 have hl:(Jh (a.extract 0 n)).length=n:=by rw[JB,Cp];omega
 rw[Ih,hl,<-e];rcases d with rfl|d
 . simp[num,Dr,val]
 . have:n=19:=Y
   rw[this,Av]
theorem TV{m l b:Nat}(n:c<J)(hl:l=(Jg J m).length)(h:Xe (c::List.replicate l 0) (Jg J m) 0 10000000000000000000 l b q):
 (c::List.replicate l 0)[l]?.getD 0+b<J/\JI (q++[(c::List.replicate l 0)[l]?.getD 0+b])=Jg J (c+m*10000000000000000000):=by
 obtain⟨e,i,j,a⟩:=h;have p:val J (Jg J m)=m:=Js Jf m;rw[AQ]at a;have r:∀k,val J (List.replicate k 0)=0:=by
  intro k;induction k with
  |zero=>rfl
  |succ k s=>rw[C9,J3,s];rfl
 have f:(Jg J m).take l=Jg J m:=Ag Y;rw[f,p]at a;have d:(c::List.replicate l 0)[l]?.getD 0+b<J/\val J (q++[(c::List.replicate l 0)[l]?.getD 0+b])=c+m*10000000000000000000:=by
  cases l with
  |zero=>
   have o:m=0:=by
    have:Jg J m=[]:=Az hl.symm
    exact(JL Jf).1 this
   subst o;have hq:q=[]:=Az e;subst hq;simp[val]at a;subst a;simp[val];exact n
  |succ l=>
   have g:(c::List.replicate (l+1) 0)[l+1]?.getD 0=0:=O
   rw[g,A9];refine⟨j,?_⟩;rw[Xs,e,a,List.take_succ_cons,J3,List.take_replicate,r];omega
 refine⟨d.1,?_⟩;rw[<-Yj Jf (i.append (DM.cons d.1 (DM.nil _))),d.2]
theorem TW{r d:Nat}(h:r+d<J):IntKind.u64.wrap ((r:Int)+d)=((r+d:Nat):Int):=by
 unfold J at h;rw[IntKind.wrap_u64];omega
theorem TY{a:F}{nb l:Nat}(d:DO a nb (DS (c::List.replicate l 0) 0 l q))(hq:q.length=l):
 a.cell? ⟨nb,l,none⟩=some (.int .u64 ((c::List.replicate l 0)[l]?.getD 0:Nat))/\a.frozen? ⟨nb,l,none⟩=false/\∀v,DO (a.setCell ⟨nb,l,none⟩ (.int .u64 (v:Nat))) nb (q++[v]):=by
 have b:DS (c::List.replicate l 0) 0 l q=q++[(c::List.replicate l 0)[l]?.getD 0]:=by
  have hl:l<(c::List.replicate l 0).length:=O
  rw[DS,CV,At,A9,A6 hl,A2 O,An hl];rfl
 have e:=d.cell (j:=l) (by rw[b];simp;omega);rw[b,AW Y,hq,A7]at e;refine⟨e,d.frozen l,λv=>?_⟩;have:=d.set l v;rw[b,CC _ _ Y,hq,A7]at this;exact this
theorem TZ(s:ByteArray)(Q:(Jh s).all DU=true)(hs:s.size<=2000)(w:F):
 G C 199 #[E s] w λe w'=>∃u,e=.returned u/\UN w' u (num (Jh s))/\Bl w w':=by
 have HD:=hidR Q;clear Q;go_enter Tryz.func199,Tryz.ntmps199
 go_wp2;go_loopw [0,3] (λdv rv wr=>∃(b:ByteArray) (f:List UInt8) (a:Option Addr) (l cap:Nat),dv=E b/\rv=B a l cap/\b.size<=2000/\l<=2000/\UN wr (B a l cap) (num f)/\Hid (Jh s=f++Jh b/\(f=[]\/b.size%19=0))/\Bl w wr) λdv _ _=>TS dv
 case atStart=>exact⟨s,[],none,0,0,rfl,rfl,hs,Y,by unfold UN;simp[num,Dr,val,JF];exact Row.nil _ _,⟨O,Or.inl rfl⟩,BE _ _⟩
 case round=>
  obtain⟨b,f,a,l,cap,rfl,rfl,ap,hl,m,x,hB⟩:=hrel;by_cases h0:b.size=0
  . have Qb:Jh b=[]:=Az (by rw[JB];exact h0);have e:f=Jh s:=by rw[x.o.1,Qb,CW]
    have HE:=hidR e;have hz:b.size<=0:=Y
    clear e Qb h0;go_wp2;go_ret;exact⟨_,rfl,by rw[<-HE.o];exact m,hB⟩
  . have ae:0<b.size:=Y
    obtain⟨n,hn⟩:∃n,n=(b.size-1)%19+1:=⟨_,rfl⟩;have En:=hidR (show(((b.size:Int)-1)%19+1)=(n:Int)by omega);have Qw:n<=b.size:=Y
    have k:=hidR hn;clear hn;go_upto_region 4 with fail
    rw[En.o];have R:(Jh (b.extract 0 n)).all DU=true:=by
     have g:=HD.o;rw[x.o.1,Fk,Co]at g;rw[MF,A1];intro c t;exact A1.1 g.2 c (FF t)
    have H:(b.extract 0 n).size=n:=by rw[Cp];omega
    have W:num (Jh (b.extract 0 n))<10000000000000000000:=by
     have g:=ME R;rw[JB,H]at g;have M:(10:Nat)^n<=10^19:=Ay Y (by have:=k.o;omega);have h3:(10:Nat)^19=10000000000000000000:=DL
     omega
    have S:=hidR λV=>TR (b.extract 0 n) R (by rw[H];have:=k.o;omega) (by rw[H];have:=k.o;omega) V;obtain⟨c,t⟩:∃c,c=num (Jh (b.extract 0 n)):=⟨_,rfl⟩;rw[<-t]at W S;have Uc:=hidR t;have Qr:=hidR W;clear R H t W;have am:0<n:=by have:=k.o;omega
    have U:Hid (Jh s=(f++Jh (b.extract 0 n))++Jh (b.extract n b.size)/\(f++Jh (b.extract 0 n)=[]\/(b.extract n b.size).size%19=0)):=by
     refine⟨?_,Or.inr ?_⟩
     . rw[CO,MF,Od,Ch];exact x.o.1
     . rw[Cp];have:=k.o;omega
    have Qu:Hid ((Jg J (num (f++Jh (b.extract 0 n)))).length<=2000):=by
     have g:=HD.o;rw[U.o.1,Fk,Co]at g;have M:=TT g.1;have h3:=Bo List.length U.o.1;rw[Aq,JB]at h3;exact Aw M Y
    have Ua:=Kc l Y;go_upto_region 7 with(first|(go_at_call 205;refine(S.o _).mono ?_;rintro e i ⟨rfl,P⟩))
    obtain⟨K,o⟩:=ex (i.alloc (.cells (cellsOf .u64 (List.replicate (l+1) 0)).toArray 156));have I:DO K i.heap.size (List.replicate (l+1) 0):=DO.made (by rw[<-o];exact BD i _);have z:Bl w i:=Bt hB P;have Qp:Bl w K:=by rw[<-o];exact z.alloc z.size _
    have Qq:UN K (B a l cap) (num f):=by rw[<-o];exact Row.below (Row.below m P) (Ba _ _)
    have X:w.heap.size<=i.heap.size:=z.size;have Qn:Hid (∀p,a=some p->0<l->p.block≠i.heap.size):=by
     intro p ep T;obtain⟨_,_,_,_,ah⟩:=JA m;obtain⟨b',aq,ea,ak,_⟩:=ah 0 T;rw[ep]at ea;cases ea;have:=P.size;simp only;omega
    have Qm:=m.len;have Qy:=hidR Qm;rw[o];clear o Ua P z m Qm S hB;generalize i.heap.size=nb at *;have z0:=I.cell (j:=0) O;have z1:=I.frozen 0;go_upto_region 8 with fail
    obtain⟨L,r⟩:=ex (K.setCell ⟨nb,0,none⟩ (.int .u64 (c:Nat)));have Qo:DO L nb (c::List.replicate l 0):=by rw[<-r];have:=I.set 0 c;simpa[List.replicate_succ]using this
    have Qs:Bl w L:=by rw[<-r];exact Qp.setCell X _
    have Ub:UN L (B a l cap) (num f):=by rw[<-r];exact Row.grown Qq (JJ _ _ _ _) Qn.o
    rw[r];clear r I Qp Qq z0 z1;have T:=Qo.cell (j:=l) O;obtain⟨y,hy⟩:∃y,y=(c::List.replicate l 0)[l]?.getD 0:=⟨_,rfl⟩;rw[<-hy]at T;have HY:=hidR hy;clear hy;have Qv:=hidR λV (hV:Bl L V)=>MD nb 0 l (l+1) (c::List.replicate l 0) a cap (Jg J (num f)) 10000000000000000000 V (Qo.below hV) (DM.cons (by have:=Qr.o;unfold J;omega) λd Q=>by rw[C3 Q];unfold J;omega) O Y (Row.below Ub hV) (Ju Jf _) Qn.o uo;have i0:(0:Int)<=(l:Int):=Y
    have i1:(l:Int)<(l:Int)+1:=Y
    have i2:(l:Int)<=(l:Int)+1:=Y
    go_region_with (first
     |(go_at_call 163;refine(Qv.o _ ?_).mono ?_;exact(BE _ _).drew;rintro e w4 ⟨v,q,rfl,N,hA4,ad⟩;obtain⟨k1,k2,k3⟩:=TY hA4 N.1;rw[<-HY.o]at k1;have A:=TV (by have:=Qr.o;unfold J;omega) Qy.o N;rw[<-HY.o]at A;have ai:IntKind.u64.wrap ((y:Int)+v)=((y+v:Nat):Int):=TW A.1;have Qt:=hidR A.2;have Qz:=hidR N.1;clear A N))
    all_goals go_wp2_with fail
    all_goals
     have Qx:DO (w4.setCell ⟨nb,l,none⟩ (.int .u64 ((y:Int)+v))) nb (q++[y+v]):=by
      have:=k3 (y+v);rwa[Int.natCast_add]at this
     have an:q.length=l:=Qz.o;have Qc:=Qx.row 0 (l+1) (l+1) si Y Y Y;rw[AQ,Ag si]at Qc;refine(YD _ _ _ Qc).mono ?_;rintro e w6 ⟨u,rfl,hu,af⟩;rw[Qt.o,TU Uc.o k.o Qw x.o.2 ae]at hu;have Ud:Bl w w6:=((below_grown Qs.drew ad X).setCell X _).trans (af.mono (by have g:=Qs.size;have M:=ad.size;simp[World.setCell]at M ⊢;omega));obtain⟨au,cu,eu⟩:=UN.form hu;subst eu;go_wp2;go_roundw
     case rel=>exact⟨b.extract n b.size,f++Jh (b.extract 0 n),au,_,cu,rfl,rfl,by rw[Cp];omega,Qu.o,hu,U.o,Ud⟩
     case measure=>
      show(b.extract n b.size).size<b.size;rw[Cp];omega
end
open Go.RowKit Go.Shelf
def Iq(b:Bool)(n:Nat):Int:=if b then -(n:Int)else n
variable{l:List UInt8}{n:Nat}{a w:F}
theorem Kg(b:Bool)(v:Value)(n:Nat)(w:F)(h:UN w v n):G C 119 #[D b,v] w λe a=>∃u,e=.returned u/\Jk a u (Iq b n)/\Bl w a:=H7 b v n w h
def Gi:Value:=.tuple #[.agg #[D false,B none 0 0],D false]
theorem Ir(s:ByteArray)(w:F):G C 70 #[E s,E ⟨#[45]⟩] w λe b=>e=.returned (.tuple #[E ⟨(JM (Jh s)).toArray⟩,D (decide ((Jh s).head?=some 45))])/\b=w:=by
 refine(Tryz.strings_CutPrefix s ⟨#[45]⟩ w).mono ?_;rintro e b ⟨rfl,rfl⟩;have a:Lib.hasPrefix s.data.toList [45]=decide ((Jh s).head?=some 45):=by
  unfold Jh Lib.hasPrefix;cases s.data.toList with
  |nil=>rfl
  |cons c l=>
   rw[C1];simp[List.isPrefixOf];exact eq_comm
 refine⟨?_,rfl⟩;have d:Lib.trimPrefix s.data.toList [45]=JM (Jh s):=by
  unfold Lib.trimPrefix JM;rw[a];by_cases h:(Jh s).head?=some 45
  . rw[BJ (decide_eq_true h),BJ h,List.length_singleton,List.drop_one];rfl
  . rw[BH (by simp[h]),BH h];rfl
 show Ending.returned (.tuple #[E ⟨(Lib.trimPrefix s.data.toList [45]).toArray⟩,D (Lib.hasPrefix s.data.toList [45])])=_;rw[a,d]
theorem MG(h:l.length<=2000):good l=(Es (JM l) && !(decide (l.head?=some 45)&&decide (JM l=[48]))):=by
 rw[C1];simp only[good,Es,Co,Bk,Fj,CP,Bu,List.isEmpty_eq_false_iff,Bool.and_eq_false_iff];constructor
 . rintro⟨⟨⟨_,d⟩,b⟩,f⟩;refine⟨⟨f,?_⟩,?_⟩
   . rcases b with b|b
     . exact Or.inr ⟨d,b⟩
     . left;rw[b];rfl
   . rcases b with b|b
     . right;intro e;apply b;rw[e];rfl
     . left;rw[b];simp
 . rintro⟨⟨f,a⟩,c⟩;have d:JM l≠[]:=by
    rcases a with a|a
    . rw[a];simp
    . exact a.1
   refine⟨⟨⟨h,d⟩,?_⟩,f⟩;rcases a with a|a
   . rcases c with c|c
     . right
       have:JM l=l:=by rw[JM,BH c]
       rw[<-this];exact a
     . exact absurd a c
   . exact Or.inl a.2
def Xv(l:List UInt8)(w:F)(e:Ending)(a:F):Prop:=
 (good l=true->∃u,e=.returned (.tuple #[u,D true])/\Jk a u (YX l))/\(good l=false->e=.returned Gi)/\Bl w a
theorem Xv.no(h:good l=false)(c:Bl w a):Xv l w (.returned Gi) a:=
 ⟨λb=>(by rw[h]at b;cases b),λ_=>rfl,c⟩
theorem Xv.yes{u:Value}(h:good l=true)(d:Jk a u (YX l))(c:Bl w a):Xv l w (.returned (.tuple #[u,D true])) a:=
 ⟨λ_=>⟨u,rfl,d⟩,λb=>(by rw[h]at b;cases b),c⟩
theorem Ta(s:ByteArray)(b:2000<s.size)(hs:s.size<=140737488351232)(w:F):G C 190 #[E s] w (Xv (Jh s) w):=by
 have a:=hidR (show good (Jh s)=false by
  have:=JB s;simp[good];omega)
 go_enter Tryz.func190,Tryz.ntmps190
 go_wp2_with(first
  |(go_at_call 70;refine(Ir _ _).mono ?_;rintro e c ⟨rfl,rfl⟩))
 exact BB (v:=Gi) (by simp[results,Tryz.results190,go_sem,Gi]) rfl (Xv.no a.o (Ba _ _))
theorem Tb(s:ByteArray)(k:s.size<=2000)(b:Es (JM (Jh s))=false)(w:F):G C 190 #[E s] w (Xv (Jh s) w):=by
 have j:=hidR (show good (Jh s)=false by rw[MG (by rw[JB];exact k),b];rfl);obtain⟨tb,c⟩:=ex ((⟨(JM (Jh s)).toArray⟩:ByteArray):ByteArray);obtain⟨n,g⟩:=ex (decide ((Jh s).head?=some 45));have a:=λV=>Ir s V;rw[c,g]at a;have d:Jh tb=JM (Jh s):=by rw[<-c];rfl
 have m:tb.size<=2000:=by
  rw[<-JB,d,JM];have:=JB s;split
  . rw[List.length_tail];omega
  . omega
 have f:=hidR λV=>Lz tb Y V;rw[d,b]at f;have i:=hidR a;clear a d b c g;go_enter Tryz.func190,Tryz.ntmps190
 go_wp2_with(first
  |(go_at_call 70;refine(i.o _).mono ?_;rintro e l ⟨rfl,rfl⟩)
  |(go_at_call 198;refine(f.o _).mono ?_;rintro e l ⟨rfl,rfl⟩))
 exact BB (v:=Gi) (by simp[results,Tryz.results190,go_sem,Gi]) rfl (Xv.no j.o (Ba _ _))
theorem Tc(s:ByteArray)(j:s.size<=2000)(d:Es (JM (Jh s))=true)(b:(Jh s).head?=some 45)(c:JM (Jh s)=[48])(w:F):G C 190 #[E s] w (Xv (Jh s) w):=by
 have g:=hidR (show good (Jh s)=false by rw[MG (by rw[JB];exact j),d,c];simp[b]);have a:=λV=>Ir s V;rw[c,decide_eq_true b]at a;have i:=hidR λV=>Lz ⟨[48].toArray⟩ DL V;have f:=hidR a;clear a d b c;go_enter Tryz.func190,Tryz.ntmps190
 go_wp2_with(first
  |(go_at_call 70;refine(f.o _).mono ?_;rintro e k ⟨rfl,rfl⟩)
  |(go_at_call 198;refine(i.o _).mono ?_;rintro e k ⟨rfl,rfl⟩))
 exact BB (v:=Gi) (by simp[results,Tryz.results190,go_sem,Gi]) rfl (Xv.no g.o (Ba _ _))
theorem Td(s tb:ByteArray)(l:Bool)(K:s.size<=2000)(r:Hid (good (Jh s)=true))(q:Hid (∀V,G C 70 #[E s,E ⟨#[45]⟩] V λe c=>e=.returned (.tuple #[E tb,D l])/\c=V))
(t:Hid (∀V,G C 198 #[E tb] V λe c=>e=.returned (D true)/\c=V))(x:Hid (∀V,G C 199 #[E tb] V λe c=>∃u,e=.returned u/\UN c u (num (Jh tb))/\Bl V c))
(p:l=true->(tb.toList == [48])=false)(y:Hid (YX (Jh s)=Iq l (num (Jh tb))))(w:F):G C 190 #[E s] w (Xv (Jh s) w):=by
 have a:=Jq.new w 63 (D false) (B none 0 0);have b:Bl w (w.alloc (.cells #[D false,B none 0 0] 63)):=Ba _ _;cases l
 . clear p;go_enter Tryz.func190,Tryz.ntmps190
   go_wp2_with(first
    |(go_at_call 70;refine(q.o _).mono ?_;rintro e c ⟨rfl,rfl⟩)
    |(go_at_call 198;refine(t.o _).mono ?_;rintro e c ⟨rfl,rfl⟩)
    |(go_at_call 199;refine(x.o _).mono ?_;rintro e H ⟨u,rfl,j,g⟩;obtain⟨z,A,rfl⟩:=j.form;have a:=a.below g;have b:=Bt b g)
    |(go_at_call 119;refine(Kg _ _ _ _ j).mono ?_;rintro e I ⟨v,rfl,k,i⟩;have a:=a.below i;have b:=Bt b i;rw[<-y.o]at k;obtain⟨d,f,c3,rfl,o⟩:=k;obtain⟨q0,q1⟩:=a.cp;obtain⟨f0,f1⟩:=a.fp))
   obtain⟨n,m⟩:=Ha (D (decide (YX (Jh s)<0))) (B d f c3) b (Aa _) a rfl rfl o;exact BB (v:=.tuple #[.agg #[D (decide (YX (Jh s)<0)),B d f c3],D true]) (by simp[results,Tryz.results190,go_sem,q0,q1]) rfl (Xv.yes r.o ⟨d,f,c3,rfl,n⟩ m)
 . have L:=p rfl;clear p;go_enter Tryz.func190,Tryz.ntmps190
   go_wp2_with(first
    |(go_at_call 70;refine(q.o _).mono ?_;rintro e c ⟨rfl,rfl⟩)
    |(go_at_call 198;refine(t.o _).mono ?_;rintro e c ⟨rfl,rfl⟩)
    |(go_at_call 199;refine(x.o _).mono ?_;rintro e H ⟨u,rfl,j,g⟩;obtain⟨z,A,rfl⟩:=j.form;have a:=a.below g;have b:=Bt b g)
    |(go_at_call 119;refine(Kg _ _ _ _ j).mono ?_;rintro e I ⟨v,rfl,k,i⟩;have a:=a.below i;have b:=Bt b i;rw[<-y.o]at k;obtain⟨d,f,c3,rfl,o⟩:=k;obtain⟨q0,q1⟩:=a.cp;obtain⟨f0,f1⟩:=a.fp))
   obtain⟨n,m⟩:=Ha (D (decide (YX (Jh s)<0))) (B d f c3) b (Aa _) a rfl rfl o;exact BB (v:=.tuple #[.agg #[D (decide (YX (Jh s)<0)),B d f c3],D true]) (by simp[results,Tryz.results190,go_sem,q0,q1]) rfl (Xv.yes r.o ⟨d,f,c3,rfl,n⟩ m)
theorem Te(s:ByteArray)(hs:s.size<=140737488351232)(w:F):G C 190 #[E s] w (Xv (Jh s) w):=by
 by_cases j:2000<s.size
 . exact Ta s j hs w
 have c:s.size<=2000:=Y
 cases a:Es (JM (Jh s))
 . exact Tb s c a w
 by_cases d:(Jh s).head?=some 45/\JM (Jh s)=[48]
 . exact Tc s c a d.1 d.2 w
 have k:good (Jh s)=true:=by
  rw[MG (by rw[JB];exact c),a];by_cases b:(Jh s).head?=some 45
  . have f:¬JM (Jh s)=[48]:=λh=>d ⟨b,h⟩;simp[f]
  . simp[b]
 have g:(JM (Jh s)).all DU=true:=by
  unfold Es at a;rw[Co]at a;exact a.1
 have e:Jh (⟨(JM (Jh s)).toArray⟩:ByteArray)=JM (Jh s):=rfl;have i:(⟨(JM (Jh s)).toArray⟩:ByteArray).size<=2000:=by
  rw[<-JB,e,JM];have:=JB s;split
  . rw[List.length_tail];omega
  . omega
 refine Td s ⟨(JM (Jh s)).toArray⟩ (decide ((Jh s).head?=some 45)) c k (λV=>Ir s V) (λV=>?_) (λV=>?_) (λh=>?_) ?_ w
 . have:=Lz ⟨(JM (Jh s)).toArray⟩ Y V;rw[e,a]at this;exact this
 . exact TZ ⟨(JM (Jh s)).toArray⟩ (by rw[e];exact g) i V
 . rw[Lib.toList_data];exact beq_eq_false_iff_ne.2 λf=>d ⟨of_decide_eq_true h,f⟩
 . show YX (Jh s)=_;rw[e,YX,Iq];by_cases b:(Jh s).head?=some 45
   . simp[b]
   . simp[b]
theorem row_one(W:F)(v:Nat):Row .u64 (W.alloc (.cells #[.int .u64 (v:Nat)] 156)) (B (some ⟨W.heap.size,0,none⟩) 1 1) [v]:=by
 refine⟨_,1,rfl,O,Y,O,Or.inr ⟨W.heap.size,0,rfl,⟨_,_,BD W _⟩,λj a=>?_⟩⟩
 have:j=0:=by simp at a;omega
 subst this;exact(BL W 156 (.int .u64 (v:Nat))).cell
theorem Tf(a:n≠0)(h:n<J):Jg J n=[n]:=by
 rw[Xi Jf a,Cl h,Cg h,JF]
theorem Tg(h:n<J):JI [n]=Jg J n:=by
 have:=Yj Jf (ds:=[n]) (DM.cons h (DM.nil _));rw[<-this];simp[val]
theorem Th(N:Nat)(z:N<=9223372036854775807)(w:F):G C 95 #[.int .i64 (N:Int)] w λe m=>∃u,e=.returned u/\Jk m u N/\Bl w m:=by
 have A:¬((N:Int)<0):=Y
 have y:IntKind.u64.wrap (N:Int)=(N:Int):=by rw[IntKind.wrap_u64];omega
 have p:=hidR (Tg (n:=N) uo);have a:=(Jq.new w 63 (D false) (B none 0 0)).alloc (.cells #[.int .u64 (N:Nat)] 156);have b:Bl w ((w.alloc (.cells #[D false,B none 0 0] 63)).alloc (.cells #[.int .u64 (N:Nat)] 156)):=(Ba _ _).alloc O _;have g:=row_one (w.alloc (.cells #[D false,B none 0 0] 63)) N;rw[BA]at g;have i:(N:Int)=Iq false N:=rfl;have o:=hidR i;clear i;go_enter Tryz.func95,Tryz.ntmps95
 go_wp2_with(first
  |(go_at_call 128;refine(YD _ _ _ g).mono ?_;rintro e H ⟨u,rfl,d,j⟩;rw[p.o]at d;obtain⟨t,x,rfl⟩:=UN.form d;have a:=a.below j;have b:=Bt b j)
  |(go_at_call 119;refine(Kg _ _ _ _ d).mono ?_;rintro e I ⟨v,rfl,l,k⟩;have a:=a.below k;have b:=Bt b k;rw[<-o.o]at l;obtain⟨c,f,c3,rfl,s⟩:=l;obtain⟨q0,q1⟩:=a.cp;obtain⟨f0,f1⟩:=a.fp))
 obtain⟨r,q⟩:=Ha (D (decide ((N:Int)<0))) (B c f c3) b (Aa _) a rfl rfl s;exact BB (v:=.agg #[D (decide ((N:Int)<0)),B c f c3]) (by simp[results,Tryz.results95,go_sem,q0,q1]) rfl ⟨_,rfl,⟨c,f,c3,rfl,r⟩,q⟩
theorem Ti(N:Nat)(t:1<=N)(x:N<=9223372036854775808)(w:F):G C 95 #[.int .i64 (-(N:Int))] w λe k=>∃u,e=.returned u/\Jk k u (-(N:Int))/\Bl w k:=by
 have p:-(N:Int)<0:=Y
 have s:IntKind.u64.wrap (-(IntKind.u64.wrap (-(N:Int))))=(N:Int):=by simp only[IntKind.wrap_u64];omega
 have m:=hidR (Tf (n:=N) Y uo);have a:=(Jq.new w 63 (D false) (B none 0 0)).alloc (.cells #[.int .u64 (N:Nat)] 156);have c:Bl w ((w.alloc (.cells #[D false,B none 0 0] 63)).alloc (.cells #[.int .u64 (N:Nat)] 156)):=(Ba _ _).alloc O _;have b:=row_one (w.alloc (.cells #[D false,B none 0 0] 63)) N;rw[BA,<-m.o]at b;have b:UN ((w.alloc (.cells #[D false,B none 0 0] 63)).alloc (.cells #[.int .u64 (N:Nat)] 156)) (B (some ⟨w.heap.size+1,0,none⟩) 1 1) N:=b;have g:-(N:Int)=Iq true N:=rfl;have l:=hidR g;clear g;go_enter Tryz.func95,Tryz.ntmps95
 go_wp2_with(first
  |(go_at_call 119;refine(Kg _ _ _ _ b).mono ?_;rintro e y ⟨v,rfl,j,i⟩;have a:=a.below i;have c:=Bt c i;rw[<-l.o]at j;obtain⟨d,f,c3,rfl,r⟩:=j;obtain⟨q0,q1⟩:=a.cp;obtain⟨f0,f1⟩:=a.fp))
 obtain⟨q,o⟩:=Ha (D true) (B d f c3) c (Aa _) a rfl rfl r;exact BB (v:=.agg #[D true,B d f c3]) (by simp[results,Tryz.results95,go_sem,q0,q1]) rfl ⟨_,rfl,⟨d,f,c3,by rw[show decide (-(N:Int)<0)=true from decide_eq_true p],q⟩,o⟩
theorem IB(n:Int)(b:-9223372036854775808<=n)(c:n<=9223372036854775807)(w:F):G C 95 #[.int .i64 n] w λe a=>∃u,e=.returned u/\Jk a u n/\Bl w a:=by
 by_cases h:n<0
 . have e:n=-(n.natAbs:Int):=Y
   rw[e];exact Ti n.natAbs Y Y w
 . have e:n=(n.natAbs:Int):=Y
   rw[e];exact Th n.natAbs Y w

