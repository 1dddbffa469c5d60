import Derived.Test.YteldjhhjnchdeaaGreatDoorU10
import Derived.Test.YteldjhhjnchdeaaGreatDoorU09
import Derived.Deep.DeepCutAuto
import Derived.Deep.RegionHeld3
import Derived.Deep.RegionWith
import Derived.Deep.OwnRows
import Derived.Test.YteldjhhjnchdeaaGreatDoorU04
open Go.Value renaming slice->B,bool->D,string->E
open Go.Proofs.Tryz renaming prog->C
open Go renaming World->F,Calls->G
set_option maxRecDepth 100000
set_option maxHeartbeats 16000000
namespace Go.Proofs.YteldjhhjnchdeaaGreatDoor
section
open Go.RowKit Go.Shelf Go.Deep
variable{s:ByteArray}{q:List Nat}{l:List UInt8}{c n:Nat}
theorem hidR{p:Prop}(h:p):Hid p:=h
theorem Ve(l:List UInt8)(a:Nat)(h:l.all DY=true)(d:num l+10^l.length*a<18446744073709551616):Lib.parseUintM (2^64-1) a l=.ok (num l+10^l.length*a):=by
 induction l generalizing a with
 |nil=>simp[Lib.parseUintM,num,D8,val]
 |cons c l i=>
  have f:DY c=true:=A4.1 h c (CL ..);have hl:l.all DY=true:=by rw[List.all_cons,f,Bool.true_and]at h;exact h
  have b:=YV f;have e:num (c::l)=num l+10^l.length*(c.toNat-48):=by
   have:=Kj [c] l;rw[List.singleton_append]at this;rw[this];congr 2
  have g:num (c::l)+10^(c::l).length*a=num l+10^l.length*(a*10+(c.toNat-48)):=by
   rw[e,An,AQ,Ax,Az,As 10 a];omega
  rw[g]at d ⊢;have hp:1<=10^l.length:=Nat.one_le_pow _ _ J;have j:a*10+(c.toNat-48)<=10^l.length*(a*10+(c.toNat-48)):=CQ _ J;rw[Lib.parseUintM,BG ⟨b.1,b.2⟩,BE J,BE J];exact i _ hl d
theorem Ni(h:l.all DY=true):num l<10^l.length:=by
 have:=Yl (LS h);rwa[Ki]at this
theorem Vf(h:l.all DY=true)(a:l≠[])(b:l.length<=19):Lib.parseUintB 64 l=.ok (num l):=by
 have c:=Ni h;have d:(10:Nat)^l.length<=10^19:=Aw J b;rw[Lib.parseUintB,BE a,Ve l 0 h J];simp
theorem bytesWorld_below(w:F)(e:TypeId)(s:ByteArray):Bl w (Lib.bytesWorld w e s):=by
 unfold Lib.bytesWorld;refine⟨rfl,rfl,rfl,?_,λk a=>?_⟩
 . simp[World.freeze]
 . show(Array.modify _ _ _)[k]?=_;rw[Array.getElem?_modify,BE (show ¬w.heap.size=k by omega)];exact Bh w.drew _ k a
theorem Nj:Jg (s.extract 0 n)=(Jg s).take n:=by
 unfold Jg;rw[Lib.extract_data];simp
theorem Pq:Jg (s.extract n s.size)=(Jg s).drop n:=by
 unfold Jg;rw[Lib.extract_data,Ac];have:=JG s;unfold Jg at this;rw[AV,this];omega
theorem Vg(s:ByteArray)(h:(Jg s).all DY=true)(b:0<s.size)(c:s.size<=19)(w:F):
 G C 205 #[E s,.int .i64 10,.int .i64 64] w λe a=>e=.returned (.tuple #[.int .u64 (num (Jg s):Nat),.nilIface])/\Bl w a:=by
 have hl:=JG s;refine(Tryz.strconv_ParseUint_10_at64_ok s J _ (Vf (l:=Jg s) h (by intro e;rw[e]at hl;simp at hl;omega) J) w).mono ?_;rintro e a ⟨rfl,rfl|rfl⟩
 . exact⟨rfl,BB _ _⟩
 . exact⟨rfl,bytesWorld_below _ _ _⟩
def Vh:Value->Nat|E s=>s.size|_=>0
theorem Vi(h:l.all DY=true):(Jc Z (num l)).length<=l.length:=by
 refine JK Je (AB (Ni h) (CS ?_ _));unfold Z;omega
theorem Vj{a:ByteArray}{b:List UInt8}(e:c=num (Jg (a.extract 0 n)))(g:n=(a.size-1)%19+1)(i:n<=a.size)(d:b=[]\/a.size%19=0)(f:0<a.size):c+num b*10000000000000000000=num (b++Jg (a.extract 0 n)):=by
 have hl:(Jg (a.extract 0 n)).length=n:=by rw[JG,Cx];omega
 rw[Kj,hl,<-e];rcases d with rfl|d
 . simp[num,D8,val]
 . have:n=19:=J
   rw[this,As]
theorem Vk{m l over:Nat}(j:c<Z)(hl:l=(Jc Z m).length)(h:XH (c::List.replicate l 0) (Jc Z m) 0 10000000000000000000 l over q):
 (c::List.replicate l 0)[l]?.getD 0+over<Z/\Jy (q++[(c::List.replicate l 0)[l]?.getD 0+over])=Jc Z (c+m*10000000000000000000):=by
 obtain⟨d,g,i,a⟩:=h;have o:val Z (Jc Z m)=m:=Jp Je m;rw[AE]at a;have p:∀k,val Z (List.replicate k 0)=0:=by
  intro k;induction k with
  |zero=>rfl
  |succ k r=>rw[C8,J5,r];rfl
 have e:(Jc Z m).take l=Jc Z m:=Ac J;rw[e,o]at a;have b:(c::List.replicate l 0)[l]?.getD 0+over<Z/\val Z (q++[(c::List.replicate l 0)[l]?.getD 0+over])=c+m*10000000000000000000:=by
  cases l with
  |zero=>
   have n:m=0:=by
    have:Jc Z m=[]:=Aq hl.symm
    exact(JD Je).1 this
   subst n;have hq:q=[]:=Aq d;subst hq;simp[val]at a;subst a;simp[val];exact j
  |succ l=>
   have f:(c::List.replicate (l+1) 0)[l+1]?.getD 0=0:=Y
   rw[f,A8];refine⟨i,?_⟩;rw[YL,d,a,List.take_succ_cons,J5,List.take_replicate,p];omega
 refine⟨b.1,?_⟩;rw[<-J9 Je (g.append (DS.cons b.1 (DS.nil _))),b.2]
theorem Vl{r d:Nat}(h:r+d<Z):IntKind.u64.wrap ((r:Int)+d)=((r+d:Nat):Int):=by
 unfold Z at h;rw[IntKind.wrap_u64];omega
theorem Vm{a:F}{nb l:Nat}(d:DU a nb (DZ (c::List.replicate l 0) 0 l q))(hq:q.length=l):
 a.cell? ⟨nb,l,none⟩=some (.int .u64 ((c::List.replicate l 0)[l]?.getD 0:Nat))/\a.frozen? ⟨nb,l,none⟩=false/\∀v,DU (a.setCell ⟨nb,l,none⟩ (.int .u64 (v:Nat))) nb (q++[v]):=by
 have b:DZ (c::List.replicate l 0) 0 l q=q++[(c::List.replicate l 0)[l]?.getD 0]:=by
  have hl:l<(c::List.replicate l 0).length:=Y
  rw[DZ,CX,Ap,A8,A0 hl,AR Y,Ag hl];rfl
 have e:=d.cell (j:=l) (by rw[b];simp;omega);rw[b,AC J,hq,A3]at e;refine⟨e,d.frozen l,λv=>?_⟩;have:=d.set l v;rw[b,Cz _ _ J,hq,A3]at this;exact this
theorem Vn(s:ByteArray)(P:(Jg s).all DY=true)(hs:s.size<=2000)(w:F):
 G C 199 #[E s] w λe w'=>∃u,e=.returned u/\UN w' u (num (Jg s))/\Bl w w':=by
 have HD:=hidR P;clear P;go_enter Tryz.func199,Tryz.ntmps199
 go_wp2;go_loopw [0,3] (λdv rv wr=>∃(b:ByteArray) (f:List UInt8) (a:Option Addr) (l cap:Nat),dv=E b/\rv=B a l cap/\b.size<=2000/\l<=2000/\UN wr (B a l cap) (num f)/\Hid (Jg s=f++Jg b/\(f=[]\/b.size%19=0))/\Bl w wr) λdv _ _=>Vh dv
 case atStart=>exact⟨s,[],none,0,0,rfl,rfl,hs,J,by unfold UN;simp[num,D8,val,Jz];exact Row.nil _ _,⟨Y,Or.inl rfl⟩,BB _ _⟩
 case round=>
  obtain⟨b,f,a,l,cap,rfl,rfl,an,hl,m,v,X⟩:=hrel;by_cases h0:b.size=0
  . have Qb:Jg b=[]:=Aq (by rw[JG];exact h0);have e:f=Jg s:=by rw[v.o.1,Qb,Cl]
    have HE:=hidR e;have hz:b.size<=0:=J
    clear e Qb h0;go_wp2;go_ret;exact⟨_,rfl,by rw[<-HE.o];exact m,X⟩
  . have ae:0<b.size:=J
    obtain⟨n,hn⟩:∃n,n=(b.size-1)%19+1:=⟨_,rfl⟩;have En:=hidR (show(((b.size:Int)-1)%19+1)=(n:Int)by omega);have Qw:n<=b.size:=J
    have k:=hidR hn;clear hn;go_upto_region 4 with fail
    rw[En.o];have Q:(Jg (b.extract 0 n)).all DY=true:=by
     have g:=HD.o;rw[v.o.1,Fv,AM]at g;rw[Nj,A4];intro c t;exact A4.1 g.2 c (FL t)
    have A:(b.extract 0 n).size=n:=by rw[Cx];omega
    have U:num (Jg (b.extract 0 n))<10000000000000000000:=by
     have g:=Ni Q;rw[JG,A]at g;have L:(10:Nat)^n<=10^19:=Aw J (by have:=k.o;omega);have h3:(10:Nat)^19=10000000000000000000:=DQ
     omega
    have R:=hidR λV=>Vg (b.extract 0 n) Q (by rw[A];have:=k.o;omega) (by rw[A];have:=k.o;omega) V;obtain⟨c,t⟩:∃c,c=num (Jg (b.extract 0 n)):=⟨_,rfl⟩;rw[<-t]at U R;have Uc:=hidR t;have Qr:=hidR U;clear Q A t U;have ak:0<n:=by have:=k.o;omega
    have T:Hid (Jg s=(f++Jg (b.extract 0 n))++Jg (b.extract n b.size)/\(f++Jg (b.extract 0 n)=[]\/(b.extract n b.size).size%19=0)):=by
     refine⟨?_,Or.inr ?_⟩
     . rw[Ce,Nj,Pq,Cn];exact v.o.1
     . rw[Cx];have:=k.o;omega
    have Qu:Hid ((Jc Z (num (f++Jg (b.extract 0 n)))).length<=2000):=by
     have g:=HD.o;rw[T.o.1,Fv,AM]at g;have L:=Vi g.1;have h3:=Bv List.length T.o.1;rw[Ai,JG]at h3;exact Ar L J
    have Ua:=Lo l J;go_upto_region 7 with(first|(go_at_call 205;refine(R.o _).mono ?_;rintro e i ⟨rfl,N⟩))
    obtain⟨I,o⟩:=ex (i.alloc (.cells (cellsOf .u64 (List.replicate (l+1) 0)).toArray 156));have H:DU I i.heap.size (List.replicate (l+1) 0):=DU.made (by rw[<-o];exact BD i _);have x:Bl w i:=Bt X N;have Qp:Bl w I:=by rw[<-o];exact x.alloc x.size _
    have Qq:UN I (B a l cap) (num f):=by rw[<-o];exact Row.below (Row.below m N) (Ba _ _)
    have W:w.heap.size<=i.heap.size:=x.size;have Qn:Hid (∀p,a=some p->0<l->p.block≠i.heap.size):=by
     intro p ep S;obtain⟨_,_,_,_,ah⟩:=Jw m;obtain⟨b',ap,ea,aj,_⟩:=ah 0 S;rw[ep]at ea;cases ea;have:=N.size;simp only;omega
    have Qm:=m.len;have Qy:=hidR Qm;rw[o];clear o Ua N x m Qm R X;generalize i.heap.size=nb at *;have z0:=H.cell (j:=0) Y;have z1:=H.frozen 0;go_upto_region 8 with fail
    obtain⟨K,r⟩:=ex (I.setCell ⟨nb,0,none⟩ (.int .u64 (c:Nat)));have Qo:DU K nb (c::List.replicate l 0):=by rw[<-r];have:=H.set 0 c;simpa[List.replicate_succ]using this
    have Qs:Bl w K:=by rw[<-r];exact Qp.setCell W _
    have Ub:UN K (B a l cap) (num f):=by rw[<-r];exact Row.grown Qq (JE _ _ _ _) Qn.o
    rw[r];clear r H Qp Qq z0 z1;have S:=Qo.cell (j:=l) Y;obtain⟨y,hy⟩:∃y,y=(c::List.replicate l 0)[l]?.getD 0:=⟨_,rfl⟩;rw[<-hy]at S;have HY:=hidR hy;clear hy;have Qv:=hidR λV (hV:Bl K V)=>Nh nb 0 l (l+1) (c::List.replicate l 0) a cap (Jc Z (num f)) 10000000000000000000 V (Qo.below hV) (DS.cons (by have:=Qr.o;unfold Z;omega) λd P=>by rw[CH P];unfold Z;omega) Y J (Row.below Ub hV) (Jq Je _) Qn.o uo;have i0:(0:Int)<=(l:Int):=J
    have i1:(l:Int)<(l:Int)+1:=J
    have i2:(l:Int)<=(l:Int)+1:=J
    go_region_with (first
     |(go_at_call 163;refine(Qv.o _ ?_).mono ?_;exact(BB _ _).drew;rintro e w4 ⟨over,q,rfl,M,hA4,ad⟩;obtain⟨k1,k2,k3⟩:=Vm hA4 M.1;rw[<-HY.o]at k1;have z:=Vk (by have:=Qr.o;unfold Z;omega) Qy.o M;rw[<-HY.o]at z;have ai:IntKind.u64.wrap ((y:Int)+over)=((y+over:Nat):Int):=Vl z.1;have Qt:=hidR z.2;have Qz:=hidR M.1;clear z M))
    all_goals go_wp2_with fail
    all_goals
     have Qx:DU (w4.setCell ⟨nb,l,none⟩ (.int .u64 ((y:Int)+over))) nb (q++[y+over]):=by
      have:=k3 (y+over);rwa[Int.natCast_add]at this
     have am:q.length=l:=Qz.o;have Qc:=Qx.row 0 (l+1) (l+1) si J J J;rw[AE,Ac si]at Qc;refine(Y3 _ _ _ Qc).mono ?_;rintro e w6 ⟨u,rfl,hu,af⟩;rw[Qt.o,Vj Uc.o k.o Qw v.o.2 ae]at hu;have Ud:Bl w w6:=((below_grown Qs.drew ad W).setCell W _).trans (af.mono (by have g:=Qs.size;have L:=ad.size;simp[World.setCell]at L ⊢;omega));obtain⟨au,cu,eu⟩:=UN.form hu;subst eu;go_wp2;go_roundw
     case rel=>exact⟨b.extract n b.size,f++Jg (b.extract 0 n),au,_,cu,rfl,rfl,by rw[Cx];omega,Qu.o,hu,T.o,Ud⟩
     case measure=>
      show(b.extract n b.size).size<b.size;rw[Cx];omega
end
open Go.RowKit Go.Shelf
def Ks(b:Bool)(n:Nat):Int:=if b then -(n:Int)else n
variable{l:List UInt8}{n:Nat}{a w:F}
theorem Lv(b:Bool)(v:Value)(n:Nat)(w:F)(h:UN w v n):G C 119 #[D b,v] w λe a=>∃u,e=.returned u/\Jk a u (Ks b n)/\Bl w a:=I9 b v n w h
def IJ:Value:=.tuple #[.agg #[D false,B none 0 0],D false]
theorem Kt(s:ByteArray)(w:F):G C 70 #[E s,E ⟨#[45]⟩] w λe b=>e=.returned (.tuple #[E ⟨(JN (Jg s)).toArray⟩,D (decide ((Jg s).head?=some 45))])/\b=w:=by
 refine(Tryz.strings_CutPrefix s ⟨#[45]⟩ w).mono ?_;rintro e b ⟨rfl,rfl⟩;have a:Lib.hasPrefix s.data.toList [45]=decide ((Jg s).head?=some 45):=by
  unfold Jg Lib.hasPrefix;cases s.data.toList with
  |nil=>rfl
  |cons c l=>
   rw[Cr];simp[List.isPrefixOf];exact eq_comm
 refine⟨?_,rfl⟩;have d:Lib.trimPrefix s.data.toList [45]=JN (Jg s):=by
  unfold Lib.trimPrefix JN;rw[a];by_cases h:(Jg s).head?=some 45
  . rw[BG (BK h),BG h,FF,List.drop_one];rfl
  . rw[BE (by simp[h]),BE h];rfl
 show Ending.returned (.tuple #[E ⟨(Lib.trimPrefix s.data.toList [45]).toArray⟩,D (Lib.hasPrefix s.data.toList [45])])=_;rw[a,d]
theorem Nk(h:l.length<=2000):good l=(GM (JN l) && !(decide (l.head?=some 45)&&decide (JN l=[48]))):=by
 rw[Cr];simp only[good,GM,AM,BR,Fa,Ct,Bg,List.isEmpty_eq_false_iff,Bool.and_eq_false_iff];constructor
 . rintro⟨⟨⟨_,d⟩,b⟩,f⟩;refine⟨⟨f,?_⟩,?_⟩
   . rcases b with b|b
     . exact Or.inr ⟨d,b⟩
     . left;rw[b];rfl
   . rcases b with b|b
     . right;intro e;apply b;rw[e];rfl
     . left;rw[b];simp
 . rintro⟨⟨f,a⟩,c⟩;have d:JN l≠[]:=by
    rcases a with a|a
    . rw[a];simp
    . exact a.1
   refine⟨⟨⟨h,d⟩,?_⟩,f⟩;rcases a with a|a
   . rcases c with c|c
     . right
       have:JN l=l:=by rw[JN,BE c]
       rw[<-this];exact a
     . exact absurd a c
   . exact Or.inl a.2
def X3(l:List UInt8)(w:F)(e:Ending)(a:F):Prop:=
 (good l=true->∃u,e=.returned (.tuple #[u,D true])/\Jk a u (Y2 l))/\(good l=false->e=.returned IJ)/\Bl w a
theorem X3.no(h:good l=false)(c:Bl w a):X3 l w (.returned IJ) a:=
 ⟨λb=>(by rw[h]at b;cases b),λ_=>rfl,c⟩
theorem X3.yes{u:Value}(h:good l=true)(d:Jk a u (Y2 l))(c:Bl w a):X3 l w (.returned (.tuple #[u,D true])) a:=
 ⟨λ_=>⟨u,rfl,d⟩,λb=>(by rw[h]at b;cases b),c⟩
theorem Vo(s:ByteArray)(b:2000<s.size)(hs:s.size<=140737488351232)(w:F):G C 190 #[E s] w (X3 (Jg s) w):=by
 have a:=hidR (show good (Jg s)=false by
  have:=JG s;simp[good];omega)
 go_enter Tryz.func190,Tryz.ntmps190
 go_wp2_with(first
  |(go_at_call 70;refine(Kt _ _).mono ?_;rintro e c ⟨rfl,rfl⟩))
 exact BA (v:=IJ) (by simp[results,Tryz.results190,go_sem,IJ]) rfl (X3.no a.o (Ba _ _))
theorem Vp(s:ByteArray)(k:s.size<=2000)(b:GM (JN (Jg s))=false)(w:F):G C 190 #[E s] w (X3 (Jg s) w):=by
 have j:=hidR (show good (Jg s)=false by rw[Nk (by rw[JG];exact k),b];rfl);obtain⟨tb,c⟩:=ex ((⟨(JN (Jg s)).toArray⟩:ByteArray):ByteArray);obtain⟨n,g⟩:=ex (decide ((Jg s).head?=some 45));have a:=λV=>Kt s V;rw[c,g]at a;have d:Jg tb=JN (Jg s):=by rw[<-c];rfl
 have m:tb.size<=2000:=by
  rw[<-JG,d,JN];have:=JG s;split
  . rw[List.length_tail];omega
  . omega
 have f:=hidR λV=>NT tb J V;rw[d,b]at f;have i:=hidR a;clear a d b c g;go_enter Tryz.func190,Tryz.ntmps190
 go_wp2_with(first
  |(go_at_call 70;refine(i.o _).mono ?_;rintro e l ⟨rfl,rfl⟩)
  |(go_at_call 198;refine(f.o _).mono ?_;rintro e l ⟨rfl,rfl⟩))
 exact BA (v:=IJ) (by simp[results,Tryz.results190,go_sem,IJ]) rfl (X3.no j.o (Ba _ _))
theorem Vq(s:ByteArray)(j:s.size<=2000)(d:GM (JN (Jg s))=true)(b:(Jg s).head?=some 45)(c:JN (Jg s)=[48])(w:F):G C 190 #[E s] w (X3 (Jg s) w):=by
 have g:=hidR (show good (Jg s)=false by rw[Nk (by rw[JG];exact j),d,c];simp[b]);have a:=λV=>Kt s V;rw[c,BK b]at a;have i:=hidR λV=>NT ⟨[48].toArray⟩ DQ V;have f:=hidR a;clear a d b c;go_enter Tryz.func190,Tryz.ntmps190
 go_wp2_with(first
  |(go_at_call 70;refine(f.o _).mono ?_;rintro e k ⟨rfl,rfl⟩)
  |(go_at_call 198;refine(i.o _).mono ?_;rintro e k ⟨rfl,rfl⟩))
 exact BA (v:=IJ) (by simp[results,Tryz.results190,go_sem,IJ]) rfl (X3.no g.o (Ba _ _))
theorem Vr(s tb:ByteArray)(l:Bool)(K:s.size<=2000)(r:Hid (good (Jg s)=true))(q:Hid (∀V,G C 70 #[E s,E ⟨#[45]⟩] V λe c=>e=.returned (.tuple #[E tb,D l])/\c=V))
(t:Hid (∀V,G C 198 #[E tb] V λe c=>e=.returned (D true)/\c=V))(x:Hid (∀V,G C 199 #[E tb] V λe c=>∃u,e=.returned u/\UN c u (num (Jg tb))/\Bl V c))
(p:l=true->(tb.toList == [48])=false)(y:Hid (Y2 (Jg s)=Ks l (num (Jg tb))))(w:F):G C 190 #[E s] w (X3 (Jg s) w):=by
 have a:=Jm.new w 63 (D false) (B none 0 0);have b:Bl w (w.alloc (.cells #[D false,B none 0 0] 63)):=Ba _ _;cases l
 . clear p;go_enter Tryz.func190,Tryz.ntmps190
   go_wp2_with(first
    |(go_at_call 70;refine(q.o _).mono ?_;rintro e c ⟨rfl,rfl⟩)
    |(go_at_call 198;refine(t.o _).mono ?_;rintro e c ⟨rfl,rfl⟩)
    |(go_at_call 199;refine(x.o _).mono ?_;rintro e H ⟨u,rfl,j,g⟩;obtain⟨z,A,rfl⟩:=j.form;have a:=a.below g;have b:=Bt b g)
    |(go_at_call 119;refine(Lv _ _ _ _ j).mono ?_;rintro e I ⟨v,rfl,k,i⟩;have a:=a.below i;have b:=Bt b i;rw[<-y.o]at k;obtain⟨d,f,c3,rfl,o⟩:=k;obtain⟨q0,q1⟩:=a.cp;obtain⟨f0,f1⟩:=a.fp))
   obtain⟨n,m⟩:=YT (D (decide (Y2 (Jg s)<0))) (B d f c3) b (Aa _) a rfl rfl o;exact BA (v:=.tuple #[.agg #[D (decide (Y2 (Jg s)<0)),B d f c3],D true]) (by simp[results,Tryz.results190,go_sem,q0,q1]) rfl (X3.yes r.o ⟨d,f,c3,rfl,n⟩ m)
 . have L:=p rfl;clear p;go_enter Tryz.func190,Tryz.ntmps190
   go_wp2_with(first
    |(go_at_call 70;refine(q.o _).mono ?_;rintro e c ⟨rfl,rfl⟩)
    |(go_at_call 198;refine(t.o _).mono ?_;rintro e c ⟨rfl,rfl⟩)
    |(go_at_call 199;refine(x.o _).mono ?_;rintro e H ⟨u,rfl,j,g⟩;obtain⟨z,A,rfl⟩:=j.form;have a:=a.below g;have b:=Bt b g)
    |(go_at_call 119;refine(Lv _ _ _ _ j).mono ?_;rintro e I ⟨v,rfl,k,i⟩;have a:=a.below i;have b:=Bt b i;rw[<-y.o]at k;obtain⟨d,f,c3,rfl,o⟩:=k;obtain⟨q0,q1⟩:=a.cp;obtain⟨f0,f1⟩:=a.fp))
   obtain⟨n,m⟩:=YT (D (decide (Y2 (Jg s)<0))) (B d f c3) b (Aa _) a rfl rfl o;exact BA (v:=.tuple #[.agg #[D (decide (Y2 (Jg s)<0)),B d f c3],D true]) (by simp[results,Tryz.results190,go_sem,q0,q1]) rfl (X3.yes r.o ⟨d,f,c3,rfl,n⟩ m)
theorem Vs(s:ByteArray)(hs:s.size<=140737488351232)(w:F):G C 190 #[E s] w (X3 (Jg s) w):=by
 by_cases j:2000<s.size
 . exact Vo s j hs w
 have c:s.size<=2000:=J
 cases a:GM (JN (Jg s))
 . exact Vp s c a w
 by_cases d:(Jg s).head?=some 45/\JN (Jg s)=[48]
 . exact Vq s c a d.1 d.2 w
 have k:good (Jg s)=true:=by
  rw[Nk (by rw[JG];exact c),a];by_cases b:(Jg s).head?=some 45
  . have f:¬JN (Jg s)=[48]:=λh=>d ⟨b,h⟩;simp[f]
  . simp[b]
 have g:(JN (Jg s)).all DY=true:=by
  unfold GM at a;rw[AM]at a;exact a.1
 have e:Jg (⟨(JN (Jg s)).toArray⟩:ByteArray)=JN (Jg s):=rfl;have i:(⟨(JN (Jg s)).toArray⟩:ByteArray).size<=2000:=by
  rw[<-JG,e,JN];have:=JG s;split
  . rw[List.length_tail];omega
  . omega
 refine Vr s ⟨(JN (Jg s)).toArray⟩ (decide ((Jg s).head?=some 45)) c k (λV=>Kt s V) (λV=>?_) (λV=>?_) (λh=>?_) ?_ w
 . have:=NT ⟨(JN (Jg s)).toArray⟩ J V;rw[e,a]at this;exact this
 . exact Vn ⟨(JN (Jg s)).toArray⟩ (by rw[e];exact g) i V
 . rw[Lib.toList_data];exact beq_eq_false_iff_ne.2 λf=>d ⟨of_decide_eq_true h,f⟩
 . show Y2 (Jg s)=_;rw[e,Y2,Ks];by_cases b:(Jg s).head?=some 45
   . simp[b]
   . simp[b]
theorem row_one(W:F)(v:Nat):Row .u64 (W.alloc (.cells #[.int .u64 (v:Nat)] 156)) (B (some ⟨W.heap.size,0,none⟩) 1 1) [v]:=by
 refine⟨_,1,rfl,Y,J,Y,Or.inr ⟨W.heap.size,0,rfl,⟨_,_,BD W _⟩,λj a=>?_⟩⟩
 have:j=0:=by simp at a;omega
 subst this;exact(BM W 156 (.int .u64 (v:Nat))).cell
theorem Vt(a:n≠0)(h:n<Z):Jc Z n=[n]:=by
 rw[XR Je a,Cm h,Ca h,Jz]
theorem Vu(h:n<Z):Jy [n]=Jc Z n:=by
 have:=J9 Je (ds:=[n]) (DS.cons h (DS.nil _));rw[<-this];simp[val]
theorem Vv(N:Nat)(z:N<=9223372036854775807)(w:F):G C 95 #[.int .i64 (N:Int)] w λe m=>∃u,e=.returned u/\Jk m u N/\Bl w m:=by
 have A:¬((N:Int)<0):=J
 have y:IntKind.u64.wrap (N:Int)=(N:Int):=by rw[IntKind.wrap_u64];omega
 have p:=hidR (Vu (n:=N) uo);have a:=(Jm.new w 63 (D false) (B none 0 0)).alloc (.cells #[.int .u64 (N:Nat)] 156);have b:Bl w ((w.alloc (.cells #[D false,B none 0 0] 63)).alloc (.cells #[.int .u64 (N:Nat)] 156)):=(Ba _ _).alloc Y _;have g:=row_one (w.alloc (.cells #[D false,B none 0 0] 63)) N;rw[A1]at g;have i:(N:Int)=Ks false N:=rfl;have o:=hidR i;clear i;go_enter Tryz.func95,Tryz.ntmps95
 go_wp2_with(first
  |(go_at_call 128;refine(Y3 _ _ _ g).mono ?_;rintro e H ⟨u,rfl,d,j⟩;rw[p.o]at d;obtain⟨t,x,rfl⟩:=UN.form d;have a:=a.below j;have b:=Bt b j)
  |(go_at_call 119;refine(Lv _ _ _ _ d).mono ?_;rintro e I ⟨v,rfl,l,k⟩;have a:=a.below k;have b:=Bt b k;rw[<-o.o]at l;obtain⟨c,f,c3,rfl,s⟩:=l;obtain⟨q0,q1⟩:=a.cp;obtain⟨f0,f1⟩:=a.fp))
 obtain⟨r,q⟩:=YT (D (decide ((N:Int)<0))) (B c f c3) b (Aa _) a rfl rfl s;exact BA (v:=.agg #[D (decide ((N:Int)<0)),B c f c3]) (by simp[results,Tryz.results95,go_sem,q0,q1]) rfl ⟨_,rfl,⟨c,f,c3,rfl,r⟩,q⟩
theorem Vw(N:Nat)(t:1<=N)(x:N<=9223372036854775808)(w:F):G C 95 #[.int .i64 (-(N:Int))] w λe k=>∃u,e=.returned u/\Jk k u (-(N:Int))/\Bl w k:=by
 have p:-(N:Int)<0:=J
 have s:IntKind.u64.wrap (-(IntKind.u64.wrap (-(N:Int))))=(N:Int):=by simp only[IntKind.wrap_u64];omega
 have m:=hidR (Vt (n:=N) J uo);have a:=(Jm.new w 63 (D false) (B none 0 0)).alloc (.cells #[.int .u64 (N:Nat)] 156);have c:Bl w ((w.alloc (.cells #[D false,B none 0 0] 63)).alloc (.cells #[.int .u64 (N:Nat)] 156)):=(Ba _ _).alloc Y _;have b:=row_one (w.alloc (.cells #[D false,B none 0 0] 63)) N;rw[A1,<-m.o]at b;have b:UN ((w.alloc (.cells #[D false,B none 0 0] 63)).alloc (.cells #[.int .u64 (N:Nat)] 156)) (B (some ⟨w.heap.size+1,0,none⟩) 1 1) N:=b;have g:-(N:Int)=Ks true N:=rfl;have l:=hidR g;clear g;go_enter Tryz.func95,Tryz.ntmps95
 go_wp2_with(first
  |(go_at_call 119;refine(Lv _ _ _ _ b).mono ?_;rintro e y ⟨v,rfl,j,i⟩;have a:=a.below i;have c:=Bt c i;rw[<-l.o]at j;obtain⟨d,f,c3,rfl,r⟩:=j;obtain⟨q0,q1⟩:=a.cp;obtain⟨f0,f1⟩:=a.fp))
 obtain⟨q,o⟩:=YT (D true) (B d f c3) c (Aa _) a rfl rfl r;exact BA (v:=.agg #[D true,B d f c3]) (by simp[results,Tryz.results95,go_sem,q0,q1]) rfl ⟨_,rfl,⟨d,f,c3,by rw[show decide (-(N:Int)<0)=true from BK p],q⟩,o⟩
theorem KA(n:Int)(b:-9223372036854775808<=n)(c:n<=9223372036854775807)(w:F):G C 95 #[.int .i64 n] w λe a=>∃u,e=.returned u/\Jk a u n/\Bl w a:=by
 by_cases h:n<0
 . have e:n=-(n.natAbs:Int):=J
   rw[e];exact Vw n.natAbs J J w
 . have e:n=(n.natAbs:Int):=J
   rw[e];exact Vv n.natAbs J w

