import Derived.Test.YtakpoihdghihmaaGreatDoorC10
import Derived.Test.YtakpoihdghihmaaGreatDoorC09
import Derived.Deep.DeepCutAuto
import Derived.Deep.RegionHeld3
import Derived.Deep.RegionWith
import Derived.Deep.OwnRows
import Derived.Test.YtakpoihdghihmaaGreatDoorC04
open Go.Value renaming slice->B,bool->D,string->E
open Go.Proofs.Tryz renaming prog->C
open Go renaming World->F,Calls->G
set_option maxRecDepth 100000
set_option maxHeartbeats 16000000
namespace Go.Proofs.YtakpoihdghihmaaGreatDoor
section
open Go.RowKit Go.Shelf Go.Deep
variable{s:ByteArray}{q:List Nat}{l:List UInt8}{c n:Nat}
theorem hidR{p:Prop}(h:p):Hid p:=h
theorem Zp(l:List UInt8)(a:Nat)(h:l.all DZ=true)(d:num l+10^l.length*a<18446744073709551616):Lib.parseUintM (2^64-1) a l=.ok (num l+10^l.length*a):=by
 induction l generalizing a with
 |nil=>simp[Lib.parseUintM,num,EH,val]
 |cons c l i=>
  have f:DZ c=true:=Cj.1 h c (CM ..);have hl:l.all DZ=true:=by rw[List.all_cons,f,Bool.true_and]at h;exact h
  have b:=Ys f;have e:num (c::l)=num l+10^l.length*(c.toNat-48):=by
   have:=MX [c] l;rw[List.singleton_append]at this;rw[this];congr 2
  have g:num (c::l)+10^(c::l).length*a=num l+10^l.length*(a*10+(c.toNat-48)):=by
   rw[e,Ai,AZ,AB,AA,At 10 a];omega
  rw[g]at d ⊢;have hp:1<=10^l.length:=Nat.one_le_pow _ _ O;have j:a*10+(c.toNat-48)<=10^l.length*(a*10+(c.toNat-48)):=Fk _ O;rw[Lib.parseUintM,BC ⟨b.1,b.2⟩,BB O,BB O];exact i _ hl d
theorem Ox(h:l.all DZ=true):num l<10^l.length:=by
 have:=YB (Lj h);rwa[Ks]at this
theorem Zq(h:l.all DZ=true)(a:l≠[])(b:l.length<=19):Lib.parseUintB 64 l=.ok (num l):=by
 have c:=Ox h;have d:(10:Nat)^l.length<=10^19:=Aw O b;rw[Lib.parseUintB,BB a,Zp l 0 h O];simp
theorem bytesWorld_below(w:F)(e:TypeId)(s:ByteArray):Bl w (Lib.bytesWorld w e s):=by
 unfold Lib.bytesWorld;refine⟨rfl,rfl,rfl,?_,λk a=>?_⟩
 . simp[World.freeze]
 . show(Array.modify _ _ _)[k]?=_;rw[Array.getElem?_modify,BB (show ¬w.heap.size=k by omega)];exact Bj w.drew _ k a
theorem Oy:Jf (s.extract 0 n)=(Jf s).take n:=by
 unfold Jf;rw[Lib.extract_data];simp
theorem Rz:Jf (s.extract n s.size)=(Jf s).drop n:=by
 unfold Jf;rw[Lib.extract_data,Ac];have:=JD s;unfold Jf at this;rw[AR,this];omega
theorem Zs(s:ByteArray)(h:(Jf s).all DZ=true)(b:0<s.size)(c:s.size<=19)(w:F):
 G C 166 #[E s,.int .i64 10,.int .i64 64] w λe a=>e=.returned (.tuple #[.int .u64 (num (Jf s):Nat),.nilIface])/\Bl w a:=by
 have hl:=JD s;refine(Tryz.strconv_ParseUint_10_at64_ok s O _ (Zq (l:=Jf s) h (by intro e;rw[e]at hl;simp at hl;omega) O) w).mono ?_;rintro e a ⟨rfl,rfl|rfl⟩
 . exact⟨rfl,BA _ _⟩
 . exact⟨rfl,bytesWorld_below _ _ _⟩
def Zt:Value->Nat|E s=>s.size|_=>0
theorem Zu(h:l.all DZ=true):(Je DN (num l)).length<=l.length:=by
 refine YL Jg (AP (Ox h) (Fw ?_ _));unfold DN;omega
theorem Zv{a:ByteArray}{b:List UInt8}(e:c=num (Jf (a.extract 0 n)))(g:n=(a.size-1)%19+1)(i:n<=a.size)(d:b=[]\/a.size%19=0)(f:0<a.size):c+num b*10000000000000000000=num (b++Jf (a.extract 0 n)):=by
 have hl:(Jf (a.extract 0 n)).length=n:=by rw[JD,A8];omega
 rw[MX,hl,<-e];rcases d with rfl|d
 . simp[num,EH,val]
 . have:n=19:=O
   rw[this,At]
theorem Zw{m l over:Nat}(j:c<DN)(hl:l=(Je DN m).length)(h:X9 (c::List.replicate l 0) (Je DN m) 0 10000000000000000000 l over q):
 (c::List.replicate l 0)[l]?.getD 0+over<DN/\JA (q++[(c::List.replicate l 0)[l]?.getD 0+over])=Je DN (c+m*10000000000000000000):=by
 obtain⟨d,g,i,a⟩:=h;have o:val DN (Je DN m)=m:=Jq Jg m;rw[AW]at a;have p:∀k,val DN (List.replicate k 0)=0:=by
  intro k;induction k with
  |zero=>rfl
  |succ k r=>rw[Fx,Yi,r];rfl
 have e:(Je DN m).take l=Je DN m:=Ac O;rw[e,o]at a;have b:(c::List.replicate l 0)[l]?.getD 0+over<DN/\val DN (q++[(c::List.replicate l 0)[l]?.getD 0+over])=c+m*10000000000000000000:=by
  cases l with
  |zero=>
   have n:m=0:=by
    have:Je DN m=[]:=Ao hl.symm
    exact(JR Jg).1 this
   subst n;have hq:q=[]:=Ao d;subst hq;simp[val]at a;subst a;simp[val];exact j
  |succ l=>
   have f:(c::List.replicate (l+1) 0)[l+1]?.getD 0=0:=Z
   rw[f,Ch];refine⟨i,?_⟩;rw[Y1,d,a,List.take_succ_cons,Yi,List.take_replicate,p];omega
 refine⟨b.1,?_⟩;rw[<-Yg Jg (g.append (DQ.cons b.1 (DQ.nil _))),b.2]
theorem Zx{r d:Nat}(h:r+d<DN):IntKind.u64.wrap ((r:Int)+d)=((r+d:Nat):Int):=by
 unfold DN at h;rw[IntKind.wrap_u64];omega
theorem Zy{a:F}{nb l:Nat}(d:DV a nb (Dd (c::List.replicate l 0) 0 l q))(hq:q.length=l):
 a.cell? ⟨nb,l,none⟩=some (.int .u64 ((c::List.replicate l 0)[l]?.getD 0:Nat))/\a.frozen? ⟨nb,l,none⟩=false/\∀v,DV (a.setCell ⟨nb,l,none⟩ (.int .u64 (v:Nat))) nb (q++[v]):=by
 have b:Dd (c::List.replicate l 0) 0 l q=q++[(c::List.replicate l 0)[l]?.getD 0]:=by
  have hl:l<(c::List.replicate l 0).length:=Z
  rw[Dd,FF,Au,Ch,Cp hl,A7 Z,Af hl];rfl
 have e:=d.cell (j:=l) (by rw[b];simp;omega);rw[b,AG O,hq,Cy]at e;refine⟨e,d.frozen l,λv=>?_⟩;have:=d.set l v;rw[b,CN _ _ O,hq,Cy]at this;exact this
theorem Zz(s:ByteArray)(P:(Jf s).all DZ=true)(hs:s.size<=2000)(w:F):
 G C 124 #[E s] w λe w'=>∃u,e=.returned u/\UN w' u (num (Jf s))/\Bl w w':=by
 have HD:=hidR P;clear P;go_enter Tryz.func124,Tryz.ntmps124
 go_wp2;go_loopw [0,3] (λdv rv wr=>∃(b:ByteArray) (f:List UInt8) (a:Option Addr) (l cap:Nat),dv=E b/\rv=B a l cap/\b.size<=2000/\l<=2000/\UN wr (B a l cap) (num f)/\Hid (Jf s=f++Jf b/\(f=[]\/b.size%19=0))/\Bl w wr) λdv _ _=>Zt dv
 case atStart=>exact⟨s,[],none,0,0,rfl,rfl,hs,O,by unfold UN;simp[num,EH,val,JH];exact Row.nil _ _,⟨Z,Or.inl rfl⟩,BA _ _⟩
 case round=>
  obtain⟨b,f,a,l,cap,rfl,rfl,an,hl,m,v,X⟩:=hrel;by_cases h0:b.size=0
  . have Qb:Jf b=[]:=Ao (by rw[JD];exact h0);have e:f=Jf s:=by rw[v.o.1,Qb,Fl]
    have HE:=hidR e;have hz:b.size<=0:=O
    clear e Qb h0;go_wp2;go_ret;exact⟨_,rfl,by rw[<-HE.o];exact m,X⟩
  . have ae:0<b.size:=O
    obtain⟨n,hn⟩:∃n,n=(b.size-1)%19+1:=⟨_,rfl⟩;have En:=hidR (show(((b.size:Int)-1)%19+1)=(n:Int)by omega);have Qw:n<=b.size:=O
    have k:=hidR hn;clear hn;go_upto_region 4 with fail
    rw[En.o];have Q:(Jf (b.extract 0 n)).all DZ=true:=by
     have g:=HD.o;rw[v.o.1,FQ,AU]at g;rw[Oy,Cj];intro c t;exact Cj.1 g.2 c (Ff t)
    have A:(b.extract 0 n).size=n:=by rw[A8];omega
    have U:num (Jf (b.extract 0 n))<10000000000000000000:=by
     have g:=Ox Q;rw[JD,A]at g;have L:(10:Nat)^n<=10^19:=Aw O (by have:=k.o;omega);have h3:(10:Nat)^19=10000000000000000000:=DO
     omega
    have R:=hidR λV=>Zs (b.extract 0 n) Q (by rw[A];have:=k.o;omega) (by rw[A];have:=k.o;omega) V;obtain⟨c,t⟩:∃c,c=num (Jf (b.extract 0 n)):=⟨_,rfl⟩;rw[<-t]at U R;have Uc:=hidR t;have Qr:=hidR U;clear Q A t U;have ak:0<n:=by have:=k.o;omega
    have T:Hid (Jf s=(f++Jf (b.extract 0 n))++Jf (b.extract n b.size)/\(f++Jf (b.extract 0 n)=[]\/(b.extract n b.size).size%19=0)):=by
     refine⟨?_,Or.inr ?_⟩
     . rw[Fi,Oy,Rz,Cw];exact v.o.1
     . rw[A8];have:=k.o;omega
    have Qu:Hid ((Je DN (num (f++Jf (b.extract 0 n)))).length<=2000):=by
     have g:=HD.o;rw[T.o.1,FQ,AU]at g;have L:=Zu g.1;have h3:=congrArg List.length T.o.1;rw[Aq,JD]at h3;exact Am L O
    have Ua:=Mn l O;go_upto_region 7 with(first|(go_at_call 166;refine(R.o _).mono ?_;rintro e i ⟨rfl,N⟩))
    obtain⟨I,o⟩:=ex (i.alloc (.cells (cellsOf .u64 (List.replicate (l+1) 0)).toArray 115));have H:DV I i.heap.size (List.replicate (l+1) 0):=DV.made (by rw[<-o];exact BE i _);have x:Bl w i:=Bt X N;have Qp:Bl w I:=by rw[<-o];exact x.alloc x.size _
    have Qq:UN I (B a l cap) (num f):=by rw[<-o];exact Row.below (Row.below m N) (Ba _ _)
    have W:w.heap.size<=i.heap.size:=x.size;have Qn:Hid (∀p,a=some p->0<l->p.block≠i.heap.size):=by
     intro p ep S;obtain⟨_,_,_,_,ah⟩:=Jw m;obtain⟨b',ap,ea,aj,_⟩:=ah 0 S;rw[ep]at ea;cases ea;have:=N.size;simp only;omega
    have Qm:=m.len;have Qy:=hidR Qm;rw[o];clear o Ua N x m Qm R X;generalize i.heap.size=nb at *;have z0:=H.cell (j:=0) Z;have z1:=H.frozen 0;go_upto_region 8 with fail
    obtain⟨K,r⟩:=ex (I.setCell ⟨nb,0,none⟩ (.int .u64 (c:Nat)));have Qo:DV K nb (c::List.replicate l 0):=by rw[<-r];have:=H.set 0 c;simpa[List.replicate_succ]using this
    have Qs:Bl w K:=by rw[<-r];exact Qp.setCell W _
    have Ub:UN K (B a l cap) (num f):=by rw[<-r];exact Row.grown Qq (JI _ _ _ _) Qn.o
    rw[r];clear r H Qp Qq z0 z1;have S:=Qo.cell (j:=l) Z;obtain⟨y,hy⟩:∃y,y=(c::List.replicate l 0)[l]?.getD 0:=⟨_,rfl⟩;rw[<-hy]at S;have HY:=hidR hy;clear hy;have Qv:=hidR λV (hV:Bl K V)=>Ow nb 0 l (l+1) (c::List.replicate l 0) a cap (Je DN (num f)) 10000000000000000000 V (Qo.below hV) (DQ.cons (by have:=Qr.o;unfold DN;omega) λd P=>by rw[CS P];unfold DN;omega) Z O (Row.below Ub hV) (Ju Jg _) Qn.o uo;have i0:(0:Int)<=(l:Int):=O
    have i1:(l:Int)<(l:Int)+1:=O
    have i2:(l:Int)<=(l:Int)+1:=O
    go_region_with (first
     |(go_at_call 167;refine(Qv.o _ ?_).mono ?_;exact(BA _ _).drew;rintro e w4 ⟨over,q,rfl,M,hA4,ad⟩;obtain⟨k1,k2,k3⟩:=Zy hA4 M.1;rw[<-HY.o]at k1;have z:=Zw (by have:=Qr.o;unfold DN;omega) Qy.o M;rw[<-HY.o]at z;have ai:IntKind.u64.wrap ((y:Int)+over)=((y+over:Nat):Int):=Zx z.1;have Qt:=hidR z.2;have Qz:=hidR M.1;clear z M))
    all_goals go_wp2_with fail
    all_goals
     have Qx:DV (w4.setCell ⟨nb,l,none⟩ (.int .u64 ((y:Int)+over))) nb (q++[y+over]):=by
      have:=k3 (y+over);rwa[Int.natCast_add]at this
     have am:q.length=l:=Qz.o;have Qc:=Qx.row 0 (l+1) (l+1) si O O O;rw[AW,Ac si]at Qc;refine(Xm _ _ _ Qc).mono ?_;rintro e w6 ⟨u,rfl,hu,af⟩;rw[Qt.o,Zv Uc.o k.o Qw v.o.2 ae]at hu;have Ud:Bl w w6:=((below_grown Qs.drew ad W).setCell W _).trans (af.mono (by have g:=Qs.size;have L:=ad.size;simp[World.setCell]at L ⊢;omega));obtain⟨au,cu,eu⟩:=UN.form hu;subst eu;go_wp2;go_roundw
     case rel=>exact⟨b.extract n b.size,f++Jf (b.extract 0 n),au,_,cu,rfl,rfl,by rw[A8];omega,Qu.o,hu,T.o,Ud⟩
     case measure=>
      show(b.extract n b.size).size<b.size;rw[A8];omega
end
open Go.RowKit Go.Shelf
def Lr(b:Bool)(n:Nat):Int:=if b then -(n:Int)else n
variable{l:List UInt8}{n:Nat}{a w:F}
theorem Mt(b:Bool)(v:Value)(n:Nat)(w:F)(h:UN w v n):G C 72 #[D b,v] w λe a=>∃u,e=.returned u/\Jm a u (Lr b n)/\Bl w a:=Kw b v n w h
def Ip:Value:=.tuple #[.agg #[D false,B none 0 0],D false]
theorem Mu(s:ByteArray)(w:F):G C 122 #[E s,E ⟨#[45]⟩] w λe b=>e=.returned (.tuple #[E ⟨(JU (Jf s)).toArray⟩,D (decide ((Jf s).head?=some 45))])/\b=w:=by
 refine(Tryz.strings_CutPrefix s ⟨#[45]⟩ w).mono ?_;rintro e b ⟨rfl,rfl⟩;have a:Lib.hasPrefix s.data.toList [45]=decide ((Jf s).head?=some 45):=by
  unfold Jf Lib.hasPrefix;cases s.data.toList with
  |nil=>rfl
  |cons c l=>
   rw[CE];simp[List.isPrefixOf];exact eq_comm
 refine⟨?_,rfl⟩;have d:Lib.trimPrefix s.data.toList [45]=JU (Jf s):=by
  unfold Lib.trimPrefix JU;rw[a];by_cases h:(Jf s).head?=some 45
  . rw[BC (BJ h),BC h,FT,List.drop_one];rfl
  . rw[BB (by simp[h]),BB h];rfl
 show Ending.returned (.tuple #[E ⟨(Lib.trimPrefix s.data.toList [45]).toArray⟩,D (Lib.hasPrefix s.data.toList [45])])=_;rw[a,d]
theorem Oz(h:l.length<=2000):good l=(Gq (JU l) && !(decide (l.head?=some 45)&&decide (JU l=[48]))):=by
 rw[CE];simp only[good,Gq,AU,BQ,Fu,CH,Bg,List.isEmpty_eq_false_iff,Bool.and_eq_false_iff];constructor
 . rintro⟨⟨⟨_,d⟩,b⟩,f⟩;refine⟨⟨f,?_⟩,?_⟩
   . rcases b with b|b
     . exact Or.inr ⟨d,b⟩
     . left;rw[b];rfl
   . rcases b with b|b
     . right;intro e;apply b;rw[e];rfl
     . left;rw[b];simp
 . rintro⟨⟨f,a⟩,c⟩;have d:JU l≠[]:=by
    rcases a with a|a
    . rw[a];simp
    . exact a.1
   refine⟨⟨⟨h,d⟩,?_⟩,f⟩;rcases a with a|a
   . rcases c with c|c
     . right
       have:JU l=l:=by rw[JU,BB c]
       rw[<-this];exact a
     . exact absurd a c
   . exact Or.inl a.2
def GZ(l:List UInt8)(w:F)(e:Ending)(a:F):Prop:=
 (good l=true->∃u,e=.returned (.tuple #[u,D true])/\Jm a u (Xe l))/\(good l=false->e=.returned Ip)/\Bl w a
theorem GZ.no(h:good l=false)(c:Bl w a):GZ l w (.returned Ip) a:=
 ⟨λb=>(by rw[h]at b;cases b),λ_=>rfl,c⟩
theorem GZ.yes{u:Value}(h:good l=true)(d:Jm a u (Xe l))(c:Bl w a):GZ l w (.returned (.tuple #[u,D true])) a:=
 ⟨λ_=>⟨u,rfl,d⟩,λb=>(by rw[h]at b;cases b),c⟩
theorem Z0(s:ByteArray)(b:2000<s.size)(c:s.size<=140737488351232)(w:F):G C 63 #[E s] w (GZ (Jf s) w):=by
 have a:=hidR (show good (Jf s)=false by
  have:=JD s;simp[good];omega)
 go_enter Tryz.func63,Tryz.ntmps63
 go_wp2_with(first
  |(go_at_call 122;refine(Mu _ _).mono ?_;rintro e d ⟨rfl,rfl⟩))
 exact A0 (v:=Ip) (by simp[results,Tryz.results63,go_sem,Ip]) rfl (GZ.no a.o (Ba _ _))
theorem Z1(s:ByteArray)(k:s.size<=2000)(b:Gq (JU (Jf s))=false)(w:F):G C 63 #[E s] w (GZ (Jf s) w):=by
 have j:=hidR (show good (Jf s)=false by rw[Oz (by rw[JD];exact k),b];rfl);obtain⟨tb,c⟩:=ex ((⟨(JU (Jf s)).toArray⟩:ByteArray):ByteArray);obtain⟨sg,g⟩:=ex (decide ((Jf s).head?=some 45));have a:=λV=>Mu s V;rw[c,g]at a;have d:Jf tb=JU (Jf s):=by rw[<-c];rfl
 have m:tb.size<=2000:=by
  rw[<-JD,d,JU];have:=JD s;split
  . rw[List.length_tail];omega
  . omega
 have f:=hidR λV=>Oj tb O V;rw[d,b]at f;have i:=hidR a;clear a d b c g;go_enter Tryz.func63,Tryz.ntmps63
 go_wp2_with(first
  |(go_at_call 122;refine(i.o _).mono ?_;rintro e l ⟨rfl,rfl⟩)
  |(go_at_call 123;refine(f.o _).mono ?_;rintro e l ⟨rfl,rfl⟩))
 exact A0 (v:=Ip) (by simp[results,Tryz.results63,go_sem,Ip]) rfl (GZ.no j.o (Ba _ _))
theorem Z2(s:ByteArray)(j:s.size<=2000)(d:Gq (JU (Jf s))=true)(b:(Jf s).head?=some 45)(c:JU (Jf s)=[48])(w:F):G C 63 #[E s] w (GZ (Jf s) w):=by
 have g:=hidR (show good (Jf s)=false by rw[Oz (by rw[JD];exact j),d,c];simp[b]);have a:=λV=>Mu s V;rw[c,BJ b]at a;have i:=hidR λV=>Oj ⟨[48].toArray⟩ DO V;have f:=hidR a;clear a d b c;go_enter Tryz.func63,Tryz.ntmps63
 go_wp2_with(first
  |(go_at_call 122;refine(f.o _).mono ?_;rintro e k ⟨rfl,rfl⟩)
  |(go_at_call 123;refine(i.o _).mono ?_;rintro e k ⟨rfl,rfl⟩))
 exact A0 (v:=Ip) (by simp[results,Tryz.results63,go_sem,Ip]) rfl (GZ.no g.o (Ba _ _))
theorem Z3(s tb:ByteArray)(sg:Bool)(K:s.size<=2000)(r:Hid (good (Jf s)=true))(q:Hid (∀V,G C 122 #[E s,E ⟨#[45]⟩] V λe c=>e=.returned (.tuple #[E tb,D sg])/\c=V))
(t:Hid (∀V,G C 123 #[E tb] V λe c=>e=.returned (D true)/\c=V))(x:Hid (∀V,G C 124 #[E tb] V λe c=>∃u,e=.returned u/\UN c u (num (Jf tb))/\Bl V c))
(o:sg=true->(tb.toList == [48])=false)(y:Hid (Xe (Jf s)=Lr sg (num (Jf tb))))(w:F):G C 63 #[E s] w (GZ (Jf s) w):=by
 have a:=Jp.new w 35 (D false) (B none 0 0);have b:Bl w (w.alloc (.cells #[D false,B none 0 0] 35)):=Ba _ _;cases sg
 . clear o;go_enter Tryz.func63,Tryz.ntmps63
   go_wp2_with(first
    |(go_at_call 122;refine(q.o _).mono ?_;rintro e c ⟨rfl,rfl⟩)
    |(go_at_call 123;refine(t.o _).mono ?_;rintro e c ⟨rfl,rfl⟩)
    |(go_at_call 124;refine(x.o _).mono ?_;rintro e H ⟨u,rfl,j,g⟩;obtain⟨z,A,rfl⟩:=j.form;have a:=a.below g;have b:=Bt b g)
    |(go_at_call 72;refine(Mt _ _ _ _ j).mono ?_;rintro e I ⟨v,rfl,k,i⟩;have a:=a.below i;have b:=Bt b i;rw[<-y.o]at k;obtain⟨d,f,c3,rfl,n⟩:=k;obtain⟨q0,p⟩:=a.cp;obtain⟨f0,f1⟩:=a.fp))
   obtain⟨m,l⟩:=Ym (D (decide (Xe (Jf s)<0))) (B d f c3) b (Aa _) a rfl rfl n;exact A0 (v:=.tuple #[.agg #[D (decide (Xe (Jf s)<0)),B d f c3],D true]) (by simp[results,Tryz.results63,go_sem,q0,p]) rfl (GZ.yes r.o ⟨d,f,c3,rfl,m⟩ l)
 . have L:=o rfl;clear o;go_enter Tryz.func63,Tryz.ntmps63
   go_wp2_with(first
    |(go_at_call 122;refine(q.o _).mono ?_;rintro e c ⟨rfl,rfl⟩)
    |(go_at_call 123;refine(t.o _).mono ?_;rintro e c ⟨rfl,rfl⟩)
    |(go_at_call 124;refine(x.o _).mono ?_;rintro e H ⟨u,rfl,j,g⟩;obtain⟨z,A,rfl⟩:=j.form;have a:=a.below g;have b:=Bt b g)
    |(go_at_call 72;refine(Mt _ _ _ _ j).mono ?_;rintro e I ⟨v,rfl,k,i⟩;have a:=a.below i;have b:=Bt b i;rw[<-y.o]at k;obtain⟨d,f,c3,rfl,n⟩:=k;obtain⟨q0,p⟩:=a.cp;obtain⟨f0,f1⟩:=a.fp))
   obtain⟨m,l⟩:=Ym (D (decide (Xe (Jf s)<0))) (B d f c3) b (Aa _) a rfl rfl n;exact A0 (v:=.tuple #[.agg #[D (decide (Xe (Jf s)<0)),B d f c3],D true]) (by simp[results,Tryz.results63,go_sem,q0,p]) rfl (GZ.yes r.o ⟨d,f,c3,rfl,m⟩ l)
theorem Z4(s:ByteArray)(l:s.size<=140737488351232)(w:F):G C 63 #[E s] w (GZ (Jf s) w):=by
 by_cases j:2000<s.size
 . exact Z0 s j l w
 have c:s.size<=2000:=O
 cases a:Gq (JU (Jf s))
 . exact Z1 s c a w
 by_cases d:(Jf s).head?=some 45/\JU (Jf s)=[48]
 . exact Z2 s c a d.1 d.2 w
 have k:good (Jf s)=true:=by
  rw[Oz (by rw[JD];exact c),a];by_cases b:(Jf s).head?=some 45
  . have f:¬JU (Jf s)=[48]:=λh=>d ⟨b,h⟩;simp[f]
  . simp[b]
 have g:(JU (Jf s)).all DZ=true:=by
  unfold Gq at a;rw[AU]at a;exact a.1
 have e:Jf (⟨(JU (Jf s)).toArray⟩:ByteArray)=JU (Jf s):=rfl;have i:(⟨(JU (Jf s)).toArray⟩:ByteArray).size<=2000:=by
  rw[<-JD,e,JU];have:=JD s;split
  . rw[List.length_tail];omega
  . omega
 refine Z3 s ⟨(JU (Jf s)).toArray⟩ (decide ((Jf s).head?=some 45)) c k (λV=>Mu s V) (λV=>?_) (λV=>?_) (λh=>?_) ?_ w
 . have:=Oj ⟨(JU (Jf s)).toArray⟩ O V;rw[e,a]at this;exact this
 . exact Zz ⟨(JU (Jf s)).toArray⟩ (by rw[e];exact g) i V
 . rw[Lib.toList_data];exact beq_eq_false_iff_ne.2 λf=>d ⟨of_decide_eq_true h,f⟩
 . show Xe (Jf s)=_;rw[e,Xe,Lr];by_cases b:(Jf s).head?=some 45
   . simp[b]
   . simp[b]
theorem row_one(W:F)(v:Nat):Row .u64 (W.alloc (.cells #[.int .u64 (v:Nat)] 115)) (B (some ⟨W.heap.size,0,none⟩) 1 1) [v]:=by
 refine⟨_,1,rfl,Z,O,Z,Or.inr ⟨W.heap.size,0,rfl,⟨_,_,BE W _⟩,λj a=>?_⟩⟩
 have:j=0:=by simp at a;omega
 subst this;exact(BG W 115 (.int .u64 (v:Nat))).cell
theorem Z6(a:n≠0)(h:n<DN):Je DN n=[n]:=by
 rw[KE Jg a,CA h,Cv h,JH]
theorem Z7(h:n<DN):JA [n]=Je DN n:=by
 have:=Yg Jg (ds:=[n]) (DQ.cons h (DQ.nil _));rw[<-this];simp[val]
theorem Z8(N:Nat)(A:N<=9223372036854775807)(w:F):G C 29 #[.int .i64 (N:Int)] w λe m=>∃u,e=.returned u/\Jm m u N/\Bl w m:=by
 have H:¬((N:Int)<0):=O
 have z:IntKind.u64.wrap (N:Int)=(N:Int):=by rw[IntKind.wrap_u64];omega
 have p:=hidR (Z7 (n:=N) uo);have a:=(Jp.new w 35 (D false) (B none 0 0)).alloc (.cells #[.int .u64 (N:Nat)] 115);have b:Bl w ((w.alloc (.cells #[D false,B none 0 0] 35)).alloc (.cells #[.int .u64 (N:Nat)] 115)):=(Ba _ _).alloc Z _;have g:=row_one (w.alloc (.cells #[D false,B none 0 0] 35)) N;rw[Ax]at g;have i:(N:Int)=Lr false N:=rfl;have o:=hidR i;clear i;go_enter Tryz.func29,Tryz.ntmps29
 go_wp2_with(first
  |(go_at_call 73;refine(Xm _ _ _ g).mono ?_;rintro e I ⟨u,rfl,d,j⟩;rw[p.o]at d;obtain⟨x,y,rfl⟩:=UN.form d;have a:=a.below j;have b:=Bt b j)
  |(go_at_call 72;refine(Mt _ _ _ _ d).mono ?_;rintro e K ⟨v,rfl,l,k⟩;have a:=a.below k;have b:=Bt b k;rw[<-o.o]at l;obtain⟨c,f,c3,rfl,s⟩:=l;obtain⟨q0,t⟩:=a.cp;obtain⟨f0,f1⟩:=a.fp))
 obtain⟨r,q⟩:=Ym (D (decide ((N:Int)<0))) (B c f c3) b (Aa _) a rfl rfl s;exact A0 (v:=.agg #[D (decide ((N:Int)<0)),B c f c3]) (by simp[results,Tryz.results29,go_sem,q0,t]) rfl ⟨_,rfl,⟨c,f,c3,rfl,r⟩,q⟩
theorem Z9(N:Nat)(x:1<=N)(y:N<=9223372036854775808)(w:F):G C 29 #[.int .i64 (-(N:Int))] w λe k=>∃u,e=.returned u/\Jm k u (-(N:Int))/\Bl w k:=by
 have p:-(N:Int)<0:=O
 have t:IntKind.u64.wrap (-(IntKind.u64.wrap (-(N:Int))))=(N:Int):=by simp only[IntKind.wrap_u64];omega
 have m:=hidR (Z6 (n:=N) O uo);have a:=(Jp.new w 35 (D false) (B none 0 0)).alloc (.cells #[.int .u64 (N:Nat)] 115);have c:Bl w ((w.alloc (.cells #[D false,B none 0 0] 35)).alloc (.cells #[.int .u64 (N:Nat)] 115)):=(Ba _ _).alloc Z _;have b:=row_one (w.alloc (.cells #[D false,B none 0 0] 35)) N;rw[Ax,<-m.o]at b;have b:UN ((w.alloc (.cells #[D false,B none 0 0] 35)).alloc (.cells #[.int .u64 (N:Nat)] 115)) (B (some ⟨w.heap.size+1,0,none⟩) 1 1) N:=b;have g:-(N:Int)=Lr true N:=rfl;have l:=hidR g;clear g;go_enter Tryz.func29,Tryz.ntmps29
 go_wp2_with(first
  |(go_at_call 72;refine(Mt _ _ _ _ b).mono ?_;rintro e z ⟨v,rfl,j,i⟩;have a:=a.below i;have c:=Bt c i;rw[<-l.o]at j;obtain⟨d,f,c3,rfl,r⟩:=j;obtain⟨q0,s⟩:=a.cp;obtain⟨f0,f1⟩:=a.fp))
 obtain⟨q,o⟩:=Ym (D true) (B d f c3) c (Aa _) a rfl rfl r;exact A0 (v:=.agg #[D true,B d f c3]) (by simp[results,Tryz.results29,go_sem,q0,s]) rfl ⟨_,rfl,⟨d,f,c3,by rw[show decide (-(N:Int)<0)=true from BJ p],q⟩,o⟩
theorem K0(n:Int)(b:-9223372036854775808<=n)(c:n<=9223372036854775807)(w:F):G C 29 #[.int .i64 n] w λe a=>∃u,e=.returned u/\Jm a u n/\Bl w a:=by
 by_cases h:n<0
 . have e:n=-(n.natAbs:Int):=O
   rw[e];exact Z9 n.natAbs O O w
 . have e:n=(n.natAbs:Int):=O
   rw[e];exact Z8 n.natAbs O w

