import Derived.Test.YtcahodpphikgnaaGreatDoorT24
import Derived.Test.YtcahodpphikgnaaGreatDoorT27
set_option linter.all false
open Go.Value renaming bool->B,slice->D,string->F
open Go.Proofs.Tryz renaming prog->C
open Go renaming World->E
set_option maxRecDepth 99999
set_option maxHeartbeats 0
namespace Go.Proofs.YtcahodpphikgnaaGreatDoor
open List renaming replicate->Nl
open Proofs.Tryz
open Go.RowKit Go.Shelf
attribute [local go_sem] Oper.semAt_some
section
open M3
def Yi(l:List UInt8)(w:E)(e:Ending)(a:E):Prop:=∃u,e=.returned (.tuple #[u,B (JN l).isSome])/\Ju a u (Dc l)/\Bl w a
theorem Yi.of{l:List UInt8}{w a:E}{u:Value}{o:Option Rat}(h:JN l=o){b:Bool}(d:o.isSome=b)(e:Ju a u (o.getD 0))(c:Bl w a):Yi l w (.returned (.tuple #[u,B b])) a:=
 ⟨u,by rw[h,d],by unfold Dc;rw[h];exact e,c⟩
def Mk(s:ByteArray)(p:2000<s.size)(w:E):Calls C 7 #[F s] w (Yi (Ji s) w):=by
 have e:=Z (Eb (l:=Ji s) (by have:=Jo s;omega));have q:(2000:Int)<(s.size:Int):=Y
 obtain⟨W0,c,a⟩:=DO 27 (.rat 0) (DU _) (w:=w);go_enter func7,ntmps7
 go_upto_region 1 with fail
 rw[c.o];clear c;obtain⟨y,m,v,c1,z,n,u,d1,b,x,r,t⟩:=a.o.rat (i:=0) J;have f:=Bx.all b;have k:=Bx.f b;have d:Bl W0 W0:=BC _ _;go_wp2_with fail
 have g:=Bt a.o.2.2 d;have j:=a.o.ge 0 J;exact BB (by simp[results,results7,go_sem,f]) J (Yi.of (o:=none) e.o J ((DU _).put4 (b.below d) J J J J _ _ _ _) (Jp g j _ _ _ _))
theorem Ml(s:ByteArray)(W:s.size<=2000)(hs:Jz (Ji s)=(Ji s).length)(w:E):Calls C 7 #[F s] w (Yi (Ji s) w):=by
 have hl:=Jo s;obtain⟨f,t,g⟩:=DF (Fa (l:=Ji s) Y hs) (λ(V:E)=>L3 s (by grind[Yg,Ji]) V) λ(V:E)=>Fc s Y V;obtain⟨d,P⟩:=ex (Xm (Ji s));obtain⟨r,o⟩:=ex (good (Ji s));rw[P,o]at g;have v:=Z (show(r=true->JW (Ji s)=d)/\(r=false->d=0)by grind[Xm]);rw[o]at f;have h1:¬((2000:Int)<(s.size:Int)):=Y
 clear hl hs P o W;obtain⟨W0,x,y⟩:=DO 27 (.rat 0) (DU _) (w:=w);go_enter func7,ntmps7
 go_upto_region 1 with fail
 rw[x.o];clear x;go_upto_region 5 with(first
  |(go_at_call 43;refine(t.o _).mono ?_;clear t;rintro e w1 ⟨rfl,M⟩)
  |(go_at_call 21;refine(g.o _).mono ?_;clear g;rintro e c ⟨u,rfl,q,N⟩;obtain⟨U,I,S,K,rfl⟩:=Jg.form2 q))
 obtain⟨G,n⟩:=ex (c.alloc (.cells #[B U,D I S K] 25));obtain⟨B1,m⟩:=ex (c.heap.size);have j:Bu w (c.alloc (.cells #[B U,D I S K] 25)) [some (w.heap.size,.rat 0),some (c.heap.size,.int d)]:=Bu.push ((y.o.below M).below N) (.int d) q;rw[n,m]at j;rw[n];rw[m];have a:=Z (j);clear y;clear j n m;clear q M N;obtain⟨T,H,R,c2,X,Q⟩:=a.o.int (i:=1) J;have aa:=Bx.all X;obtain⟨s3,a3,l3,c3,t3,b3,k3,d3,b,r3,i3,j3⟩:=a.o.rat (i:=0) J;have A:=Bx.all b;have ad:=Bx.f b;have z:=a.o.ge 0 J;have L:=a.o.2.2;cases r with
 |true=>
  have p:Ju G (.agg #[B T,D H R c2,B false,D none 0 0]) ((some ((JW (Ji s):Int):Rat)).getD 0):=Ju.mk (by show Jg _ _ (JW (Ji s));rw[v.o.1 J];exact Q) (X4 _);have k:=Z (show JN (Ji s)=some ((JW (Ji s):Int):Rat)by rw[f.o];rfl);go_wp2_with fail
  exact BB (by simp[results,results7,go_sem,A]) J (Yi.of k.o J (p.put4 b J J J J _ _ _ _) (Jp L z _ _ _ _))
 |false=>
  have p:Ju G (.agg #[B T,D H R c2,B false,D none 0 0]) ((none:Option Rat).getD 0):=Ju.mk (by show Jg _ _ 0;rw[<-v.o.2 J];exact Q) (X4 _);have k:=Z (show JN (Ji s)=none by rw[f.o];rfl);go_wp2_with fail
  exact BB (by simp[results,results7,go_sem,A]) J (Yi.of k.o J (p.put4 b J J J J _ _ _ _) (Jp L z _ _ _ _))
theorem Mm(s:ByteArray)(h0:s.size<=2000)(hs:Jz (Ji s)<(Ji s).length)(w:E):Calls C 7 #[F s] w (Yi (Ji s) w):=by
 have hl:=Jo s;have n:=Z (Ec (l:=Ji s) Y hs);obtain⟨k,hk⟩:=ex (Jz (Ji s));obtain⟨P,A,z⟩:=DF (λ(V:E)=>L2 s k (by grind[Yg,Ji]) Y h0 V) (λ(V:E)=>Fc (s.extract 0 k) (by rw[Af];omega) V) λ(V:E)=>Fc (s.extract (k+1) s.size) (by rw[Af];omega) V;rw[X0]at A;rw[Fb]at z;rw[hk]at n;obtain⟨lA,S⟩:=ex ((Ji s).take k);obtain⟨lB,T⟩:=ex ((Ji s).drop (k+1));rw[S,T]at n;rw[S]at A;rw[T]at z;obtain⟨sA,W⟩:=ex (s.extract 0 k);obtain⟨sB,X⟩:=ex (s.extract (k+1) s.size);rw[W,X]at P;rw[W]at A;rw[X]at z;obtain⟨m,aa⟩:=ex (Xm lA);obtain⟨c,L⟩:=ex (Xm lB);obtain⟨oa,U⟩:=ex (good lA);obtain⟨ob,I⟩:=ex (good lB);obtain⟨Qk,Qj,HA,HB⟩:=Da (show Sok m by rw[<-aa];exact Ed _) (show Sok c by rw[<-L];exact Ed _) (show(oa=true->JW lA=m)/\(oa=false->m=0)by grind[Xm]) (show(ob=true->JW lB=c)by rw[<-I,<-L];unfold Xm;exact λh=>by rw[BT h]);rw[aa,U]at A;rw[L,I]at z;rw[U,I]at n;have h1:¬((2000:Int)<(s.size:Int)):=Y
 clear hl hs hk S T W X aa L U I h0;obtain⟨W0,ad,M1⟩:=DO 27 (.rat 0) (DU _) (w:=w);go_enter func7,ntmps7
 go_upto_region 1 with fail
 rw[ad.o];clear ad;go_upto_region 5 with(first
  |(go_at_call 43;refine(P.o _).mono ?_;clear P;rintro e w1 ⟨rfl,aj⟩)
  |(go_at_call 21;refine(A.o _).mono ?_;clear A;rintro e M ⟨u,rfl,x,ak⟩;obtain⟨ay,ae,ap,ah,rfl⟩:=Jg.form2 x))
 obtain⟨V1,v⟩:=ex (M.alloc (.cells #[B ay,D ae ap ah] 25));obtain⟨B1,t⟩:=ex (M.heap.size);have p:Bu w (M.alloc (.cells #[B ay,D ae ap ah] 25)) [some (w.heap.size,.rat 0),some (M.heap.size,.int m)]:=Bu.push ((M1.o.below aj).below ak) (.int m) x;rw[v,t]at p;rw[v];rw[t];have y:=Z (p);clear M1;clear p v t;clear x aj ak;cases oa with
 |false=>
  obtain⟨s2,a2,l2,c2,n2,i2⟩:=y.o.int (i:=1) J;have bd:=Bx.all n2;obtain⟨s3,a3,l3,c3,t3,b3,k3,d3,n3,r3,i3,j3⟩:=y.o.rat (i:=0) J;have Ql:=Bx.all n3;have bf:=Bx.f n3;have g:=y.o.ge 0 J;have R:=y.o.2.2;have hr:Ju V1 (.agg #[B s2,D a2 l2 c2,B false,D none 0 0]) ((none:Option Rat).getD 0):=Ju.mk (by show Jg _ _ 0;rw[<-HA.o.2 J];exact i2) (X4 _);have j:=Z (show JN (Ji s)=none by rw[n.o];simp);go_wp2_with fail
  exact BB (by simp[results,results7,go_sem,Ql]) J (Yi.of j.o J (hr.put4 n3 J J J J _ _ _ _) (Jp R g _ _ _ _))
 |true=>
  go_upto_region 8 with(go_at_call 21;refine(z.o _).mono ?_;clear z;rintro e N ⟨u,rfl,x,am⟩;obtain⟨az,ag,aq,ai,rfl⟩:=Jg.form2 x)
  obtain⟨H,v⟩:=ex (N.alloc (.cells #[B az,D ag aq ai] 25));obtain⟨B4,t⟩:=ex (N.heap.size);have p:Bu w (N.alloc (.cells #[B az,D ag aq ai] 25)) [some (w.heap.size,.rat 0),some (B1,.int m),some (N.heap.size,.int c)]:=Bu.push (y.o.below am) (.int c) x;rw[v,t]at p;rw[v];rw[t];have d:=Z (p);clear y;clear p v t;clear x am;obtain⟨s5,a5,l5,c5,n5,i5⟩:=d.o.int (i:=1) J;have Qm:=Bx.all n5;obtain⟨s6,a6,l6,c6,n6,i6⟩:=d.o.int (i:=2) J;have Qi:=Bx.all n6;obtain⟨s7,a7,l7,c7,t7,b7,k7,d7,b,r7,i7,j7⟩:=d.o.rat (i:=0) J;have q:=Bx.all b;have Q:=Bx.f b;have g:=d.o.ge 0 J;have R:=d.o.2.2;have Qh:Bl H H:=BC _ _;have f:=Z (Y2 _ _ c 0 H i6 (X4 _));cases ob with
  |false=>
   have j:=Z (show JN (Ji s)=none by rw[n.o];simp);clear f;go_wp2_with fail
   have r:=Bt d.o.2.2 Qh;have g:=d.o.ge 0 J;exact BB (by simp[results,results7,go_sem,q]) J (Yi.of (o:=none) j.o J ((DU _).put4 (b.below Qh) J J J J _ _ _ _) (Jp r g _ _ _ _))
  |true=>
   by_cases G:0<c
   . have HZ:=Z G;have j:=Z (show JN (Ji s)=some (Rat.divInt m c)by rw[n.o,HA.o.1 (by first|rfl|trivial),HB.o (by first|rfl|trivial),BT C3]);rw[show Xf c 0=1 from by unfold Xf;omega]at f;clear G;have HR:=Z λ(V:E) (h:Bl H V)=>MZ _ _ m c V (i5.below h) (i6.below h) (by have:=HZ.o;omega) Qk.o Qj.o;go_wp2_with(first
      |(go_at_call 39;refine f.o.mono ?_;clear f;rintro e w4 ⟨rfl,a⟩;have Qm:=Bx.all (n5.below a);have Qi:=Bx.all (n6.below a))
      |(go_at_call 44;refine(HR.o _ a).mono ?_;clear HR;rintro e w5 ⟨u5,rfl,an,bc⟩;obtain⟨bn,bg,bm,bi,bp,bh,bk,bj,rfl⟩:=Ju.form an;have a:=Bt a bc;have q:=Bx.all (b.below a);have Q:=Bx.f (b.below a)))
     have r:=Bt R a;exact BB (by simp[results,results7,go_sem,q]) J (Yi.of j.o J (an.put4 (b.below a) J J J J _ _ _ _) (Jp r g _ _ _ _))
   . have j:=Z (show JN (Ji s)=none by rw[n.o,HB.o (by first|rfl|trivial),BR λh=>G h.2.2]);rcases Int.lt_or_eq_of_le (show c<=0 by omega)with K|K
     . rw[show Xf c 0=-1 from by unfold Xf;rw[BT K]]at f;clear K G;go_wp2_with(go_at_call 39;refine f.o.mono ?_;clear f;rintro e w4 ⟨rfl,a⟩;have q:=Bx.all (b.below a);have Q:=Bx.f (b.below a))
       have r:=Bt d.o.2.2 a;have g:=d.o.ge 0 J;exact BB (by simp[results,results7,go_sem,q]) J (Yi.of (o:=none) j.o J ((DU _).put4 (b.below a) J J J J _ _ _ _) (Jp r g _ _ _ _))
     . rw[show Xf c 0=0 from by unfold Xf;omega]at f;clear K G;go_wp2_with(go_at_call 39;refine f.o.mono ?_;clear f;rintro e w4 ⟨rfl,a⟩;have q:=Bx.all (b.below a);have Q:=Bx.f (b.below a))
       have r:=Bt d.o.2.2 a;have g:=d.o.ge 0 J;exact BB (by simp[results,results7,go_sem,q]) J (Yi.of (o:=none) j.o J ((DU _).put4 (b.below a) J J J J _ _ _ _) (Jp r g _ _ _ _))
def Hl(s:ByteArray)(w:E):Calls C 7 #[F s] w (Yi (Ji s) w):=by
 rcases At 2000 s.size with h|h
 . exact Mk s h w
 . rcases Yg (Ji s)with⟨a,_⟩|⟨a,_⟩
   . exact Mm s h a w
   . exact Ml s h a w
end
section
def Xy(k:Nat)(d:List UInt8):List UInt8:=Nl (k+1-d.length) 48++d
def Fi(k:Nat)(p:List UInt8):List UInt8:=if 0<k then p.take (p.length-k)++46::p.drop (p.length-k)else p
def YV(z:Int)(k:Nat):List UInt8:=if z<0 then 45::Fi k (Xy k (J6 z.natAbs))else Fi k (Xy k (J6 z.natAbs))
variable{k:Nat}
theorem Mn(k:Nat)(d:List UInt8):(Xy k d).length=if d.length<=k then k+1 else d.length:=by
 grind[Xy]
theorem Mo(n:Nat):(J6 n).head?≠some 45:=by
 by_cases a:n=0
 . rw[a];decide
 . obtain⟨c,t,b,_,d,_⟩:=Fr a;grind
theorem Hm(z:Int):Jv (JZ z)=J6 z.natAbs/\decide ((JZ z).head?=some 45)=decide (z<0):=by
 grind[Jv,JZ,Mo]
def Mp(b:Value)(x:Int)(k:Nat)(w:E)(d:Jg w b x)(i:k<=200)(j:(Jb O x.natAbs).length*k<=400000000000):
 Calls C 41 #[b,.int .i64 (k:Nat)] w λe f=>∃u,e=.returned (.tuple #[u,B true])/\Jg f u (x^k)/\Bl w f:=by
 rcases Ag k with h|h
 . subst h;obtain⟨s,a,l,c,rfl⟩:=Jg.form2 d;have g:=Lw s a l c w;rw[Int.pow_zero];exact g
 . exact Lx b x k w d h i j
def Mq(s:ByteArray)(w:E):Calls C 50 #[F s,F ⟨#[45]⟩] w λe a=>e=.returned (.tuple #[F ⟨(Jv (Ji s)).toArray⟩,B (decide ((Ji s).head?=some 45))])/\Bl w a:=by
 refine(Du s w).mono ?_;rintro e a ⟨rfl,rfl⟩;exact⟨J,BC _ _⟩
def Hn(l:List UInt8):Ji ⟨l.toArray⟩=l:=by simp[Ji]
def Mr(z:Int)(w:E):Calls C 50 #[F ⟨(JZ z).toArray⟩,F ⟨#[45]⟩] w λe a=>e=.returned (.tuple #[F ⟨(J6 z.natAbs).toArray⟩,B (decide (z<0))])/\Bl w a:=by
 have h:=Mq ⟨(JZ z).toArray⟩ w;rw[Hn,(Hm z).1,(Hm z).2]at h;exact h
theorem repeatL_one(c:Nat):Lib.repeatL [48] c=Nl c 48:=by
 induction c with
 |zero=>rfl
 |succ n a=>
  grind[Lib.repeatL]
def Ms(c:Nat)(b:c<=1000)(w:E):Calls C 52 #[F ⟨#[48]⟩,.int .i64 (c:Int)] w λe a=>e=.returned (F ⟨(Nl c 48).toArray⟩)/\Bl w a:=by
 have h:=Tryz.strings_Repeat ⟨#[48]⟩ c w Y (by show 1*_<=_;omega);rw[show Lib.repeatL (⟨#[48]⟩:ByteArray).data.toList c=Nl c 48 from repeatL_one c]at h;exact h
theorem Fj(k:Nat):Sm (k+1) ((10:Int)^k):=by
 unfold Sm;rw[Int.natAbs_pow,AL];have a:(10:Int).natAbs^k<=O^k:=Ci (by unfold O;decide) k;grind[O]
def Mt{q:Rat}(a:Sq q)(b:k<=100):Sok (q.num*10^k):=Sok.of (a.sm.1.mul (Fj k)) Y
def Mu(k:Nat)(d:List UInt8):(⟨(Nl (k+1-d.length) 48).toArray⟩:ByteArray)++⟨d.toArray⟩=⟨(Xy k d).toArray⟩:=Fh _ _
def Mv{d:List UInt8}(h:¬d.length<=k):Xy k d=d:=by
 unfold Xy;rw[show k+1-d.length=0 by omega];rfl
theorem Ho(z:Int)(k:Nat)(P a b:ByteArray)(m:Nat)(c:P=⟨(Xy k (J6 z.natAbs)).toArray⟩)(j:m=P.size-k)(e:P.extract 0 m=a)(f:P.extract m P.size=b):
 (⟨(YV z k).toArray⟩:ByteArray)=if z<0 then(if 0<k then(⟨#[45]⟩++a)++(⟨#[46]⟩++b)else⟨#[45]⟩++a)else(if 0<k then a++(⟨#[46]⟩++b)else a):=by
 have hs:P.size=(Xy k (J6 z.natAbs)).length:=by rw[c];show(Xy k (J6 z.natAbs)).toArray.size=_;rw[An]
 have d:Ji P=Xy k (J6 z.natAbs):=by rw[c,Hn]
 have g:a=⟨((Xy k (J6 z.natAbs)).take m).toArray⟩:=by
  have:=X0 P m;rw[d,e]at this;rw[<-this];apply CC;simp[Ji]
 have i:b=⟨((Xy k (J6 z.natAbs)).drop m).toArray⟩:=by
  have:=Fb P m;rw[d,f]at this;rw[<-this];apply CC;simp[Ji]
 grind[YV,Fi,Fh]
end
open M3
theorem Mw(va:Value)(q:Rat)(n:Int)(k:Nat)(w:E)(ha:Ju w va q)(ae:Sq q)(hk:min (max n 0) 100=(k:Int))(bc:Lib.TabIs C w "internal/strconv.uint64pow10" .u64 Lib.pow10Tab):
 Calls C 16 #[va,.int .i64 n] w λe j=>e=.returned (F ⟨(YV (q.num*10^k/(q.den:Int)) k).toArray⟩)/\Bl w j:=by
 have Qi:k<=100:=Y
 have HK:=Z hk;have HT:=Z bc;obtain⟨r,X⟩:∃t:Int,10^k=t:=⟨_,J⟩;have Qs:=Z (show Sok r by rw[<-X];exact Sok.of (Fj k) Y);have Qq:=Z (show Sok (q.num*r)by rw[<-X];exact Mt ae Qi);have Qr:=Z (λ(V:E) (u:Value) (hu:Jg V u 10)=>show Calls C 41 #[u,.int .i64 (k:Int)] V λe j=>∃u,e=.returned (.tuple #[u,B true])/\Jg j u r/\Bl V j by
  have h:=Mp u 10 k V hu Y (by
   have x:(Jb O (10:Int).natAbs).length<=1:=Jt Jc (by unfold O;decide);have h2:=Ae k x;omega)
  rw[X]at h;exact h)
 rw[X];obtain⟨z,hz⟩:=ex (q.num*r/(q.den:Int));have HZ:=Z hz;rw[hz];have Qt:=Z (show Sok z by rw[<-hz];exact Qq.o.div);obtain⟨T,hT⟩:∃S:ByteArray,⟨(JZ z).toArray⟩=S:=⟨_,J⟩;obtain⟨f,U⟩:∃S:ByteArray,⟨(J6 z.natAbs).toArray⟩=S:=⟨_,J⟩;obtain⟨b,hb⟩:=ex (decide (z<0));have Qv:=Z hT;have Qo:f.size=(J6 z.natAbs).length:=by rw[<-U];show(J6 z.natAbs).toArray.size=_;rw[An]
 have Qw:=ES z.natAbs;have hw:=Qt.o.words;have zD:f.size<=400000000000:=Y
 have Qb:=Z λ(V:E)=>Mr z V;rw[hT,U,hb]at Qb;obtain⟨P,W⟩:∃S:ByteArray,S=⟨(Xy k (J6 z.natAbs)).toArray⟩:=⟨_,J⟩;have Qm:P.size=if f.size<=k then k+1 else f.size:=by rw[Qo,<-Mn,W];show(Xy k (J6 z.natAbs)).toArray.size=_;rw[An]
 have bu:k<P.size:=by rw[Qm];split<;>omega
 have bz:P.size<=2000000000000:=by rw[Qm];split<;>omega
 have Qj:=Z (show ∀A:ByteArray,A=⟨(Nl (k+1-f.size) 48).toArray⟩->A++f=P by
  rintro A rfl;rw[Qo,<-U,Mu,W])
 have Ql:=Z (show ¬f.size<=k->f=P by
  intro h;rw[W,Mv Y,U])
 obtain⟨m,hm⟩:=ex (P.size-k);obtain⟨E1,N⟩:=ex (P.extract 0 m);obtain⟨E2,R⟩:=ex (P.extract m P.size);have Qk:=Z (Ho z k P E1 E2 m W hm.symm N R);have HB:=Z (show(b=true↔z<0)by rw[<-hb];simp);have cw:E1.size<=2000000000000:=by rw[<-N,Af];omega
 have cy:E2.size<=2000000000000:=by rw[<-R,Af];omega
 obtain⟨Qx,Qu,HM⟩:=DF N R (show((P.size:Int)-(k:Int))=(m:Int)by omega);have ce:m<=P.size:=Y
 clear hk bc X hz hT U hb Qo Qw hw W Qm hm N R;obtain⟨ck,bj,ci,bn,co,bm,cg,bt,rfl⟩:=Ju.form ha;obtain⟨W0,ai,M1⟩:=DO 27 (.rat q) ha;have Qg:=Z ae;clear ha ae;go_enter func16,ntmps16
 go_upto_region 1 with fail
 rw[ai.o];clear ai;go_upto_region 2 with fail
 rw[HK.o];go_upto_region 3 with(first
  |(go_at_call 40;refine(EN 10 Y Y _).mono ?_;rintro e w1 ⟨u1,rfl,bd,am⟩)
  |(go_at_call 41;refine(Qr.o _ _ bd).mono ?_;clear Qr;rintro e w2 ⟨u2,rfl,ag,an⟩;obtain⟨bh,aj,bg,ak,rfl⟩:=Jg.form2 ag))
 obtain⟨G,hV⟩:=ex (w2.alloc (.cells #[B bh,D aj bg ak] 25));obtain⟨B1,ad⟩:=ex (w2.heap.size);have MM:Bu w (w2.alloc (.cells #[B bh,D aj bg ak] 25)) [some (w.heap.size,.rat q),some (w2.heap.size,.int r)]:=Bu.push ((M1.o.below am).below an) (.int r) ag;rw[hV,ad]at MM;rw[hV];rw[ad];have K:=Z (MM);clear M1;clear MM hV ad;clear bd am ag an;obtain⟨s2,a2,l2,c2,t2,b2,k2,d2,H,r2,i2,j2⟩:=K.o.rat (i:=0) J;have Q:=Bx.all H;obtain⟨s3,a3,l3,c3,I,i3⟩:=K.o.int (i:=1) J;have M:=Bx.all I;have H1:=Z λ(V:E) (h:Bl G V)=>Xl _ _ q.num r V (i2.below h) (i3.below h) (by have x:=Qg.o.num.words;have h2:=Qs.o.words;omega);have H2:=Z (λ(V:E) (h:Bl G V) (s:Bool) (a:Nj) (l c:Nat) (g:Jg V (.agg #[B s,D a l c]) (q.num*r))=>show Calls C 15 #[.agg #[B s,D a l c,B t2,D b2 k2 d2]] V λe j=>∃u,e=.returned u/\Jg j u z/\Bl V j by
  have x:=Hk _ (q.num*r) (C6 q) V ⟨_,_,_,_,_,_,_,_,J,g,j2.below h⟩ Qq.o (by rw[D6];exact Qg.o.den);rw[D6,HZ.o]at x;exact x)
 have H3:=Z (λ(V:E) (u:Value) (h:Bl G V) (hu:Jg V u z)=>show Calls C 13 #[u] V λe j=>e=.returned (F T)/\Bl V j by
  have x:=Xd u z V hu (JL HT.o (Bt K.o.2.2 h));rw[Qv.o]at x;exact x)
 have d:Bl G G.drew:=(BC _ G).drew;go_region_held3 (λj=>(∀i,j.cell? ⟨w.heap.size,i,none⟩=#[B s2,D a2 l2 c2,B t2,D b2 k2 d2][i]?)/\(∀i,j.cell? ⟨B1,i,none⟩=#[B s3,D a3 l3 c3][i]?)) (first|grind|(go_keep;done)|(refine⟨?_,?_,?_,?_,?_,?_⟩<;>((repeat rw[Js Y]);first|assumption|(go_keep;done))))
  (first
   |(go_at_call 51;refine(H1.o _ d).mono ?_;clear H1;rintro e w3 ⟨u3,rfl,ah,ap⟩;obtain⟨cn,bk,cj,bp,rfl⟩:=Jg.form2 ah;have d:=Bt d ap;have Q:=Bx.all (H.below d);have M:=Bx.all (I.below d))
   |(go_at_call 15;refine(H2.o _ d _ _ _ _ ah).mono ?_;clear H2;rintro e w4 ⟨u4,rfl,bf,aq⟩;have d:=Bt d aq;have Q:=Bx.all (H.below d);have M:=Bx.all (I.below d))
   |(go_at_call 13;refine(H3.o _ _ d bf).mono ?_;clear H3;rintro e w5 ⟨rfl,ay⟩;have d:=Bt d ay;have Q:=Bx.all (H.below d);have M:=Bx.all (I.below d))
   |(go_at_call 50;refine(Qb.o _).mono ?_;clear Qb;rintro e w6 ⟨rfl,az⟩;have d:=Bt d az;have Q:=Bx.all (H.below d);have M:=Bx.all (I.below d)))
 have HQ:=Z (show Bl w w6 from (Bt K.o.2.2 d));clear H Q i2 r2 j2 I M i3 ah bf ap aq ay az d K;have c1:IntKind.i64.wrap ((k:Int)+1)=(k:Int)+1:=by rw[BX];omega
 have c2:IntKind.i64.wrap ((k:Int)+1-(f.size:Int))=(k:Int)+1-(f.size:Int):=by rw[BX];omega
 go_upto_if 40 with fail
 go_cut [7] λv j=>v=F P/\Hid (Bl w j)
 case first=>
  by_cases hd:f.size<=k
  . have HR:=Z λ(V:E)=>Ms (k+1-f.size) Y V;rw[show((k+1-f.size:Nat):Int)=(k:Int)+1-(f.size:Int)by omega]at HR;obtain⟨A,hR⟩:∃S:ByteArray,⟨(Nl (k+1-f.size) 48).toArray⟩=S:=⟨_,J⟩;rw[hR]at HR;have zR:A.size<=1000:=by rw[<-hR];show(Nl (k+1-f.size) 48).toArray.size<=_;simp;omega
    have Qp:=Z (Qj.o A hR.symm);clear hR Qj Ql;go_wp2_with(go_at_call 52;refine(HR.o _).mono ?_;clear HR;rintro e w7 ⟨rfl,bi⟩)
    go_meet
    case rel=>exact⟨by rw[Qp.o],Z (Bt HQ.o bi)⟩
  . have Qp:=Z (Ql.o hd);clear Qj Ql;go_wp2_with fail
    go_meet
    case rel=>exact⟨by rw[Qp.o],HQ⟩
 case rest=>
  obtain⟨rfl,aa⟩:=hcut;clear HQ Qj Ql c1 c2;have c3:IntKind.i64.wrap ((P.size:Int)-(k:Int))=(m:Int):=by rw[HM.o,BX];omega
  have c4:(0:Int)<=(m:Int):=Y
  have c5:(m:Int)<=(P.size:Int):=Y
  have N:=Qx.o;have R:=Qu.o;cases b with
  |true=>
   have L:=Z (show z<0 by have:=HB.o;simp at this;omega);rcases Ag k with p|p
   . have Qn:¬(0:Int)<(k:Int):=Y
     have y:=Z p;clear p;have o:=Z Qk.o;rw[BT L.o,BR (by have:=y.o;omega)]at o;go_wp2_with fail
     go_ret;exact⟨by rw[o.o];rfl,aa.o⟩
   . have Qn:(0:Int)<(k:Int):=Y
     have y:=Z p;clear p;have o:=Z Qk.o;rw[BT L.o,BT y.o]at o;go_wp2_with fail
     go_ret;exact⟨by rw[o.o];rfl,aa.o⟩
  |false=>
   have L:=Z (show ¬z<0 by have:=HB.o;simp at this;omega);rcases Ag k with p|p
   . have Qn:¬(0:Int)<(k:Int):=Y
     have y:=Z p;clear p;have o:=Z Qk.o;rw[BR L.o,BR (by have:=y.o;omega)]at o;go_wp2_with fail
     go_ret;exact⟨by rw[o.o];rfl,aa.o⟩
   . have Qn:(0:Int)<(k:Int):=Y
     have y:=Z p;clear p;have o:=Z Qk.o;rw[BR L.o,BT y.o]at o;go_wp2_with fail
     go_ret;exact⟨by rw[o.o];rfl,aa.o⟩

