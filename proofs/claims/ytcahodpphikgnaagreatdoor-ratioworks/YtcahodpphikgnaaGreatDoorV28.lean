import Derived.Test.YtcahodpphikgnaaGreatDoorV24
import Derived.Test.YtcahodpphikgnaaGreatDoorV27
set_option linter.all false
open Go.Value renaming slice->B,bool->C
set_option maxRecDepth 99999
set_option maxHeartbeats 0
namespace Go.Proofs.YtcahodpphikgnaaGreatDoor
open Proofs.Tryz
open Go.RowKit Go.Shelf M3
attribute [local go_sem] Oper.semAt_some
def Yj(l:List UInt8)(w:World)(e:Ending)(a:World):Prop:=∃u,e=.returned (.tuple #[u,C (JK l).isSome])/\Jo a u (DJ l)/\Bl w a
theorem Yj.of{l:List UInt8}{w a:World}{u:Value}{o:Option Rat}(h:JK l=o){b:Bool}(d:o.isSome=b)(e:Jo a u (o.getD 0))(c:Bl w a):Yj l w (.returned (.tuple #[u,C b])) a:=
 ⟨u,by rw[h,d],by unfold DJ;rw[h];exact e,c⟩
def NY(s:ByteArray)(p:2000<s.size)(w:World):Calls Tryz.prog 7 #[.string s] w (Yj (Jh s) w):=by
 have e:=Z (Ey (l:=Jh s) (by have:=Jt s;omega));have q:(2000:Int)<(s.size:Int):=Y
 obtain⟨W0,c,a⟩:=DW 27 (.rat 0) (DV _) (w:=w);go_enter func7,ntmps7
 go_upto_region 1 with fail
 rw[c.o];clear c;obtain⟨y,m,v,c1,z,n,u,d1,b,x,r,t⟩:=a.o.rat (i:=0) J;have f:=Bx.all b;have k:=Bx.f b;have d:Bl W0 W0:=BC _ _;go_wp2_with fail
 have g:=Bt a.o.2.2 d;have j:=a.o.ge 0 J;exact BB (by simp[results,results7,go_sem,f]) J (Yj.of (o:=none) e.o J ((DV _).put4 (b.below d) J J J J _ _ _ _) (Jj g j _ _ _ _))
def NZ(s:ByteArray)(S:s.size<=2000)(hs:Jw (Jh s)=(Jh s).length)(w:World):Calls Tryz.prog 7 #[.string s] w (Yj (Jh s) w):=by
 have hl:=Jt s;obtain⟨f,t,g⟩:=C6 (GF (l:=Jh s) Y hs) (λ(V:World)=>Mh s (by grind[Yf,Jh]) V) λ(V:World)=>GI s Y V;obtain⟨d,L⟩:=ex (Xn (Jh s));obtain⟨r,o⟩:=ex (good (Jh s));rw[L,o]at g;have v:=Z (show(r=true->JW (Jh s)=d)/\(r=false->d=0)by grind[Xn]);rw[o]at f;have h1:¬((2000:Int)<(s.size:Int)):=Y
 clear hl hs L o S;obtain⟨W0,x,y⟩:=DW 27 (.rat 0) (DV _) (w:=w);go_enter func7,ntmps7
 go_upto_region 1 with fail
 rw[x.o];clear x;go_upto_region 5 with(first
  |(go_at_call 43;refine(t.o _).mono ?_;clear t;rintro e w1 ⟨rfl,I⟩)
  |(go_at_call 21;refine(g.o _).mono ?_;clear g;rintro e c ⟨u,rfl,q,K⟩;obtain⟨R,F,P,G,rfl⟩:=Jg.form2 q))
 obtain⟨D,n⟩:=ex (c.alloc (.cells #[C R,B F P G] 25));obtain⟨U,m⟩:=ex (c.heap.size);have j:Bu w (c.alloc (.cells #[C R,B F P G] 25)) [some (w.heap.size,.rat 0),some (c.heap.size,.int d)]:=Bu.push ((y.o.below I).below K) (.int d) q;rw[n,m]at j;rw[n];rw[m];have a:=Z (j);clear y;clear j n m;clear q I K;obtain⟨Q,E,N,c2,T,M⟩:=a.o.int (i:=1) J;have W:=Bx.all T;obtain⟨s3,a3,l3,c3,t3,b3,k3,d3,b,r3,i3,j3⟩:=a.o.rat (i:=0) J;have A:=Bx.all b;have X:=Bx.f b;have z:=a.o.ge 0 J;have H:=a.o.2.2;cases r with
 |true=>
  have p:Jo D (.agg #[C Q,B E N c2,C false,B none 0 0]) ((some ((JW (Jh s):Int):Rat)).getD 0):=Jo.mk (by show Jg _ _ (JW (Jh s));rw[v.o.1 J];exact M) (X1 _);have k:=Z (show JK (Jh s)=some ((JW (Jh s):Int):Rat)by rw[f.o];rfl);go_wp2_with fail
  exact BB (by simp[results,results7,go_sem,A]) J (Yj.of k.o J (p.put4 b J J J J _ _ _ _) (Jj H z _ _ _ _))
 |false=>
  have p:Jo D (.agg #[C Q,B E N c2,C false,B none 0 0]) ((none:Option Rat).getD 0):=Jo.mk (by show Jg _ _ 0;rw[<-v.o.2 J];exact M) (X1 _);have k:=Z (show JK (Jh s)=none by rw[f.o];rfl);go_wp2_with fail
  exact BB (by simp[results,results7,go_sem,A]) J (Yj.of k.o J (p.put4 b J J J J _ _ _ _) (Jj H z _ _ _ _))
def Na(s:ByteArray)(h0:s.size<=2000)(hs:Jw (Jh s)<(Jh s).length)(w:World):Calls Tryz.prog 7 #[.string s] w (Yj (Jh s) w):=by
 have hl:=Jt s;have n:=Z (Ez (l:=Jh s) Y hs);obtain⟨k,hk⟩:=ex (Jw (Jh s));obtain⟨L,A,z⟩:=C6 (λ(V:World)=>Mg s k (by grind[Yf,Jh]) Y h0 V) (λ(V:World)=>GI (s.extract 0 k) (by rw[Aj];omega) V) λ(V:World)=>GI (s.extract (k+1) s.size) (by rw[Aj];omega) V;rw[GH]at A;rw[IP]at z;rw[hk]at n;obtain⟨W,P⟩:=ex ((Jh s).take k);obtain⟨X,Q⟩:=ex ((Jh s).drop (k+1));rw[P,Q]at n;rw[P]at A;rw[Q]at z;obtain⟨sA,S⟩:=ex (s.extract 0 k);obtain⟨sB,T⟩:=ex (s.extract (k+1) s.size);rw[S,T]at L;rw[S]at A;rw[T]at z;obtain⟨m,U⟩:=ex (Xn W);obtain⟨c,H⟩:=ex (Xn X);obtain⟨oa,R⟩:=ex (good W);obtain⟨ob,F⟩:=ex (good X);obtain⟨Qk,Qj,HA,HB⟩:=Dh (show Sok m by rw[<-U];exact E0 _) (show Sok c by rw[<-H];exact E0 _) (show(oa=true->JW W=m)/\(oa=false->m=0)by grind[Xn]) (show(ob=true->JW X=c)by rw[<-F,<-H];unfold Xn;exact λh=>by rw[BW h]);rw[U,R]at A;rw[H,F]at z;rw[R,F]at n;have h1:¬((2000:Int)<(s.size:Int)):=Y
 clear hl hs hk P Q S T U H R F h0;obtain⟨W0,aa,M1⟩:=DW 27 (.rat 0) (DV _) (w:=w);go_enter func7,ntmps7
 go_upto_region 1 with fail
 rw[aa.o];clear aa;go_upto_region 5 with(first
  |(go_at_call 43;refine(L.o _).mono ?_;clear L;rintro e w1 ⟨rfl,aj⟩)
  |(go_at_call 21;refine(A.o _).mono ?_;clear A;rintro e I ⟨u,rfl,x,ak⟩;obtain⟨aw,ad,ap,ah,rfl⟩:=Jg.form2 x))
 obtain⟨V1,v⟩:=ex (I.alloc (.cells #[C aw,B ad ap ah] 25));obtain⟨B1,t⟩:=ex (I.heap.size);have p:Bu w (I.alloc (.cells #[C aw,B ad ap ah] 25)) [some (w.heap.size,.rat 0),some (I.heap.size,.int m)]:=Bu.push ((M1.o.below aj).below ak) (.int m) x;rw[v,t]at p;rw[v];rw[t];have y:=Z (p);clear M1;clear p v t;clear x aj ak;cases oa with
 |false=>
  obtain⟨s2,a2,l2,c2,n2,i2⟩:=y.o.int (i:=1) J;have bc:=Bx.all n2;obtain⟨s3,a3,l3,c3,t3,b3,k3,d3,n3,r3,i3,j3⟩:=y.o.rat (i:=0) J;have Ql:=Bx.all n3;have bd:=Bx.f n3;have g:=y.o.ge 0 J;have N:=y.o.2.2;have hr:Jo V1 (.agg #[C s2,B a2 l2 c2,C false,B none 0 0]) ((none:Option Rat).getD 0):=Jo.mk (by show Jg _ _ 0;rw[<-HA.o.2 J];exact i2) (X1 _);have j:=Z (show JK (Jh s)=none by rw[n.o];simp);go_wp2_with fail
  exact BB (by simp[results,results7,go_sem,Ql]) J (Yj.of j.o J (hr.put4 n3 J J J J _ _ _ _) (Jj N g _ _ _ _))
 |true=>
  go_upto_region 8 with(go_at_call 21;refine(z.o _).mono ?_;clear z;rintro e K ⟨u,rfl,x,am⟩;obtain⟨ay,ae,aq,ai,rfl⟩:=Jg.form2 x)
  obtain⟨E,v⟩:=ex (K.alloc (.cells #[C ay,B ae aq ai] 25));obtain⟨B4,t⟩:=ex (K.heap.size);have p:Bu w (K.alloc (.cells #[C ay,B ae aq ai] 25)) [some (w.heap.size,.rat 0),some (B1,.int m),some (K.heap.size,.int c)]:=Bu.push (y.o.below am) (.int c) x;rw[v,t]at p;rw[v];rw[t];have d:=Z (p);clear y;clear p v t;clear x am;obtain⟨s5,a5,l5,c5,n5,i5⟩:=d.o.int (i:=1) J;have Qm:=Bx.all n5;obtain⟨s6,a6,l6,c6,n6,i6⟩:=d.o.int (i:=2) J;have Qi:=Bx.all n6;obtain⟨s7,a7,l7,c7,t7,b7,k7,d7,b,r7,i7,j7⟩:=d.o.rat (i:=0) J;have q:=Bx.all b;have M:=Bx.f b;have g:=d.o.ge 0 J;have N:=d.o.2.2;have Qh:Bl E E:=BC _ _;have f:=Z (Y1 _ _ c 0 E i6 (X1 _));cases ob with
  |false=>
   have j:=Z (show JK (Jh s)=none by rw[n.o];simp);clear f;go_wp2_with fail
   have r:=Bt d.o.2.2 Qh;have g:=d.o.ge 0 J;exact BB (by simp[results,results7,go_sem,q]) J (Yj.of (o:=none) j.o J ((DV _).put4 (b.below Qh) J J J J _ _ _ _) (Jj r g _ _ _ _))
  |true=>
   by_cases D:0<c
   . have HZ:=Z D;have j:=Z (show JK (Jh s)=some (Rat.divInt m c)by rw[n.o,HA.o.1 (by first|rfl|trivial),HB.o (by first|rfl|trivial),BW B7]);rw[show Yp c 0=1 from by unfold Yp;omega]at f;clear D;have HR:=Z λ(V:World) (h:Bl E V)=>Ij _ _ m c V (i5.below h) (i6.below h) (by have:=HZ.o;omega) Qk.o Qj.o;go_wp2_with(first
      |(go_at_call 39;refine f.o.mono ?_;clear f;rintro e w4 ⟨rfl,a⟩;have Qm:=Bx.all (n5.below a);have Qi:=Bx.all (n6.below a))
      |(go_at_call 44;refine(HR.o _ a).mono ?_;clear HR;rintro e w5 ⟨u5,rfl,an,az⟩;obtain⟨bm,bf,bk,bh,bn,bg,bj,bi,rfl⟩:=Jo.form an;have a:=Bt a az;have q:=Bx.all (b.below a);have M:=Bx.f (b.below a)))
     have r:=Bt N a;exact BB (by simp[results,results7,go_sem,q]) J (Yj.of j.o J (an.put4 (b.below a) J J J J _ _ _ _) (Jj r g _ _ _ _))
   . have j:=Z (show JK (Jh s)=none by rw[n.o,HB.o (by first|rfl|trivial),BZ λh=>D h.2.2]);rcases Int.lt_or_eq_of_le (show c<=0 by omega)with G|G
     . rw[show Yp c 0=-1 from by unfold Yp;rw[BW G]]at f;clear G D;go_wp2_with(go_at_call 39;refine f.o.mono ?_;clear f;rintro e w4 ⟨rfl,a⟩;have q:=Bx.all (b.below a);have M:=Bx.f (b.below a))
       have r:=Bt d.o.2.2 a;have g:=d.o.ge 0 J;exact BB (by simp[results,results7,go_sem,q]) J (Yj.of (o:=none) j.o J ((DV _).put4 (b.below a) J J J J _ _ _ _) (Jj r g _ _ _ _))
     . rw[show Yp c 0=0 from by unfold Yp;omega]at f;clear G D;go_wp2_with(go_at_call 39;refine f.o.mono ?_;clear f;rintro e w4 ⟨rfl,a⟩;have q:=Bx.all (b.below a);have M:=Bx.f (b.below a))
       have r:=Bt d.o.2.2 a;have g:=d.o.ge 0 J;exact BB (by simp[results,results7,go_sem,q]) J (Yj.of (o:=none) j.o J ((DV _).put4 (b.below a) J J J J _ _ _ _) (Jj r g _ _ _ _))
def Iq(s:ByteArray)(w:World):Calls Tryz.prog 7 #[.string s] w (Yj (Jh s) w):=by
 rcases As 2000 s.size with h|h
 . exact NY s h w
 . rcases Yf (Jh s)with⟨a,_⟩|⟨a,_⟩
   . exact Na s h a w
   . exact NZ s h a w
