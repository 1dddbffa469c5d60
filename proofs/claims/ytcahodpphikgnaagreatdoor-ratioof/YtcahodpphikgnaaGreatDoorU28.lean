import Derived.Test.YtcahodpphikgnaaGreatDoorU24
import Derived.Test.YtcahodpphikgnaaGreatDoorU27
set_option linter.all false
open Go.Value renaming slice->B,bool->C
set_option maxRecDepth 99999
set_option maxHeartbeats 0
namespace Go.Proofs.YtcahodpphikgnaaGreatDoor
open Proofs.Tryz
open Go.RowKit Go.Shelf M3
attribute [local go_sem] Oper.semAt_some
def Yi(l:List UInt8)(w:World)(e:Ending)(a:World):Prop:=∃u,e=.returned (.tuple #[u,C (Yc l).isSome])/\Jr a u (Ex l)/\Bl w a
theorem Yi.of{l:List UInt8}{w a:World}{u:Value}{o:Option Rat}(h:Yc l=o){b:Bool}(d:o.isSome=b)(e:Jr a u (o.getD 0))(c:Bl w a):Yi l w (.returned (.tuple #[u,C b])) a:=
 ⟨u,by rw[h,d],by unfold Ex;rw[h];exact e,c⟩
def Ln(s:ByteArray)(p:2000<s.size)(w:World):Calls Tryz.prog 7 #[.string s] w (Yi (Jk s) w):=by
 have e:=Z (K5 (l:=Jk s) (by have:=Jq s;omega));have q:(2000:Int)<(s.size:Int):=Y
 obtain⟨W0,c,a⟩:=DQ 27 (.rat 0) (DG _) (w:=w);go_enter func7,ntmps7
 go_upto_region 1 with fail
 rw[c.o];clear c;obtain⟨y,m,v,c1,z,n,u,d1,b,x,r,t⟩:=a.o.rat (i:=0) J;have f:=Bx.all b;have k:=Bx.f b;have d:Bl W0 W0:=BC _ _;go_wp2_with fail
 have g:=Bt a.o.2.2 d;have j:=a.o.ge 0 J;exact BB (by simp[results,results7,go_sem,f]) J (Yi.of (o:=none) e.o J ((DG _).put4 (b.below d) J J J J _ _ _ _) (Jy g j _ _ _ _))
def Lo(s:ByteArray)(S:s.size<=2000)(hs:JG (Jk s)=(Jk s).length)(w:World):Calls Tryz.prog 7 #[.string s] w (Yi (Jk s) w):=by
 have hl:=Jq s;obtain⟨f,t,g⟩:=C3 (K6 (l:=Jk s) Y hs) (λ(V:World)=>K4 s (by grind[XD,Jk]) V) λ(V:World)=>XE s Y V;obtain⟨d,L⟩:=ex (Xc (Jk s));obtain⟨r,o⟩:=ex (good (Jk s));rw[L,o]at g;have v:=Z (show(r=true->JX (Jk s)=d)/\(r=false->d=0)by grind[Xc]);rw[o]at f;have h1:¬((2000:Int)<(s.size:Int)):=Y
 clear hl hs L o S;obtain⟨W0,x,y⟩:=DQ 27 (.rat 0) (DG _) (w:=w);go_enter func7,ntmps7
 go_upto_region 1 with fail
 rw[x.o];clear x;go_upto_region 5 with(first
  |(go_at_call 43;refine(t.o _).mono ?_;clear t;rintro e w1 ⟨rfl,I⟩)
  |(go_at_call 21;refine(g.o _).mono ?_;clear g;rintro e c ⟨u,rfl,q,K⟩;obtain⟨R,F,P,G,rfl⟩:=Jg.form2 q))
 obtain⟨D,n⟩:=ex (c.alloc (.cells #[C R,B F P G] 25));obtain⟨U,m⟩:=ex (c.heap.size);have j:Bu w (c.alloc (.cells #[C R,B F P G] 25)) [some (w.heap.size,.rat 0),some (c.heap.size,.int d)]:=Bu.push ((y.o.below I).below K) (.int d) q;rw[n,m]at j;rw[n];rw[m];have a:=Z (j);clear y;clear j n m;clear q I K;obtain⟨Q,E,N,c2,T,M⟩:=a.o.int (i:=1) J;have W:=Bx.all T;obtain⟨s3,a3,l3,c3,t3,b3,k3,d3,b,r3,i3,j3⟩:=a.o.rat (i:=0) J;have A:=Bx.all b;have X:=Bx.f b;have z:=a.o.ge 0 J;have H:=a.o.2.2;cases r with
 |true=>
  have p:Jr D (.agg #[C Q,B E N c2,C false,B none 0 0]) ((some ((JX (Jk s):Int):Rat)).getD 0):=Jr.mk (by show Jg _ _ (JX (Jk s));rw[v.o.1 J];exact M) (C8 _);have k:=Z (show Yc (Jk s)=some ((JX (Jk s):Int):Rat)by rw[f.o];rfl);go_wp2_with fail
  exact BB (by simp[results,results7,go_sem,A]) J (Yi.of k.o J (p.put4 b J J J J _ _ _ _) (Jy H z _ _ _ _))
 |false=>
  have p:Jr D (.agg #[C Q,B E N c2,C false,B none 0 0]) ((none:Option Rat).getD 0):=Jr.mk (by show Jg _ _ 0;rw[<-v.o.2 J];exact M) (C8 _);have k:=Z (show Yc (Jk s)=none by rw[f.o];rfl);go_wp2_with fail
  exact BB (by simp[results,results7,go_sem,A]) J (Yi.of k.o J (p.put4 b J J J J _ _ _ _) (Jy H z _ _ _ _))
def Lp(s:ByteArray)(h0:s.size<=2000)(hs:JG (Jk s)<(Jk s).length)(w:World):Calls Tryz.prog 7 #[.string s] w (Yi (Jk s) w):=by
 have hl:=Jq s;have n:=Z (GM (l:=Jk s) Y hs);obtain⟨k,hk⟩:=ex (JG (Jk s));obtain⟨L,A,z⟩:=C3 (λ(V:World)=>K3 s k (by grind[XD,Jk]) Y h0 V) (λ(V:World)=>XE (s.extract 0 k) (by rw[As];omega) V) λ(V:World)=>XE (s.extract (k+1) s.size) (by rw[As];omega) V;rw[K7]at A;rw[K8]at z;rw[hk]at n;obtain⟨W,P⟩:=ex ((Jk s).take k);obtain⟨X,Q⟩:=ex ((Jk s).drop (k+1));rw[P,Q]at n;rw[P]at A;rw[Q]at z;obtain⟨sA,S⟩:=ex (s.extract 0 k);obtain⟨sB,T⟩:=ex (s.extract (k+1) s.size);rw[S,T]at L;rw[S]at A;rw[T]at z;obtain⟨m,U⟩:=ex (Xc W);obtain⟨c,H⟩:=ex (Xc X);obtain⟨oa,R⟩:=ex (good W);obtain⟨ob,F⟩:=ex (good X);obtain⟨Qk,Qj,HA,HB⟩:=DS (show Sok m by rw[<-U];exact D9 _) (show Sok c by rw[<-H];exact D9 _) (show(oa=true->JX W=m)/\(oa=false->m=0)by grind[Xc]) (show(ob=true->JX X=c)by rw[<-F,<-H];unfold Xc;exact λh=>by rw[Be h]);rw[U,R]at A;rw[H,F]at z;rw[R,F]at n;have h1:¬((2000:Int)<(s.size:Int)):=Y
 clear hl hs hk P Q S T U H R F h0;obtain⟨W0,aa,M1⟩:=DQ 27 (.rat 0) (DG _) (w:=w);go_enter func7,ntmps7
 go_upto_region 1 with fail
 rw[aa.o];clear aa;go_upto_region 5 with(first
  |(go_at_call 43;refine(L.o _).mono ?_;clear L;rintro e w1 ⟨rfl,ai⟩)
  |(go_at_call 21;refine(A.o _).mono ?_;clear A;rintro e I ⟨u,rfl,x,aj⟩;obtain⟨aq,ad,an,ag,rfl⟩:=Jg.form2 x))
 obtain⟨V1,v⟩:=ex (I.alloc (.cells #[C aq,B ad an ag] 25));obtain⟨B1,t⟩:=ex (I.heap.size);have p:Bu w (I.alloc (.cells #[C aq,B ad an ag] 25)) [some (w.heap.size,.rat 0),some (I.heap.size,.int m)]:=Bu.push ((M1.o.below ai).below aj) (.int m) x;rw[v,t]at p;rw[v];rw[t];have y:=Z (p);clear M1;clear p v t;clear x ai aj;cases oa with
 |false=>
  obtain⟨s2,a2,l2,c2,n2,i2⟩:=y.o.int (i:=1) J;have az:=Bx.all n2;obtain⟨s3,a3,l3,c3,t3,b3,k3,d3,n3,r3,i3,j3⟩:=y.o.rat (i:=0) J;have Ql:=Bx.all n3;have bc:=Bx.f n3;have g:=y.o.ge 0 J;have N:=y.o.2.2;have hr:Jr V1 (.agg #[C s2,B a2 l2 c2,C false,B none 0 0]) ((none:Option Rat).getD 0):=Jr.mk (by show Jg _ _ 0;rw[<-HA.o.2 J];exact i2) (C8 _);have j:=Z (show Yc (Jk s)=none by rw[n.o];simp);go_wp2_with fail
  exact BB (by simp[results,results7,go_sem,Ql]) J (Yi.of j.o J (hr.put4 n3 J J J J _ _ _ _) (Jy N g _ _ _ _))
 |true=>
  go_upto_region 8 with(go_at_call 21;refine(z.o _).mono ?_;clear z;rintro e K ⟨u,rfl,x,ak⟩;obtain⟨aw,ae,ap,ah,rfl⟩:=Jg.form2 x)
  obtain⟨E,v⟩:=ex (K.alloc (.cells #[C aw,B ae ap ah] 25));obtain⟨B4,t⟩:=ex (K.heap.size);have p:Bu w (K.alloc (.cells #[C aw,B ae ap ah] 25)) [some (w.heap.size,.rat 0),some (B1,.int m),some (K.heap.size,.int c)]:=Bu.push (y.o.below ak) (.int c) x;rw[v,t]at p;rw[v];rw[t];have d:=Z (p);clear y;clear p v t;clear x ak;obtain⟨s5,a5,l5,c5,n5,i5⟩:=d.o.int (i:=1) J;have Qm:=Bx.all n5;obtain⟨s6,a6,l6,c6,n6,i6⟩:=d.o.int (i:=2) J;have Qi:=Bx.all n6;obtain⟨s7,a7,l7,c7,t7,b7,k7,d7,b,r7,i7,j7⟩:=d.o.rat (i:=0) J;have q:=Bx.all b;have M:=Bx.f b;have g:=d.o.ge 0 J;have N:=d.o.2.2;have Qh:Bl E E:=BC _ _;have f:=Z (YR _ _ c 0 E i6 (C8 _));cases ob with
  |false=>
   have j:=Z (show Yc (Jk s)=none by rw[n.o];simp);clear f;go_wp2_with fail
   have r:=Bt d.o.2.2 Qh;have g:=d.o.ge 0 J;exact BB (by simp[results,results7,go_sem,q]) J (Yi.of (o:=none) j.o J ((DG _).put4 (b.below Qh) J J J J _ _ _ _) (Jy r g _ _ _ _))
  |true=>
   by_cases D:0<c
   . have HZ:=Z D;have j:=Z (show Yc (Jk s)=some (Rat.divInt m c)by rw[n.o,HA.o.1 (by first|rfl|trivial),HB.o (by first|rfl|trivial),Be B5]);rw[show Y4 c 0=1 from by unfold Y4;omega]at f;clear D;have HR:=Z λ(V:World) (h:Bl E V)=>Ge _ _ m c V (i5.below h) (i6.below h) (by have:=HZ.o;omega) Qk.o Qj.o;go_wp2_with(first
      |(go_at_call 39;refine f.o.mono ?_;clear f;rintro e w4 ⟨rfl,a⟩;have Qm:=Bx.all (n5.below a);have Qi:=Bx.all (n6.below a))
      |(go_at_call 44;refine(HR.o _ a).mono ?_;clear HR;rintro e w5 ⟨u5,rfl,am,ay⟩;obtain⟨bk,bd,bj,bg,bm,bf,bi,bh,rfl⟩:=Jr.form am;have a:=Bt a ay;have q:=Bx.all (b.below a);have M:=Bx.f (b.below a)))
     have r:=Bt N a;exact BB (by simp[results,results7,go_sem,q]) J (Yi.of j.o J (am.put4 (b.below a) J J J J _ _ _ _) (Jy r g _ _ _ _))
   . have j:=Z (show Yc (Jk s)=none by rw[n.o,HB.o (by first|rfl|trivial),Bd λh=>D h.2.2]);rcases Int.lt_or_eq_of_le (show c<=0 by omega)with G|G
     . rw[show Y4 c 0=-1 from by unfold Y4;rw[Be G]]at f;clear G D;go_wp2_with(go_at_call 39;refine f.o.mono ?_;clear f;rintro e w4 ⟨rfl,a⟩;have q:=Bx.all (b.below a);have M:=Bx.f (b.below a))
       have r:=Bt d.o.2.2 a;have g:=d.o.ge 0 J;exact BB (by simp[results,results7,go_sem,q]) J (Yi.of (o:=none) j.o J ((DG _).put4 (b.below a) J J J J _ _ _ _) (Jy r g _ _ _ _))
     . rw[show Y4 c 0=0 from by unfold Y4;omega]at f;clear G D;go_wp2_with(go_at_call 39;refine f.o.mono ?_;clear f;rintro e w4 ⟨rfl,a⟩;have q:=Bx.all (b.below a);have M:=Bx.f (b.below a))
       have r:=Bt d.o.2.2 a;have g:=d.o.ge 0 J;exact BB (by simp[results,results7,go_sem,q]) J (Yi.of (o:=none) j.o J ((DG _).put4 (b.below a) J J J J _ _ _ _) (Jy r g _ _ _ _))
def Lq(s:ByteArray)(w:World):Calls Tryz.prog 7 #[.string s] w (Yi (Jk s) w):=by
 rcases AG 2000 s.size with h|h
 . exact Ln s h w
 . rcases XD (Jk s)with⟨a,_⟩|⟨a,_⟩
   . exact Lp s h a w
   . exact Lo s h a w
