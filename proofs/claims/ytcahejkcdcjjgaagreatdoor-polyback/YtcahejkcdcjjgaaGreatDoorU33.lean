import Derived.Test.YtcahejkcdcjjgaaGreatDoorU32
import Derived.Test.YtcahejkcdcjjgaaGreatDoorU26
set_option linter.all false
open Go.Value renaming slice->B,bool->C
set_option maxRecDepth 99999
set_option maxHeartbeats 0
namespace Go.Proofs.YtcahejkcdcjjgaaGreatDoor
open Proofs.Tryz
open Go.RowKit Go.Shelf
section
open M3
attribute [local go_sem] Oper.semAt_some
def Y6(l:List UInt8)(w:World)(e:Ending)(a:World):Prop:=∃u,e=.returned (.tuple #[u,C (YF l).isSome])/\Jn a u (ED l)/\Bl w a
theorem Y6.of{l:List UInt8}{w a:World}{u:Value}{o:Option Rat}(h:YF l=o){b:Bool}(d:o.isSome=b)(e:Jn a u (o.getD 0))(c:Bl w a):Y6 l w (.returned (.tuple #[u,C b])) a:=
 ⟨u,by rw[h,d],by unfold ED;rw[h];exact e,c⟩
def Sa(s:ByteArray)(p:2000<s.size)(w:World):Calls Tryz.prog 63 #[.string s] w (Y6 (Jc s) w):=by
 have e:=Ja (SX (l:=Jc s) (by have:=Jz s;omega));have q:(2000:Int)<(s.size:Int):=Y
 obtain⟨W0,c,a⟩:=FH 38 (.rat 0) (Dz _) (w:=w);go_enter func63,ntmps63
 go_upto_region 1 with fail
 rw[c.o];clear c;obtain⟨y,m,v,c1,z,n,u,d1,b,x,r,t⟩:=a.o.rat (i:=0) J;have f:=Bx.all b;have k:=Bx.f b;have d:Bl W0 W0:=BB _ _;go_wp2_with fail
 have g:=Bt a.o.2.2 d;have j:=a.o.ge 0 J;exact BA (by simp[results,results63,go_sem,f]) J (Y6.of (o:=none) e.o J ((Dz _).put4 (b.below d) J J J J _ _ _ _) (Ju g j _ _ _ _))
def Sb(s:ByteArray)(R:s.size<=2000)(hs:JO (Jc s)=(Jc s).length)(w:World):Calls Tryz.prog 63 #[.string s] w (Y6 (Jc s) w):=by
 have hl:=Jz s;obtain⟨f,r,g⟩:=DO (M8 (l:=Jc s) Y hs) (λ(V:World)=>SW s (by grind[KT,Jc]) V) λ(V:World)=>KU s Y V;obtain⟨d,K⟩:=ex (EE (Jc s));obtain⟨ok,o⟩:=ex (good (Jc s));rw[K,o]at g;have t:=Ja (show(ok=true->YA (Jc s)=d)/\(ok=false->d=0)by grind[EE]);rw[o]at f;have h1:¬((2000:Int)<(s.size:Int)):=Y
 clear hl hs K o R;obtain⟨W0,v,x⟩:=FH 38 (.rat 0) (Dz _) (w:=w);go_enter func63,ntmps63
 go_upto_region 1 with fail
 rw[v.o];clear v;go_upto_region 5 with(first
  |(go_at_call 102;refine(r.o _).mono ?_;clear r;rintro e w1 ⟨rfl,H⟩)
  |(go_at_call 103;refine(g.o _).mono ?_;clear g;rintro e c ⟨u,rfl,q,I⟩;obtain⟨Q,E,N,F,rfl⟩:=Jh.form2 q))
 obtain⟨A,n⟩:=ex (c.alloc (.cells #[C Q,B E N F] 36));obtain⟨T,m⟩:=ex (c.heap.size);have j:C8 w (c.alloc (.cells #[C Q,B E N F] 36)) [some (w.heap.size,.rat 0),some (c.heap.size,.int d)]:=C8.push ((x.o.below H).below I) (.int d) q;rw[n,m]at j;rw[n];rw[m];have a:=Ja (j);clear x;clear j n m;clear q H I;obtain⟨P,D,M,c2,S,L⟩:=a.o.int (i:=1) J;have U:=Bx.all S;obtain⟨s3,X,l3,c3,t3,b3,k3,d3,b,r3,i3,j3⟩:=a.o.rat (i:=0) J;have z:=Bx.all b;have W:=Bx.f b;have y:=a.o.ge 0 J;have G:=a.o.2.2;cases ok with
 |true=>
  have p:Jn A (.agg #[C P,B D M c2,C false,B none 0 0]) ((some ((YA (Jc s):Int):Rat)).getD 0):=Jn.mk (by show Jh _ _ (YA (Jc s));rw[t.o.1 J];exact L) (Dm _);have k:=Ja (show YF (Jc s)=some ((YA (Jc s):Int):Rat)by rw[f.o];rfl);go_wp2_with fail
  exact BA (by simp[results,results63,go_sem,z]) J (Y6.of k.o J (p.put4 b J J J J _ _ _ _) (Ju G y _ _ _ _))
 |false=>
  have p:Jn A (.agg #[C P,B D M c2,C false,B none 0 0]) ((none:Option Rat).getD 0):=Jn.mk (by show Jh _ _ 0;rw[<-t.o.2 J];exact L) (Dm _);have k:=Ja (show YF (Jc s)=none by rw[f.o];rfl);go_wp2_with fail
  exact BA (by simp[results,results63,go_sem,z]) J (Y6.of k.o J (p.put4 b J J J J _ _ _ _) (Ju G y _ _ _ _))
def Sc(s:ByteArray)(h0:s.size<=2000)(hs:JO (Jc s)<(Jc s).length)(w:World):Calls Tryz.prog 63 #[.string s] w (Y6 (Jc s) w):=by
 have hl:=Jz s;have n:=Ja (M9 (l:=Jc s) Y hs);obtain⟨k,hk⟩:=ex (JO (Jc s));obtain⟨L,A,z⟩:=DO (λ(V:World)=>SV s k (by grind[KT,Jc]) Y h0 V) (λ(V:World)=>KU (s.extract 0 k) (by rw[A6];omega) V) λ(V:World)=>KU (s.extract (k+1) s.size) (by rw[A6];omega) V;rw[SY]at A;rw[SZ]at z;rw[hk]at n;obtain⟨W,P⟩:=ex ((Jc s).take k);obtain⟨X,Q⟩:=ex ((Jc s).drop (k+1));rw[P,Q]at n;rw[P]at A;rw[Q]at z;obtain⟨sA,S⟩:=ex (s.extract 0 k);obtain⟨sB,T⟩:=ex (s.extract (k+1) s.size);rw[S,T]at L;rw[S]at A;rw[T]at z;obtain⟨m,U⟩:=ex (EE W);obtain⟨c,H⟩:=ex (EE X);obtain⟨oa,R⟩:=ex (good W);obtain⟨ob,F⟩:=ex (good X);obtain⟨Qk,Qj,HA,HB⟩:=Df (show Sok m by rw[<-U];exact NA _) (show Sok c by rw[<-H];exact NA _) (show(oa=true->YA W=m)/\(oa=false->m=0)by grind[EE]) (show(ob=true->YA X=c)by rw[<-F,<-H];unfold EE;exact λh=>by rw[BH h]);rw[U,R]at A;rw[H,F]at z;rw[R,F]at n;have h1:¬((2000:Int)<(s.size:Int)):=Y
 clear hl hs hk P Q S T U H R F h0;obtain⟨W0,ad,M1⟩:=FH 38 (.rat 0) (Dz _) (w:=w);go_enter func63,ntmps63
 go_upto_region 1 with fail
 rw[ad.o];clear ad;go_upto_region 5 with(first
  |(go_at_call 102;refine(L.o _).mono ?_;clear L;rintro e w1 ⟨rfl,ak⟩)
  |(go_at_call 103;refine(A.o _).mono ?_;clear A;rintro e I ⟨u,rfl,x,am⟩;obtain⟨az,ae,aq,ai,rfl⟩:=Jh.form2 x))
 obtain⟨V1,v⟩:=ex (I.alloc (.cells #[C az,B ae aq ai] 36));obtain⟨B1,t⟩:=ex (I.heap.size);have p:C8 w (I.alloc (.cells #[C az,B ae aq ai] 36)) [some (w.heap.size,.rat 0),some (I.heap.size,.int m)]:=C8.push ((M1.o.below ak).below am) (.int m) x;rw[v,t]at p;rw[v];rw[t];have y:=Ja (p);clear M1;clear p v t;clear x ak am;cases oa with
 |false=>
  obtain⟨s2,a2,l2,c2,n2,i2⟩:=y.o.int (i:=1) J;have bf:=Bx.all n2;obtain⟨s3,a3,l3,c3,t3,b3,k3,d3,n3,r3,i3,j3⟩:=y.o.rat (i:=0) J;have Ql:=Bx.all n3;have bg:=Bx.f n3;have g:=y.o.ge 0 J;have N:=y.o.2.2;have hr:Jn V1 (.agg #[C s2,B a2 l2 c2,C false,B none 0 0]) ((none:Option Rat).getD 0):=Jn.mk (by show Jh _ _ 0;rw[<-HA.o.2 J];exact i2) (Dm _);have j:=Ja (show YF (Jc s)=none by rw[n.o];simp);go_wp2_with fail
  exact BA (by simp[results,results63,go_sem,Ql]) J (Y6.of j.o J (hr.put4 n3 J J J J _ _ _ _) (Ju N g _ _ _ _))
 |true=>
  go_upto_region 8 with(go_at_call 103;refine(z.o _).mono ?_;clear z;rintro e K ⟨u,rfl,x,an⟩;obtain⟨bc,ah,ay,aj,rfl⟩:=Jh.form2 x)
  obtain⟨E,v⟩:=ex (K.alloc (.cells #[C bc,B ah ay aj] 36));obtain⟨B4,t⟩:=ex (K.heap.size);have p:C8 w (K.alloc (.cells #[C bc,B ah ay aj] 36)) [some (w.heap.size,.rat 0),some (B1,.int m),some (K.heap.size,.int c)]:=C8.push (y.o.below an) (.int c) x;rw[v,t]at p;rw[v];rw[t];have d:=Ja (p);clear y;clear p v t;clear x an;obtain⟨s5,a5,l5,c5,n5,i5⟩:=d.o.int (i:=1) J;have Qm:=Bx.all n5;obtain⟨s6,a6,l6,c6,n6,i6⟩:=d.o.int (i:=2) J;have Qi:=Bx.all n6;obtain⟨s7,a7,l7,c7,t7,b7,k7,d7,b,r7,i7,j7⟩:=d.o.rat (i:=0) J;have q:=Bx.all b;have M:=Bx.f b;have g:=d.o.ge 0 J;have N:=d.o.2.2;have Qh:Bl E E:=BB _ _;have f:=Ja (XB _ _ c 0 E i6 (Dm _));cases ob with
  |false=>
   have j:=Ja (show YF (Jc s)=none by rw[n.o];simp);clear f;go_wp2_with fail
   have r:=Bt d.o.2.2 Qh;have g:=d.o.ge 0 J;exact BA (by simp[results,results63,go_sem,q]) J (Y6.of (o:=none) j.o J ((Dz _).put4 (b.below Qh) J J J J _ _ _ _) (Ju r g _ _ _ _))
  |true=>
   by_cases D:0<c
   . have HZ:=Ja D;have j:=Ja (show YF (Jc s)=some (Rat.divInt m c)by rw[n.o,HA.o.1 (by first|rfl|trivial),HB.o (by first|rfl|trivial),BH DJ]);rw[show XJ c 0=1 from by unfold XJ;omega]at f;clear D;have HR:=Ja λ(V:World) (h:Bl E V)=>ME _ _ m c V (i5.below h) (i6.below h) (by have:=HZ.o;omega) Qk.o Qj.o;go_wp2_with(first
      |(go_at_call 87;refine f.o.mono ?_;clear f;rintro e w4 ⟨rfl,a⟩;have Qm:=Bx.all (n5.below a);have Qi:=Bx.all (n6.below a))
      |(go_at_call 104;refine(HR.o _ a).mono ?_;clear HR;rintro e w5 ⟨u5,rfl,ap,bd⟩;obtain⟨bt,bh,bn,bj,bu,bi,bm,bk,rfl⟩:=Jn.form ap;have a:=Bt a bd;have q:=Bx.all (b.below a);have M:=Bx.f (b.below a)))
     have r:=Bt N a;exact BA (by simp[results,results63,go_sem,q]) J (Y6.of j.o J (ap.put4 (b.below a) J J J J _ _ _ _) (Ju r g _ _ _ _))
   . have j:=Ja (show YF (Jc s)=none by rw[n.o,HB.o (by first|rfl|trivial),BE λh=>D h.2.2]);rcases Int.lt_or_eq_of_le (show c<=0 by omega)with G|G
     . rw[show XJ c 0=-1 from by unfold XJ;rw[BH G]]at f;clear G D;go_wp2_with(go_at_call 87;refine f.o.mono ?_;clear f;rintro e w4 ⟨rfl,a⟩;have q:=Bx.all (b.below a);have M:=Bx.f (b.below a))
       have r:=Bt d.o.2.2 a;have g:=d.o.ge 0 J;exact BA (by simp[results,results63,go_sem,q]) J (Y6.of (o:=none) j.o J ((Dz _).put4 (b.below a) J J J J _ _ _ _) (Ju r g _ _ _ _))
     . rw[show XJ c 0=0 from by unfold XJ;omega]at f;clear G D;go_wp2_with(go_at_call 87;refine f.o.mono ?_;clear f;rintro e w4 ⟨rfl,a⟩;have q:=Bx.all (b.below a);have M:=Bx.f (b.below a))
       have r:=Bt d.o.2.2 a;have g:=d.o.ge 0 J;exact BA (by simp[results,results63,go_sem,q]) J (Y6.of (o:=none) j.o J ((Dz _).put4 (b.below a) J J J J _ _ _ _) (Ju r g _ _ _ _))
def NB(s:ByteArray)(w:World):Calls Tryz.prog 63 #[.string s] w (Y6 (Jc s) w):=by
 have hl:=Jz s;rcases AH 2000 s.size with h|h
 . exact Sa s h w
 . rcases KT (Jc s)with⟨a,_⟩|⟨a,_⟩
   . exact Sc s h a w
   . exact Sb s h a w
end

