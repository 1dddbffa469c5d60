import Derived.Test.YtcahejkcdcjjgaaGreatDoorW32
import Derived.Test.YtcahejkcdcjjgaaGreatDoorW26
set_option linter.all false
open Go.Value renaming slice->B,bool->C
set_option maxRecDepth 99999
set_option maxHeartbeats 0
namespace Go.Proofs.YtcahejkcdcjjgaaGreatDoor
open Proofs.Tryz
open Go.RowKit Go.Shelf
section
open M3
attribute [local go_sem] Oper.semAt_some
def Xb(l:List UInt8)(w:World)(e:Ending)(a:World):Prop:=∃u,e=.returned (.tuple #[u,C (J9 l).isSome])/\Jk a u (EE l)/\Bl w a
theorem Xb.of{l:List UInt8}{w a:World}{u:Value}{o:Option Rat}(h:J9 l=o){b:Bool}(d:o.isSome=b)(e:Jk a u (o.getD 0))(c:Bl w a):Xb l w (.returned (.tuple #[u,C b])) a:=
 ⟨u,by rw[h,d],by unfold EE;rw[h];exact e,c⟩
def Vu(s:ByteArray)(p:2000<s.size)(w:World):Calls Tryz.prog 63 #[.string s] w (Xb (Jc s) w):=by
 have e:=Z (KQ (l:=Jc s) (by have:=Jt s;omega));have q:(2000:Int)<(s.size:Int):=O
 obtain⟨W0,c,a⟩:=Ew 38 (.rat 0) (D9 _) (w:=w);go_enter func63,ntmps63
 go_upto_region 1 with fail
 rw[c.o];clear c;obtain⟨y,m,v,c1,z,n,u,d1,b,x,r,t⟩:=a.o.rat (i:=0) J;have f:=Bx.all b;have k:=Bx.f b;have d:Bl W0 W0:=BB _ _;go_wp2_with fail
 have g:=Bt a.o.2.2 d;have j:=a.o.ge 0 J;exact BA (by simp[results,results63,go_sem,f]) J (Xb.of (o:=none) e.o J ((D9 _).put4 (b.below d) J J J J _ _ _ _) (Jo g j _ _ _ _))
def Vv(s:ByteArray)(R:s.size<=2000)(hs:JH (Jc s)=(Jc s).length)(w:World):Calls Tryz.prog 63 #[.string s] w (Xb (Jc s) w):=by
 have hl:=Jt s;obtain⟨f,r,g⟩:=Db (KR (l:=Jc s) O hs) (λ(V:World)=>Vq s (by grind[YR,Jc]) V) λ(V:World)=>MK s O V;obtain⟨d,K⟩:=ex (EB (Jc s));obtain⟨ok,o⟩:=ex (good (Jc s));rw[K,o]at g;have t:=Z (show(ok=true->Yu (Jc s)=d)/\(ok=false->d=0)by grind[EB]);rw[o]at f;have h1:¬((2000:Int)<(s.size:Int)):=O
 clear hl hs K o R;obtain⟨W0,v,x⟩:=Ew 38 (.rat 0) (D9 _) (w:=w);go_enter func63,ntmps63
 go_upto_region 1 with fail
 rw[v.o];clear v;go_upto_region 5 with(first
  |(go_at_call 102;refine(r.o _).mono ?_;clear r;rintro e w1 ⟨rfl,H⟩)
  |(go_at_call 103;refine(g.o _).mono ?_;clear g;rintro e c ⟨u,rfl,q,I⟩;obtain⟨Q,E,N,F,rfl⟩:=Jl.form2 q))
 obtain⟨A,n⟩:=ex (c.alloc (.cells #[C Q,B E N F] 36));obtain⟨T,m⟩:=ex (c.heap.size);have j:DL w (c.alloc (.cells #[C Q,B E N F] 36)) [some (w.heap.size,.rat 0),some (c.heap.size,.int d)]:=DL.push ((x.o.below H).below I) (.int d) q;rw[n,m]at j;rw[n];rw[m];have a:=Z (j);clear x;clear j n m;clear q H I;obtain⟨P,D,M,c2,S,L⟩:=a.o.int (i:=1) J;have U:=Bx.all S;obtain⟨s3,X,l3,c3,t3,b3,k3,d3,b,r3,i3,j3⟩:=a.o.rat (i:=0) J;have z:=Bx.all b;have W:=Bx.f b;have y:=a.o.ge 0 J;have G:=a.o.2.2;cases ok with
 |true=>
  have p:Jk A (.agg #[C P,B D M c2,C false,B none 0 0]) ((some ((Yu (Jc s):Int):Rat)).getD 0):=Jk.mk (by show Jl _ _ (Yu (Jc s));rw[t.o.1 J];exact L) (EN _);have k:=Z (show J9 (Jc s)=some ((Yu (Jc s):Int):Rat)by rw[f.o];rfl);go_wp2_with fail
  exact BA (by simp[results,results63,go_sem,z]) J (Xb.of k.o J (p.put4 b J J J J _ _ _ _) (Jo G y _ _ _ _))
 |false=>
  have p:Jk A (.agg #[C P,B D M c2,C false,B none 0 0]) ((none:Option Rat).getD 0):=Jk.mk (by show Jl _ _ 0;rw[<-t.o.2 J];exact L) (EN _);have k:=Z (show J9 (Jc s)=none by rw[f.o];rfl);go_wp2_with fail
  exact BA (by simp[results,results63,go_sem,z]) J (Xb.of k.o J (p.put4 b J J J J _ _ _ _) (Jo G y _ _ _ _))
def Vw(s:ByteArray)(h0:s.size<=2000)(hs:JH (Jc s)<(Jc s).length)(w:World):Calls Tryz.prog 63 #[.string s] w (Xb (Jc s) w):=by
 have hl:=Jt s;have n:=Z (KS (l:=Jc s) O hs);obtain⟨k,hk⟩:=ex (JH (Jc s));obtain⟨L,A,z⟩:=Db (λ(V:World)=>Vp s k (by grind[YR,Jc]) O h0 V) (λ(V:World)=>MK (s.extract 0 k) (by rw[Az];omega) V) λ(V:World)=>MK (s.extract (k+1) s.size) (by rw[Az];omega) V;rw[MJ]at A;rw[PL]at z;rw[hk]at n;obtain⟨W,P⟩:=ex ((Jc s).take k);obtain⟨X,Q⟩:=ex ((Jc s).drop (k+1));rw[P,Q]at n;rw[P]at A;rw[Q]at z;obtain⟨sA,S⟩:=ex (s.extract 0 k);obtain⟨sB,T⟩:=ex (s.extract (k+1) s.size);rw[S,T]at L;rw[S]at A;rw[T]at z;obtain⟨m,U⟩:=ex (EB W);obtain⟨c,H⟩:=ex (EB X);obtain⟨oa,R⟩:=ex (good W);obtain⟨ob,F⟩:=ex (good X);obtain⟨Qk,Qj,HA,HB⟩:=Dn (show Sok m by rw[<-U];exact KT _) (show Sok c by rw[<-H];exact KT _) (show(oa=true->Yu W=m)/\(oa=false->m=0)by grind[EB]) (show(ob=true->Yu X=c)by rw[<-F,<-H];unfold EB;exact λh=>by rw[BL h]);rw[U,R]at A;rw[H,F]at z;rw[R,F]at n;have h1:¬((2000:Int)<(s.size:Int)):=O
 clear hl hs hk P Q S T U H R F h0;obtain⟨W0,ad,M1⟩:=Ew 38 (.rat 0) (D9 _) (w:=w);go_enter func63,ntmps63
 go_upto_region 1 with fail
 rw[ad.o];clear ad;go_upto_region 5 with(first
  |(go_at_call 102;refine(L.o _).mono ?_;clear L;rintro e w1 ⟨rfl,ak⟩)
  |(go_at_call 103;refine(A.o _).mono ?_;clear A;rintro e I ⟨u,rfl,x,an⟩;obtain⟨bc,ae,ay,ai,rfl⟩:=Jl.form2 x))
 obtain⟨V1,v⟩:=ex (I.alloc (.cells #[C bc,B ae ay ai] 36));obtain⟨B1,t⟩:=ex (I.heap.size);have p:DL w (I.alloc (.cells #[C bc,B ae ay ai] 36)) [some (w.heap.size,.rat 0),some (I.heap.size,.int m)]:=DL.push ((M1.o.below ak).below an) (.int m) x;rw[v,t]at p;rw[v];rw[t];have y:=Z (p);clear M1;clear p v t;clear x ak an;cases oa with
 |false=>
  obtain⟨s2,a2,l2,c2,n2,i2⟩:=y.o.int (i:=1) J;have bg:=Bx.all n2;obtain⟨s3,a3,l3,c3,t3,b3,k3,d3,n3,r3,i3,j3⟩:=y.o.rat (i:=0) J;have Ql:=Bx.all n3;have bh:=Bx.f n3;have g:=y.o.ge 0 J;have N:=y.o.2.2;have hr:Jk V1 (.agg #[C s2,B a2 l2 c2,C false,B none 0 0]) ((none:Option Rat).getD 0):=Jk.mk (by show Jl _ _ 0;rw[<-HA.o.2 J];exact i2) (EN _);have j:=Z (show J9 (Jc s)=none by rw[n.o];simp);go_wp2_with fail
  exact BA (by simp[results,results63,go_sem,Ql]) J (Xb.of j.o J (hr.put4 n3 J J J J _ _ _ _) (Jo N g _ _ _ _))
 |true=>
  go_upto_region 8 with(go_at_call 103;refine(z.o _).mono ?_;clear z;rintro e K ⟨u,rfl,x,ap⟩;obtain⟨bd,ah,az,aj,rfl⟩:=Jl.form2 x)
  obtain⟨E,v⟩:=ex (K.alloc (.cells #[C bd,B ah az aj] 36));obtain⟨B4,t⟩:=ex (K.heap.size);have p:DL w (K.alloc (.cells #[C bd,B ah az aj] 36)) [some (w.heap.size,.rat 0),some (B1,.int m),some (K.heap.size,.int c)]:=DL.push (y.o.below ap) (.int c) x;rw[v,t]at p;rw[v];rw[t];have d:=Z (p);clear y;clear p v t;clear x ap;obtain⟨s5,a5,l5,c5,n5,i5⟩:=d.o.int (i:=1) J;have Qm:=Bx.all n5;obtain⟨s6,a6,l6,c6,n6,i6⟩:=d.o.int (i:=2) J;have Qi:=Bx.all n6;obtain⟨s7,a7,l7,c7,t7,b7,k7,d7,b,r7,i7,j7⟩:=d.o.rat (i:=0) J;have q:=Bx.all b;have M:=Bx.f b;have g:=d.o.ge 0 J;have N:=d.o.2.2;have Qh:Bl E E:=BB _ _;have f:=Z (X8 _ _ c 0 E i6 (EN _));cases ob with
  |false=>
   have j:=Z (show J9 (Jc s)=none by rw[n.o];simp);clear f;go_wp2_with fail
   have r:=Bt d.o.2.2 Qh;have g:=d.o.ge 0 J;exact BA (by simp[results,results63,go_sem,q]) J (Xb.of (o:=none) j.o J ((D9 _).put4 (b.below Qh) J J J J _ _ _ _) (Jo r g _ _ _ _))
  |true=>
   by_cases D:0<c
   . have HZ:=Z D;have j:=Z (show J9 (Jc s)=some (Rat.divInt m c)by rw[n.o,HA.o.1 (by first|rfl|trivial),HB.o (by first|rfl|trivial),BL DY]);rw[show D3 c 0=1 from by unfold D3;omega]at f;clear D;have HR:=Z λ(V:World) (h:Bl E V)=>OV _ _ m c V (i5.below h) (i6.below h) (by have:=HZ.o;omega) Qk.o Qj.o;go_wp2_with(first
      |(go_at_call 87;refine f.o.mono ?_;clear f;rintro e w4 ⟨rfl,a⟩;have Qm:=Bx.all (n5.below a);have Qi:=Bx.all (n6.below a))
      |(go_at_call 104;refine(HR.o _ a).mono ?_;clear HR;rintro e w5 ⟨u5,rfl,aq,bf⟩;obtain⟨bu,bi,bt,bk,bz,bj,bn,bm,rfl⟩:=Jk.form aq;have a:=Bt a bf;have q:=Bx.all (b.below a);have M:=Bx.f (b.below a)))
     have r:=Bt N a;exact BA (by simp[results,results63,go_sem,q]) J (Xb.of j.o J (aq.put4 (b.below a) J J J J _ _ _ _) (Jo r g _ _ _ _))
   . have j:=Z (show J9 (Jc s)=none by rw[n.o,HB.o (by first|rfl|trivial),BH λh=>D h.2.2]);rcases Int.lt_or_eq_of_le (show c<=0 by omega)with G|G
     . rw[show D3 c 0=-1 from by unfold D3;rw[BL G]]at f;clear G D;go_wp2_with(go_at_call 87;refine f.o.mono ?_;clear f;rintro e w4 ⟨rfl,a⟩;have q:=Bx.all (b.below a);have M:=Bx.f (b.below a))
       have r:=Bt d.o.2.2 a;have g:=d.o.ge 0 J;exact BA (by simp[results,results63,go_sem,q]) J (Xb.of (o:=none) j.o J ((D9 _).put4 (b.below a) J J J J _ _ _ _) (Jo r g _ _ _ _))
     . rw[show D3 c 0=0 from by unfold D3;omega]at f;clear G D;go_wp2_with(go_at_call 87;refine f.o.mono ?_;clear f;rintro e w4 ⟨rfl,a⟩;have q:=Bx.all (b.below a);have M:=Bx.f (b.below a))
       have r:=Bt d.o.2.2 a;have g:=d.o.ge 0 J;exact BA (by simp[results,results63,go_sem,q]) J (Xb.of (o:=none) j.o J ((D9 _).put4 (b.below a) J J J J _ _ _ _) (Jo r g _ _ _ _))
def MN(s:ByteArray)(w:World):Calls Tryz.prog 63 #[.string s] w (Xb (Jc s) w):=by
 have hl:=Jt s;rcases AF 2000 s.size with h|h
 . exact Vu s h w
 . rcases YR (Jc s)with⟨a,_⟩|⟨a,_⟩
   . exact Vw s h a w
   . exact Vv s h a w
end

