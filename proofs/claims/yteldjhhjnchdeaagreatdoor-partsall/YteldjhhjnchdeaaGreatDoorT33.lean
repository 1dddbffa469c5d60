import Derived.Test.YteldjhhjnchdeaaGreatDoorT32
import Derived.Test.YteldjhhjnchdeaaGreatDoorT26
set_option linter.all false
open Go.Value renaming slice->B,bool->C
set_option maxRecDepth 99999
set_option maxHeartbeats 0
namespace Go.Proofs.YteldjhhjnchdeaaGreatDoor
open Proofs.Tryz
open Go.RowKit Go.Shelf
section
open M3
attribute [local go_sem] Oper.semAt_some
def FR(l:List UInt8)(w:World)(e:Ending)(a:World):Prop:=∃u,e=.returned (.tuple #[u,C (Xu l).isSome])/\Jl a u (GU l)/\Bl w a
theorem FR.of{l:List UInt8}{w a:World}{u:Value}{o:Option Rat}(h:Xu l=o){b:Bool}(d:o.isSome=b)(e:Jl a u (o.getD 0))(c:Bl w a):FR l w (.returned (.tuple #[u,C b])) a:=
 ⟨u,by rw[h,d],by unfold GU;rw[h];exact e,c⟩
def dk(s:ByteArray)(n:2000<s.size)(w:World):Calls Tryz.prog 173 #[.string s] w (FR (Jf s) w):=by
 have d:=Y (da (l:=Jf s) (by have:=JK s;omega));have p:(2000:Int)<(s.size:Int):=O
 obtain⟨W0,c,a⟩:=GN 65 (.rat 0) (ER _) (w:=w);go_enter func173,ntmps173
 go_upto_region 1 with fail
 rw[c.o];clear c;obtain⟨u,k,l1,c1,v,m,t,d1,b,r1,q,r⟩:=a.o.rat (i:=0) J;have e:=Bx.all b;have j:=Bx.f b;have hq:Bl W0 W0:=BB _ _;go_wp2_with fail
 have f:=Bt a.o.2.2 hq;have g:=a.o.ge 0 J;exact BA (by simp[results,results173,go_sem,e]) J (FR.of (o:=none) d.o J ((ER _).put4 (b.below hq) J J J J _ _ _ _) (Jw f g _ _ _ _))
def dl(s:ByteArray)(Q:s.size<=2000)(hs:J7 (Jf s)=(Jf s).length)(w:World):Calls Tryz.prog 173 #[.string s] w (FR (Jf s) w):=by
 have hl:=JK s;obtain⟨f,r,g⟩:=Dc (So (l:=Jf s) O hs) (λ(V:World)=>dZ s (by grind[Ol,Jf]) V) λ(V:World)=>Om s O V;obtain⟨d,K⟩:=ex (GV (Jf s));obtain⟨ok,o⟩:=ex (good (Jf s));rw[K,o]at g;have t:=Y (show(ok=true->Xg (Jf s)=d)/\(ok=false->d=0)by grind[GV]);rw[o]at f;have h1:¬((2000:Int)<(s.size:Int)):=O
 clear hl hs K o Q;obtain⟨W0,v,x⟩:=GN 65 (.rat 0) (ER _) (w:=w);go_enter func173,ntmps173
 go_upto_region 1 with fail
 rw[v.o];clear v;go_upto_region 5 with(first
  |(go_at_call 189;refine(r.o _).mono ?_;clear r;rintro e w1 ⟨rfl,H⟩)
  |(go_at_call 190;refine(g.o _).mono ?_;clear g;rintro e c ⟨u,rfl,q,I⟩;obtain⟨P,E,M,F,rfl⟩:=Jk.form2 q))
 obtain⟨A,n⟩:=ex (c.alloc (.cells #[C P,B E M F] 63));obtain⟨S,m⟩:=ex (c.heap.size);have j:DL w (c.alloc (.cells #[C P,B E M F] 63)) [some (w.heap.size,.rat 0),some (c.heap.size,.int d)]:=DL.push ((x.o.below H).below I) (.int d) q;rw[n,m]at j;rw[n];rw[m];have a:=Y (j);clear x;clear j n m;clear q H I;obtain⟨N,D,l2,c2,R,L⟩:=a.o.int (i:=1) J;have T:=Bx.all R;obtain⟨s3,W,l3,c3,t3,X,k3,d3,b,r3,i3,j3⟩:=a.o.rat (i:=0) J;have z:=Bx.all b;have U:=Bx.f b;have y:=a.o.ge 0 J;have G:=a.o.2.2;cases ok with
 |true=>
  have p:Jl A (.agg #[C N,B D l2 c2,C false,B none 0 0]) ((some ((Xg (Jf s):Int):Rat)).getD 0):=Jl.mk (by show Jk _ _ (Xg (Jf s));rw[t.o.1 J];exact L) (EY _);have k:=Y (show Xu (Jf s)=some ((Xg (Jf s):Int):Rat)by rw[f.o];rfl);go_wp2_with fail
  exact BA (by simp[results,results173,go_sem,z]) J (FR.of k.o J (p.put4 b J J J J _ _ _ _) (Jw G y _ _ _ _))
 |false=>
  have p:Jl A (.agg #[C N,B D l2 c2,C false,B none 0 0]) ((none:Option Rat).getD 0):=Jl.mk (by show Jk _ _ 0;rw[<-t.o.2 J];exact L) (EY _);have k:=Y (show Xu (Jf s)=none by rw[f.o];rfl);go_wp2_with fail
  exact BA (by simp[results,results173,go_sem,z]) J (FR.of k.o J (p.put4 b J J J J _ _ _ _) (Jw G y _ _ _ _))
def dm(s:ByteArray)(h0:s.size<=2000)(hs:J7 (Jf s)<(Jf s).length)(w:World):Calls Tryz.prog 173 #[.string s] w (FR (Jf s) w):=by
 have hl:=JK s;have j:=Y (Sp (l:=Jf s) O hs);obtain⟨k,hk⟩:=ex (J7 (Jf s));obtain⟨I,y,x⟩:=Dc (λ(V:World)=>dY s k (by grind[Ol,Jf]) O h0 V) (λ(V:World)=>Om (s.extract 0 k) (by rw[Cn];omega) V) λ(V:World)=>Om (s.extract (k+1) s.size) (by rw[Cn];omega) V;rw[db]at y;rw[df]at x;rw[hk]at j;obtain⟨T,M⟩:=ex ((Jf s).take k);obtain⟨U,N⟩:=ex ((Jf s).drop (k+1));rw[M,N]at j;rw[M]at y;rw[N]at x;obtain⟨sA,Q⟩:=ex (s.extract 0 k);obtain⟨sB,R⟩:=ex (s.extract (k+1) s.size);rw[Q,R]at I;rw[Q]at y;rw[R]at x;obtain⟨g,S⟩:=ex (GV T);obtain⟨b,F⟩:=ex (GV U);obtain⟨X,P⟩:=ex (good T);obtain⟨ob,D⟩:=ex (good U);obtain⟨Qk,Qj,HA,HB⟩:=Do (show Sok g by rw[<-S];exact Sr _) (show Sok b by rw[<-F];exact Sr _) (show(X=true->Xg T=g)/\(X=false->g=0)by grind[GV]) (show(ob=true->Xg U=b)by rw[<-D,<-F];unfold GV;exact λh=>by rw[BL h]);rw[S,P]at y;rw[F,D]at x;rw[P,D]at j;have h1:¬((2000:Int)<(s.size:Int)):=O
 clear hl hs hk M N Q R S F P D h0;obtain⟨W0,ad,M1⟩:=GN 65 (.rat 0) (ER _) (w:=w);go_enter func173,ntmps173
 go_upto_region 1 with fail
 rw[ad.o];clear ad;go_upto_region 5 with(first
  |(go_at_call 189;refine(I.o _).mono ?_;clear I;rintro e w1 ⟨rfl,ak⟩)
  |(go_at_call 190;refine(y.o _).mono ?_;clear y;rintro e G ⟨u,rfl,t,am⟩;obtain⟨az,ae,aq,ai,rfl⟩:=Jk.form2 t))
 obtain⟨V1,r⟩:=ex (G.alloc (.cells #[C az,B ae aq ai] 63));obtain⟨B1,q⟩:=ex (G.heap.size);have m:DL w (G.alloc (.cells #[C az,B ae aq ai] 63)) [some (w.heap.size,.rat 0),some (G.heap.size,.int g)]:=DL.push ((M1.o.below ak).below am) (.int g) t;rw[r,q]at m;rw[r];rw[q];have v:=Y (m);clear M1;clear m r q;clear t ak am;cases X with
 |false=>
  obtain⟨s2,a2,l2,c2,n2,i2⟩:=v.o.int (i:=1) J;have bg:=Bx.all n2;obtain⟨s3,a3,l3,c3,t3,b3,k3,d3,W,r3,i3,j3⟩:=v.o.rat (i:=0) J;have Ql:=Bx.all W;have bh:=Bx.f W;have d:=v.o.ge 0 J;have L:=v.o.2.2;have hr:Jl V1 (.agg #[C s2,B a2 l2 c2,C false,B none 0 0]) ((none:Option Rat).getD 0):=Jl.mk (by show Jk _ _ 0;rw[<-HA.o.2 J];exact i2) (EY _);have f:=Y (show Xu (Jf s)=none by rw[j.o];simp);go_wp2_with fail
  exact BA (by simp[results,results173,go_sem,Ql]) J (FR.of f.o J (hr.put4 W J J J J _ _ _ _) (Jw L d _ _ _ _))
 |true=>
  go_upto_region 8 with(go_at_call 190;refine(x.o _).mono ?_;clear x;rintro e H ⟨u,rfl,t,an⟩;obtain⟨bc,ah,ay,aj,rfl⟩:=Jk.form2 t)
  obtain⟨A,r⟩:=ex (H.alloc (.cells #[C bc,B ah ay aj] 63));obtain⟨B4,q⟩:=ex (H.heap.size);have m:DL w (H.alloc (.cells #[C bc,B ah ay aj] 63)) [some (w.heap.size,.rat 0),some (B1,.int g),some (H.heap.size,.int b)]:=DL.push (v.o.below an) (.int b) t;rw[r,q]at m;rw[r];rw[q];have M3:=Y (m);clear v;clear m r q;clear t an;obtain⟨s5,a5,l5,c5,n5,i5⟩:=M3.o.int (i:=1) J;have Qm:=Bx.all n5;obtain⟨s6,a6,l6,c6,n6,i6⟩:=M3.o.int (i:=2) J;have Qi:=Bx.all n6;obtain⟨s7,a7,l7,c7,t7,b7,k7,d7,a,r7,i7,j7⟩:=M3.o.rat (i:=0) J;have n:=Bx.all a;have K:=Bx.f a;have d:=M3.o.ge 0 J;have L:=M3.o.2.2;have Qh:Bl A A:=BB _ _;have c:=Y (Ia _ _ b 0 A i6 (EY _));cases ob with
  |false=>
   have f:=Y (show Xu (Jf s)=none by rw[j.o];simp);clear c;go_wp2_with fail
   have p:=Bt M3.o.2.2 Qh;have d:=M3.o.ge 0 J;exact BA (by simp[results,results173,go_sem,n]) J (FR.of (o:=none) f.o J ((ER _).put4 (a.below Qh) J J J J _ _ _ _) (Jw p d _ _ _ _))
  |true=>
   by_cases z:0<b
   . have HZ:=Y z;have f:=Y (show Xu (Jf s)=some (Rat.divInt g b)by rw[j.o,HA.o.1 (by first|rfl|trivial),HB.o (by first|rfl|trivial),BL DX]);rw[show EC b 0=1 from by unfold EC;omega]at c;clear z;have HR:=Y λ(V:World) (h:Bl A V)=>Rr _ _ g b V (i5.below h) (i6.below h) (by have:=HZ.o;omega) Qk.o Qj.o;go_wp2_with(first
      |(go_at_call 104;refine c.o.mono ?_;clear c;rintro e w4 ⟨rfl,hq⟩;have Qm:=Bx.all (n5.below hq);have Qi:=Bx.all (n6.below hq))
      |(go_at_call 118;refine(HR.o _ hq).mono ?_;clear HR;rintro e w5 ⟨u5,rfl,ap,bf⟩;obtain⟨bu,bi,bt,bk,ce,bj,bn,bm,rfl⟩:=Jl.form ap;have hq:=Bt hq bf;have n:=Bx.all (a.below hq);have K:=Bx.f (a.below hq)))
     have p:=Bt L hq;exact BA (by simp[results,results173,go_sem,n]) J (FR.of f.o J (ap.put4 (a.below hq) J J J J _ _ _ _) (Jw p d _ _ _ _))
   . have f:=Y (show Xu (Jf s)=none by rw[j.o,HB.o (by first|rfl|trivial),BH λh=>z h.2.2]);rcases Int.lt_or_eq_of_le (show b<=0 by omega)with E|E
     . rw[show EC b 0=-1 from by unfold EC;rw[BL E]]at c;clear E z;go_wp2_with(go_at_call 104;refine c.o.mono ?_;clear c;rintro e w4 ⟨rfl,hq⟩;have n:=Bx.all (a.below hq);have K:=Bx.f (a.below hq))
       have p:=Bt M3.o.2.2 hq;have d:=M3.o.ge 0 J;exact BA (by simp[results,results173,go_sem,n]) J (FR.of (o:=none) f.o J ((ER _).put4 (a.below hq) J J J J _ _ _ _) (Jw p d _ _ _ _))
     . rw[show EC b 0=0 from by unfold EC;omega]at c;clear E z;go_wp2_with(go_at_call 104;refine c.o.mono ?_;clear c;rintro e w4 ⟨rfl,hq⟩;have n:=Bx.all (a.below hq);have K:=Bx.f (a.below hq))
       have p:=Bt M3.o.2.2 hq;have d:=M3.o.ge 0 J;exact BA (by simp[results,results173,go_sem,n]) J (FR.of (o:=none) f.o J ((ER _).put4 (a.below hq) J J J J _ _ _ _) (Jw p d _ _ _ _))
def Ss(s:ByteArray)(w:World):Calls Tryz.prog 173 #[.string s] w (FR (Jf s) w):=by
 have hl:=JK s;rcases AP 2000 s.size with h|h
 . exact dk s h w
 . rcases Ol (Jf s)with⟨a,_⟩|⟨a,_⟩
   . exact dm s h a w
   . exact dl s h a w
end

