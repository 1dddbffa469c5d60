import Derived.Test.YtakpoihdghihmaaGreatDoorU32
import Derived.Test.YtakpoihdghihmaaGreatDoorU26
set_option linter.all false
open Go.Value renaming slice->B,bool->C
set_option maxRecDepth 99999
set_option maxHeartbeats 0
namespace Go.Proofs.YtakpoihdghihmaaGreatDoor
open Proofs.Tryz
open Go.RowKit Go.Shelf
section
open M3
attribute [local go_sem] Oper.semAt_some
def X4(l:List UInt8)(w:World)(e:Ending)(a:World):Prop:=∃u,e=.returned (.tuple #[u,C (Yt l).isSome])/\Jj a u (EO l)/\Bl w a
theorem X4.of{l:List UInt8}{w a:World}{u:Value}{o:Option Rat}(h:Yt l=o){b:Bool}(d:o.isSome=b)(e:Jj a u (o.getD 0))(c:Bl w a):X4 l w (.returned (.tuple #[u,C b])) a:=
 ⟨u,by rw[h,d],by unfold EO;rw[h];exact e,c⟩
def gs(s:ByteArray)(n:2000<s.size)(w:World):Calls Tryz.prog 24 #[.string s] w (X4 (Je s) w):=by
 have d:=Y (NY (l:=Je s) (by have:=JC s;omega));have p:(2000:Int)<(s.size:Int):=O
 obtain⟨W0,c,a⟩:=Jx 37 (.rat 0) (D8 _) (w:=w);go_enter func24,ntmps24
 go_upto_region 1 with fail
 rw[c.o];clear c;obtain⟨u,k,l1,c1,v,m,t,d1,b,r1,q,r⟩:=a.o.rat (i:=0) J;have e:=Bx.all b;have j:=Bx.f b;have hq:Bl W0 W0:=BA _ _;go_wp2_with fail
 have f:=Bt a.o.2.2 hq;have g:=a.o.ge 0 J;exact A0 (by simp[results,results24,go_sem,e]) J (X4.of (o:=none) d.o J ((D8 _).put4 (b.below hq) J J J J _ _ _ _) (Jn f g _ _ _ _))
def gz(s:ByteArray)(R:s.size<=2000)(K:JQ (Je s)=(Je s).length)(w:World):Calls Tryz.prog 24 #[.string s] w (X4 (Je s) w):=by
 have hl:=JC s;obtain⟨f,r,g⟩:=DX (NZ (l:=Je s) O K) (λ(V:World)=>gW s (by grind[XI,Je]) V) λ(V:World)=>Pm s O V;obtain⟨d,L⟩:=ex (EP (Je s));obtain⟨ok,o⟩:=ex (good (Je s));rw[L,o]at g;have t:=Y (show(ok=true->Xi (Je s)=d)/\(ok=false->d=0)by grind[EP]);rw[o]at f;have h1:¬((2000:Int)<(s.size:Int)):=O
 clear hl K L o R;obtain⟨W0,v,x⟩:=Jx 37 (.rat 0) (D8 _) (w:=w);go_enter func24,ntmps24
 go_upto_region 1 with fail
 rw[v.o];clear v;go_upto_region 5 with(first
  |(go_at_call 62;refine(r.o _).mono ?_;clear r;rintro e w1 ⟨rfl,H⟩)
  |(go_at_call 63;refine(g.o _).mono ?_;clear g;rintro e c ⟨u,rfl,q,I⟩;obtain⟨Q,E,N,F,rfl⟩:=Jm.form2 q))
 obtain⟨A,n⟩:=ex (c.alloc (.cells #[C Q,B E N F] 35));obtain⟨T,m⟩:=ex (c.heap.size);have j:DH w (c.alloc (.cells #[C Q,B E N F] 35)) [some (w.heap.size,.rat 0),some (c.heap.size,.int d)]:=DH.push ((x.o.below H).below I) (.int d) q;rw[n,m]at j;rw[n];rw[m];have a:=Y (j);clear x;clear j n m;clear q H I;obtain⟨P,D,l2,c2,S,M⟩:=a.o.int (i:=1) J;have U:=Bx.all S;obtain⟨s3,X,l3,c3,t3,b3,k3,d3,b,r3,i3,j3⟩:=a.o.rat (i:=0) J;have z:=Bx.all b;have W:=Bx.f b;have y:=a.o.ge 0 J;have G:=a.o.2.2;cases ok with
 |true=>
  have p:Jj A (.agg #[C P,B D l2 c2,C false,B none 0 0]) ((some ((Xi (Je s):Int):Rat)).getD 0):=Jj.mk (by show Jm _ _ (Xi (Je s));rw[t.o.1 J];exact M) (ET _);have k:=Y (show Yt (Je s)=some ((Xi (Je s):Int):Rat)by rw[f.o];rfl);go_wp2_with fail
  exact A0 (by simp[results,results24,go_sem,z]) J (X4.of k.o J (p.put4 b J J J J _ _ _ _) (Jn G y _ _ _ _))
 |false=>
  have p:Jj A (.agg #[C P,B D l2 c2,C false,B none 0 0]) ((none:Option Rat).getD 0):=Jj.mk (by show Jm _ _ 0;rw[<-t.o.2 J];exact M) (ET _);have k:=Y (show Yt (Je s)=none by rw[f.o];rfl);go_wp2_with fail
  exact A0 (by simp[results,results24,go_sem,z]) J (X4.of k.o J (p.put4 b J J J J _ _ _ _) (Jn G y _ _ _ _))
def hO(s:ByteArray)(h0:s.size<=2000)(hs:JQ (Je s)<(Je s).length)(w:World):Calls Tryz.prog 24 #[.string s] w (X4 (Je s) w):=by
 have hl:=JC s;have j:=Y (Na (l:=Je s) O hs);obtain⟨k,hk⟩:=ex (JQ (Je s));obtain⟨I,y,x⟩:=DX (λ(V:World)=>gV s k (by grind[XI,Je]) O h0 V) (λ(V:World)=>Pm (s.extract 0 k) (by rw[AG];omega) V) λ(V:World)=>Pm (s.extract (k+1) s.size) (by rw[AG];omega) V;rw[Pl]at y;rw[Tv]at x;rw[hk]at j;obtain⟨T,M⟩:=ex ((Je s).take k);obtain⟨U,N⟩:=ex ((Je s).drop (k+1));rw[M,N]at j;rw[M]at y;rw[N]at x;obtain⟨sA,Q⟩:=ex (s.extract 0 k);obtain⟨sB,R⟩:=ex (s.extract (k+1) s.size);rw[Q,R]at I;rw[Q]at y;rw[R]at x;obtain⟨g,S⟩:=ex (EP T);obtain⟨b,F⟩:=ex (EP U);obtain⟨X,P⟩:=ex (good T);obtain⟨ob,D⟩:=ex (good U);obtain⟨Qk,Qj,HA,HB⟩:=Di (show Sok g by rw[<-S];exact Nb _) (show Sok b by rw[<-F];exact Nb _) (show(X=true->Xi T=g)/\(X=false->g=0)by grind[EP]) (show(ob=true->Xi U=b)by rw[<-D,<-F];unfold EP;exact λh=>by rw[BG h]);rw[S,P]at y;rw[F,D]at x;rw[P,D]at j;have h1:¬((2000:Int)<(s.size:Int)):=O
 clear hl hs hk M N Q R S F P D h0;obtain⟨W0,ad,M1⟩:=Jx 37 (.rat 0) (D8 _) (w:=w);go_enter func24,ntmps24
 go_upto_region 1 with fail
 rw[ad.o];clear ad;go_upto_region 5 with(first
  |(go_at_call 62;refine(I.o _).mono ?_;clear I;rintro e w1 ⟨rfl,ak⟩)
  |(go_at_call 63;refine(y.o _).mono ?_;clear y;rintro e G ⟨u,rfl,t,am⟩;obtain⟨az,ae,aq,ai,rfl⟩:=Jm.form2 t))
 obtain⟨V1,r⟩:=ex (G.alloc (.cells #[C az,B ae aq ai] 35));obtain⟨B1,q⟩:=ex (G.heap.size);have m:DH w (G.alloc (.cells #[C az,B ae aq ai] 35)) [some (w.heap.size,.rat 0),some (G.heap.size,.int g)]:=DH.push ((M1.o.below ak).below am) (.int g) t;rw[r,q]at m;rw[r];rw[q];have v:=Y (m);clear M1;clear m r q;clear t ak am;cases X with
 |false=>
  obtain⟨s2,a2,l2,c2,n2,i2⟩:=v.o.int (i:=1) J;have bg:=Bx.all n2;obtain⟨s3,a3,l3,c3,t3,b3,k3,d3,W,r3,i3,j3⟩:=v.o.rat (i:=0) J;have Ql:=Bx.all W;have bh:=Bx.f W;have d:=v.o.ge 0 J;have L:=v.o.2.2;have hr:Jj V1 (.agg #[C s2,B a2 l2 c2,C false,B none 0 0]) ((none:Option Rat).getD 0):=Jj.mk (by show Jm _ _ 0;rw[<-HA.o.2 J];exact i2) (ET _);have f:=Y (show Yt (Je s)=none by rw[j.o];simp);go_wp2_with fail
  exact A0 (by simp[results,results24,go_sem,Ql]) J (X4.of f.o J (hr.put4 W J J J J _ _ _ _) (Jn L d _ _ _ _))
 |true=>
  go_upto_region 8 with(go_at_call 63;refine(x.o _).mono ?_;clear x;rintro e H ⟨u,rfl,t,an⟩;obtain⟨bc,ah,ay,aj,rfl⟩:=Jm.form2 t)
  obtain⟨A,r⟩:=ex (H.alloc (.cells #[C bc,B ah ay aj] 35));obtain⟨B4,q⟩:=ex (H.heap.size);have m:DH w (H.alloc (.cells #[C bc,B ah ay aj] 35)) [some (w.heap.size,.rat 0),some (B1,.int g),some (H.heap.size,.int b)]:=DH.push (v.o.below an) (.int b) t;rw[r,q]at m;rw[r];rw[q];have M3:=Y (m);clear v;clear m r q;clear t an;obtain⟨s5,a5,l5,c5,n5,i5⟩:=M3.o.int (i:=1) J;have Qm:=Bx.all n5;obtain⟨s6,a6,l6,c6,n6,i6⟩:=M3.o.int (i:=2) J;have Qi:=Bx.all n6;obtain⟨s7,a7,l7,c7,t7,b7,k7,d7,a,r7,i7,j7⟩:=M3.o.rat (i:=0) J;have n:=Bx.all a;have K:=Bx.f a;have d:=M3.o.ge 0 J;have L:=M3.o.2.2;have Qh:Bl A A:=BA _ _;have c:=Y (I5 _ _ b 0 A i6 (ET _));cases ob with
  |false=>
   have f:=Y (show Yt (Je s)=none by rw[j.o];simp);clear c;go_wp2_with fail
   have p:=Bt M3.o.2.2 Qh;have d:=M3.o.ge 0 J;exact A0 (by simp[results,results24,go_sem,n]) J (X4.of (o:=none) f.o J ((D8 _).put4 (a.below Qh) J J J J _ _ _ _) (Jn p d _ _ _ _))
  |true=>
   by_cases z:0<b
   . have HZ:=Y z;have f:=Y (show Yt (Je s)=some (Rat.divInt g b)by rw[j.o,HA.o.1 (by first|rfl|trivial),HB.o (by first|rfl|trivial),BG DI]);rw[show XN b 0=1 from by unfold XN;omega]at c;clear z;have HR:=Y λ(V:World) (h:Bl A V)=>TC _ _ g b V (i5.below h) (i6.below h) (by have:=HZ.o;omega) Qk.o Qj.o;go_wp2_with(first
      |(go_at_call 64;refine c.o.mono ?_;clear c;rintro e w4 ⟨rfl,hq⟩;have Qm:=Bx.all (n5.below hq);have Qi:=Bx.all (n6.below hq))
      |(go_at_call 65;refine(HR.o _ hq).mono ?_;clear HR;rintro e w5 ⟨u5,rfl,ap,bf⟩;obtain⟨bu,bi,bt,bk,ce,bj,bn,bm,rfl⟩:=Jj.form ap;have hq:=Bt hq bf;have n:=Bx.all (a.below hq);have K:=Bx.f (a.below hq)))
     have p:=Bt L hq;exact A0 (by simp[results,results24,go_sem,n]) J (X4.of f.o J (ap.put4 (a.below hq) J J J J _ _ _ _) (Jn p d _ _ _ _))
   . have f:=Y (show Yt (Je s)=none by rw[j.o,HB.o (by first|rfl|trivial),BD λh=>z h.2.2]);rcases Int.lt_or_eq_of_le (show b<=0 by omega)with E|E
     . rw[show XN b 0=-1 from by unfold XN;rw[BG E]]at c;clear E z;go_wp2_with(go_at_call 64;refine c.o.mono ?_;clear c;rintro e w4 ⟨rfl,hq⟩;have n:=Bx.all (a.below hq);have K:=Bx.f (a.below hq))
       have p:=Bt M3.o.2.2 hq;have d:=M3.o.ge 0 J;exact A0 (by simp[results,results24,go_sem,n]) J (X4.of (o:=none) f.o J ((D8 _).put4 (a.below hq) J J J J _ _ _ _) (Jn p d _ _ _ _))
     . rw[show XN b 0=0 from by unfold XN;omega]at c;clear E z;go_wp2_with(go_at_call 64;refine c.o.mono ?_;clear c;rintro e w4 ⟨rfl,hq⟩;have n:=Bx.all (a.below hq);have K:=Bx.f (a.below hq))
       have p:=Bt M3.o.2.2 hq;have d:=M3.o.ge 0 J;exact A0 (by simp[results,results24,go_sem,n]) J (X4.of (o:=none) f.o J ((D8 _).put4 (a.below hq) J J J J _ _ _ _) (Jn p d _ _ _ _))
def Nc(s:ByteArray)(w:World):Calls Tryz.prog 24 #[.string s] w (X4 (Je s) w):=by
 have hl:=JC s;rcases AQ 2000 s.size with h|h
 . exact gs s h w
 . rcases XI (Je s)with⟨a,_⟩|⟨a,_⟩
   . exact hO s h a w
   . exact gz s h a w
end

