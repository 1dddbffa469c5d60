import Derived.Test.YtcahejkcdcjjgaaGreatDoorS32
import Derived.Test.YtcahejkcdcjjgaaGreatDoorS26
set_option linter.all false
open Go.Value renaming slice->B,bool->C
set_option maxRecDepth 99999
set_option maxHeartbeats 0
namespace Go.Proofs.YtcahejkcdcjjgaaGreatDoor
open Proofs.Tryz
open Go.RowKit Go.Shelf
section
open M3
attribute [local go_sem] Oper.semAt_some
def YO(l:List UInt8)(w:World)(e:Ending)(a:World):Prop:=∃u,e=.returned (.tuple #[u,C (Yo l).isSome])/\Jg a u (D4 l)/\Bl w a
theorem YO.of{l:List UInt8}{w a:World}{u:Value}{o:Option Rat}(h:Yo l=o){b:Bool}(d:o.isSome=b)(e:Jg a u (o.getD 0))(c:Bl w a):YO l w (.returned (.tuple #[u,C b])) a:=
 ⟨u,by rw[h,d],by unfold D4;rw[h];exact e,c⟩
def UV(s:ByteArray)(p:2000<s.size)(w:World):Calls Tryz.prog 63 #[.string s] w (YO (Jd s) w):=by
 have e:=Ja (Oq (l:=Jd s) (by have:=Ju s;omega));have q:(2000:Int)<(s.size:Int):=Z
 obtain⟨W0,c,a⟩:=GV 38 (.rat 0) (XK _) (w:=w);go_enter func63,ntmps63
 go_upto_region 1 with fail
 rw[c.o];clear c;obtain⟨y,m,v,c1,z,n,u,d1,b,x,r,t⟩:=a.o.rat (i:=0) J;have f:=Bx.all b;have k:=Bx.f b;have d:Bl W0 W0:=BL _ _;go_wp2_with fail
 have g:=Bt a.o.2.2 d;have j:=a.o.ge 0 J;exact BM (by simp[results,results63,go_sem,f]) J (YO.of (o:=none) e.o J ((XK _).put4 (b.below d) J J J J _ _ _ _) (Js g j _ _ _ _))
def UW(s:ByteArray)(R:s.size<=2000)(hs:JH (Jd s)=(Jd s).length)(w:World):Calls Tryz.prog 63 #[.string s] w (YO (Jd s) w):=by
 have hl:=Ju s;obtain⟨f,r,g⟩:=Dm (Lw (l:=Jd s) Z hs) (λ(V:World)=>UR s (by grind[X2,Jd]) V) λ(V:World)=>Ly s Z V;obtain⟨d,K⟩:=ex (FF (Jd s));obtain⟨ok,o⟩:=ex (good (Jd s));rw[K,o]at g;have t:=Ja (show(ok=true->YE (Jd s)=d)/\(ok=false->d=0)by grind[FF]);rw[o]at f;have h1:¬((2000:Int)<(s.size:Int)):=Z
 clear hl hs K o R;obtain⟨W0,v,x⟩:=GV 38 (.rat 0) (XK _) (w:=w);go_enter func63,ntmps63
 go_upto_region 1 with fail
 rw[v.o];clear v;go_upto_region 5 with(first
  |(go_at_call 102;refine(r.o _).mono ?_;clear r;rintro e w1 ⟨rfl,H⟩)
  |(go_at_call 103;refine(g.o _).mono ?_;clear g;rintro e c ⟨u,rfl,q,I⟩;obtain⟨Q,E,N,F,rfl⟩:=Ji.form2 q))
 obtain⟨A,n⟩:=ex (c.alloc (.cells #[C Q,B E N F] 36));obtain⟨T,m⟩:=ex (c.heap.size);have j:DS w (c.alloc (.cells #[C Q,B E N F] 36)) [some (w.heap.size,.rat 0),some (c.heap.size,.int d)]:=DS.push ((x.o.below H).below I) (.int d) q;rw[n,m]at j;rw[n];rw[m];have a:=Ja (j);clear x;clear j n m;clear q H I;obtain⟨P,D,M,c2,S,L⟩:=a.o.int (i:=1) J;have U:=Bx.all S;obtain⟨s3,X,l3,c3,t3,b3,k3,d3,b,r3,i3,j3⟩:=a.o.rat (i:=0) J;have z:=Bx.all b;have W:=Bx.f b;have y:=a.o.ge 0 J;have G:=a.o.2.2;cases ok with
 |true=>
  have p:Jg A (.agg #[C P,B D M c2,C false,B none 0 0]) ((some ((YE (Jd s):Int):Rat)).getD 0):=Jg.mk (by show Ji _ _ (YE (Jd s));rw[t.o.1 J];exact L) (EB _);have k:=Ja (show Yo (Jd s)=some ((YE (Jd s):Int):Rat)by rw[f.o];rfl);go_wp2_with fail
  exact BM (by simp[results,results63,go_sem,z]) J (YO.of k.o J (p.put4 b J J J J _ _ _ _) (Js G y _ _ _ _))
 |false=>
  have p:Jg A (.agg #[C P,B D M c2,C false,B none 0 0]) ((none:Option Rat).getD 0):=Jg.mk (by show Ji _ _ 0;rw[<-t.o.2 J];exact L) (EB _);have k:=Ja (show Yo (Jd s)=none by rw[f.o];rfl);go_wp2_with fail
  exact BM (by simp[results,results63,go_sem,z]) J (YO.of k.o J (p.put4 b J J J J _ _ _ _) (Js G y _ _ _ _))
def UX(s:ByteArray)(h0:s.size<=2000)(hs:JH (Jd s)<(Jd s).length)(w:World):Calls Tryz.prog 63 #[.string s] w (YO (Jd s) w):=by
 have hl:=Ju s;have m:=Ja (Lx (l:=Jd s) Z hs);obtain⟨k,hk⟩:=ex (JH (Jd s));obtain⟨K,z,y⟩:=Dm (λ(V:World)=>UQ s k (by grind[X2,Jd]) Z h0 V) (λ(V:World)=>Ly (s.extract 0 k) (by rw[Ca];omega) V) λ(V:World)=>Ly (s.extract (k+1) s.size) (by rw[Ca];omega) V;rw[UT]at z;rw[UU]at y;rw[hk]at m;obtain⟨U,N⟩:=ex ((Jd s).take k);obtain⟨W,P⟩:=ex ((Jd s).drop (k+1));rw[N,P]at m;rw[N]at z;rw[P]at y;obtain⟨sA,R⟩:=ex (s.extract 0 k);obtain⟨sB,S⟩:=ex (s.extract (k+1) s.size);rw[R,S]at K;rw[R]at z;rw[S]at y;obtain⟨j,T⟩:=ex (FF U);obtain⟨c,G⟩:=ex (FF W);obtain⟨oa,Q⟩:=ex (good U);obtain⟨ob,E⟩:=ex (good W);obtain⟨Qk,Qj,HA,HB⟩:=Dw (show Sok j by rw[<-T];exact Ot _) (show Sok c by rw[<-G];exact Ot _) (show(oa=true->YE U=j)/\(oa=false->j=0)by grind[FF]) (show(ob=true->YE W=c)by rw[<-E,<-G];unfold FF;exact λh=>by rw[Br h]);rw[T,Q]at z;rw[G,E]at y;rw[Q,E]at m;have h1:¬((2000:Int)<(s.size:Int)):=Z
 clear hl hs hk N P R S T G Q E h0;obtain⟨W0,ad,M1⟩:=GV 38 (.rat 0) (XK _) (w:=w);go_enter func63,ntmps63
 go_upto_region 1 with fail
 rw[ad.o];clear ad;go_upto_region 5 with(first
  |(go_at_call 102;refine(K.o _).mono ?_;clear K;rintro e w1 ⟨rfl,ak⟩)
  |(go_at_call 103;refine(z.o _).mono ?_;clear z;rintro e H ⟨u,rfl,v,am⟩;obtain⟨az,ae,aq,ai,rfl⟩:=Ji.form2 v))
 obtain⟨V1,t⟩:=ex (H.alloc (.cells #[C az,B ae aq ai] 36));obtain⟨B1,r⟩:=ex (H.heap.size);have n:DS w (H.alloc (.cells #[C az,B ae aq ai] 36)) [some (w.heap.size,.rat 0),some (H.heap.size,.int j)]:=DS.push ((M1.o.below ak).below am) (.int j) v;rw[t,r]at n;rw[t];rw[r];have x:=Ja (n);clear M1;clear n t r;clear v ak am;cases oa with
 |false=>
  obtain⟨s2,a2,l2,c2,n2,i2⟩:=x.o.int (i:=1) J;have bd:=Bx.all n2;obtain⟨s3,a3,l3,c3,t3,b3,k3,d3,X,r3,i3,j3⟩:=x.o.rat (i:=0) J;have Ql:=Bx.all X;have bf:=Bx.f X;have f:=x.o.ge 0 J;have M:=x.o.2.2;have hr:Jg V1 (.agg #[C s2,B a2 l2 c2,C false,B none 0 0]) ((none:Option Rat).getD 0):=Jg.mk (by show Ji _ _ 0;rw[<-HA.o.2 J];exact i2) (EB _);have g:=Ja (show Yo (Jd s)=none by rw[m.o];simp);go_wp2_with fail
  exact BM (by simp[results,results63,go_sem,Ql]) J (YO.of g.o J (hr.put4 X J J J J _ _ _ _) (Js M f _ _ _ _))
 |true=>
  go_upto_region 8 with(go_at_call 103;refine(y.o _).mono ?_;clear y;rintro e I ⟨u,rfl,v,an⟩;obtain⟨ba,ah,ay,aj,rfl⟩:=Ji.form2 v)
  obtain⟨D,t⟩:=ex (I.alloc (.cells #[C ba,B ah ay aj] 36));obtain⟨B4,r⟩:=ex (I.heap.size);have n:DS w (I.alloc (.cells #[C ba,B ah ay aj] 36)) [some (w.heap.size,.rat 0),some (B1,.int j),some (I.heap.size,.int c)]:=DS.push (x.o.below an) (.int c) v;rw[t,r]at n;rw[t];rw[r];have M3:=Ja (n);clear x;clear n t r;clear v an;obtain⟨s5,a5,l5,c5,n5,i5⟩:=M3.o.int (i:=1) J;have Qm:=Bx.all n5;obtain⟨s6,a6,l6,c6,n6,i6⟩:=M3.o.int (i:=2) J;have Qi:=Bx.all n6;obtain⟨s7,a7,l7,c7,t7,b7,k7,d7,b,r7,i7,j7⟩:=M3.o.rat (i:=0) J;have p:=Bx.all b;have L:=Bx.f b;have f:=M3.o.ge 0 J;have M:=M3.o.2.2;have Qh:Bl D D:=BL _ _;have d:=Ja (XJ _ _ c 0 D i6 (EB _));cases ob with
  |false=>
   have g:=Ja (show Yo (Jd s)=none by rw[m.o];simp);clear d;go_wp2_with fail
   have q:=Bt M3.o.2.2 Qh;have f:=M3.o.ge 0 J;exact BM (by simp[results,results63,go_sem,p]) J (YO.of (o:=none) g.o J ((XK _).put4 (b.below Qh) J J J J _ _ _ _) (Js q f _ _ _ _))
  |true=>
   by_cases A:0<c
   . have HZ:=Ja A;have g:=Ja (show Yo (Jd s)=some (Rat.divInt j c)by rw[m.o,HA.o.1 (by first|rfl|trivial),HB.o (by first|rfl|trivial),Br De]);rw[show XI c 0=1 from by unfold XI;omega]at d;clear A;have HR:=Ja λ(V:World) (h:Bl D V)=>OA _ _ j c V (i5.below h) (i6.below h) (by have:=HZ.o;omega) Qk.o Qj.o;go_wp2_with(first
      |(go_at_call 87;refine d.o.mono ?_;clear d;rintro e w4 ⟨rfl,a⟩;have Qm:=Bx.all (n5.below a);have Qi:=Bx.all (n6.below a))
      |(go_at_call 104;refine(HR.o _ a).mono ?_;clear HR;rintro e w5 ⟨u5,rfl,ap,bc⟩;obtain⟨bn,bg,bm,bi,bt,bh,bk,bj,rfl⟩:=Jg.form ap;have a:=Bt a bc;have p:=Bx.all (b.below a);have L:=Bx.f (b.below a)))
     have q:=Bt M a;exact BM (by simp[results,results63,go_sem,p]) J (YO.of g.o J (ap.put4 (b.below a) J J J J _ _ _ _) (Js q f _ _ _ _))
   . have g:=Ja (show Yo (Jd s)=none by rw[m.o,HB.o (by first|rfl|trivial),Bk λh=>A h.2.2]);rcases Int.lt_or_eq_of_le (show c<=0 by omega)with F|F
     . rw[show XI c 0=-1 from by unfold XI;rw[Br F]]at d;clear F A;go_wp2_with(go_at_call 87;refine d.o.mono ?_;clear d;rintro e w4 ⟨rfl,a⟩;have p:=Bx.all (b.below a);have L:=Bx.f (b.below a))
       have q:=Bt M3.o.2.2 a;have f:=M3.o.ge 0 J;exact BM (by simp[results,results63,go_sem,p]) J (YO.of (o:=none) g.o J ((XK _).put4 (b.below a) J J J J _ _ _ _) (Js q f _ _ _ _))
     . rw[show XI c 0=0 from by unfold XI;omega]at d;clear F A;go_wp2_with(go_at_call 87;refine d.o.mono ?_;clear d;rintro e w4 ⟨rfl,a⟩;have p:=Bx.all (b.below a);have L:=Bx.f (b.below a))
       have q:=Bt M3.o.2.2 a;have f:=M3.o.ge 0 J;exact BM (by simp[results,results63,go_sem,p]) J (YO.of (o:=none) g.o J ((XK _).put4 (b.below a) J J J J _ _ _ _) (Js q f _ _ _ _))
def Lz(s:ByteArray)(w:World):Calls Tryz.prog 63 #[.string s] w (YO (Jd s) w):=by
 have hl:=Ju s;rcases AJ 2000 s.size with h|h
 . exact UV s h w
 . rcases X2 (Jd s)with⟨a,_⟩|⟨a,_⟩
   . exact UX s h a w
   . exact UW s h a w
end

