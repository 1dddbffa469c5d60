import Derived.Test.YtakpoihdghihmaaGreatDoorM37
import Derived.Test.YtakpoihdghihmaaGreatDoorM28
import Derived.Test.YtakpoihdghihmaaGreatDoorM24
import Derived.Lib.BitFns
open Go.Value renaming slice->B,bool->C,tuple->D
set_option maxRecDepth 100000
set_option maxHeartbeats 16000000
namespace Go.Proofs.YtakpoihdghihmaaGreatDoor
open Go.RowKit Go.Shelf
section
attribute [local go_sem] Oper.semAt_some
def Xk(l:List UInt8)(w:World)(e:Ending)(a:World):Prop:=∃u,e=.returned (D #[u,C (Y4 l).isSome])/\Jg a u (EN l)/\Bl w a
theorem Xk.of{l:List UInt8}{w a:World}{u:Value}{o:Option Rat}(h:Y4 l=o){b:Bool}(d:o.isSome=b)(e:Jg a u (o.getD 0))(c:Bl w a):Xk l w (.returned (D #[u,C b])) a:=
 ⟨u,by rw[h,d],by unfold EN;rw[h];exact e,c⟩
theorem WD(s:ByteArray)(z:2000<s.size)(w:World):Calls Tryz.prog 24 #[.string s] w (Xk (Jj s) w):=by
 have f:=Ja (Pa (l:=Jj s) (by have:=JB s;omega));have A:(2000:Int)<(s.size:Int):=Y
 have a:=((Mem.nil w).push (.rat 0) (XQ _));have a:Mem w (w.alloc (.cells #[C false,B none 0 0,C false,B none 0 0] 37)) [some (w.heap.size,.rat 0)]:=a;obtain⟨W0,c⟩:=ex (w.alloc (.cells #[C false,B none 0 0,C false,B none 0 0] 37));have e:=Ja c;rw[c]at a;have b:Hid (Mem w W0 [some (w.heap.size,.rat 0)]):=Ja a;clear a c;go_enter Tryz.func24,Tryz.ntmps24
 go_upto_region 1 with fail
 rw[e.o];clear e;obtain⟨H,q,l1,c1,I,r,G,d1,d,r1,E,F⟩:=b.o.rat (i:=0) rfl;obtain⟨p,j,k,m⟩:=d.cq;obtain⟨t,u,x,y⟩:=d.fq;have hq:Bl W0 W0:=BF _ _;go_wp2_with fail
 have n:=Bt b.o.2.2 hq;have g:=b.o.ge 0 rfl;exact BA (v:=D #[.agg #[C false,B none 0 0,C false,B none 0 0],C false]) (by simp[results,Tryz.results24,go_sem,p,j,k,m]) rfl (Xk.of (o:=none) f.o rfl ((XQ _).put4 (d.below hq) rfl rfl rfl rfl _ _ _ _) (Jt n g _ _ _ _))
theorem WE(s:ByteArray)(h0:s.size<=2000)(U:JR (Jj s)=(Jj s).length)(w:World):Calls Tryz.prog 24 #[.string s] w (Xk (Jj s) w):=by
 have hl:=JB s;obtain⟨m,E,n⟩:=DX (Mi (l:=Jj s) Y U) (λ(V:World)=>Vz s (by rcases Ks (Jj s)with⟨h,_⟩|⟨_,h⟩;{omega};{exact h}) V) λ(V:World)=>Mk s Y V;obtain⟨b,A⟩:=ex (Fqq (Jj s));obtain⟨ok,f⟩:=ex (good (Jj s));rw[A,f]at n;have F:=Ja (show(ok=true->YW (Jj s)=b)/\(ok=false->b=0)by rw[<-f,<-A];unfold Fqq;exact⟨λh=>by rw[BE h],λh=>by rw[h];simp⟩);rw[f]at m;have h1:¬((2000:Int)<(s.size:Int)):=Y
 clear hl U A f h0;have a:=((Mem.nil w).push (.rat 0) (XQ _));have a:Mem w (w.alloc (.cells #[C false,B none 0 0,C false,B none 0 0] 37)) [some (w.heap.size,.rat 0)]:=a;obtain⟨W0,x⟩:=ex (w.alloc (.cells #[C false,B none 0 0,C false,B none 0 0] 37));have K:=Ja x;rw[x]at a;have G:Hid (Mem w W0 [some (w.heap.size,.rat 0)]):=Ja a;clear a x;go_enter Tryz.func24,Tryz.ntmps24
 go_upto_region 1 with fail
 rw[K.o];clear K;go_upto_region 5 with(first
  |(go_at_call 62;refine(E.o _).mono ?_;clear E;rintro e w1 ⟨rfl,S⟩)
  |(go_at_call 63;refine(n.o _).mono ?_;clear n;rintro e k ⟨u,rfl,z,T⟩;obtain⟨ad,P,X,Q,rfl⟩:=Jk.form2 z))
 obtain⟨q,t⟩:=ex (k.alloc (.cells #[C ad,B P X Q] 35));obtain⟨B1,r⟩:=ex (k.heap.size);have o:Mem w (k.alloc (.cells #[C ad,B P X Q] 35)) [some (w.heap.size,.rat 0),some (k.heap.size,.int b)]:=Mem.push ((G.o.below S).below T) (.int b) z;rw[t,r]at o;rw[t];rw[r];have c:Hid (Mem w q [some (w.heap.size,.rat 0),some (B1,.int b)]):=Ja (o);clear G;clear o t r;clear z S T;obtain⟨j,d,l2,c2,n2,W⟩:=c.o.int (i:=1) rfl;obtain⟨ae,af⟩:=n2.cp;obtain⟨s3,a3,l3,c3,t3,b3,k3,d3,g,r3,i3,j3⟩:=c.o.rat (i:=0) rfl;obtain⟨M,L,N,I⟩:=g.cq;obtain⟨ah,ai,aj,ak⟩:=g.fq;have H:=c.o.ge 0 rfl;have R:=c.o.2.2;cases ok with
 |true=>
  have y:Jg q (.agg #[C j,B d l2 c2,C false,B none 0 0]) ((some ((YW (Jj s):Int):Rat)).getD 0):=Jg.mk (by show Jk _ _ (YW (Jj s));rw[F.o.1 rfl];exact W) (XP _);have p:=Ja (show Y4 (Jj s)=some ((YW (Jj s):Int):Rat)by rw[m.o];rfl);go_wp2_with fail
  exact BA (v:=D #[.agg #[C j,B d l2 c2,C false,B none 0 0],C true]) (by simp[results,Tryz.results24,go_sem,M,L,N,I]) rfl (Xk.of p.o rfl (y.put4 g rfl rfl rfl rfl _ _ _ _) (Jt R H _ _ _ _))
 |false=>
  have y:Jg q (.agg #[C j,B d l2 c2,C false,B none 0 0]) ((none:Option Rat).getD 0):=Jg.mk (by show Jk _ _ 0;rw[<-F.o.2 rfl];exact W) (XP _);have p:=Ja (show Y4 (Jj s)=none by rw[m.o];rfl);go_wp2_with fail
  exact BA (v:=D #[.agg #[C j,B d l2 c2,C false,B none 0 0],C false]) (by simp[results,Tryz.results24,go_sem,M,L,N,I]) rfl (Xk.of p.o rfl (y.put4 g rfl rfl rfl rfl _ _ _ _) (Jt R H _ _ _ _))
theorem WF(s:ByteArray)(h0:s.size<=2000)(hs:JR (Jj s)<(Jj s).length)(w:World):Calls Tryz.prog 24 #[.string s] w (Xk (Jj s) w):=by
 have hl:=JB s;have m:=Ja (Mj (l:=Jj s) Y hs);obtain⟨k,hk⟩:=ex (JR (Jj s));obtain⟨T,F,G⟩:=DX (λ(V:World)=>Vy s k (by rcases Ks (Jj s)with⟨_,h⟩|⟨h,_⟩;{rw[<-hk];exact h};{omega}) Y h0 V) (λ(V:World)=>Mk (s.extract 0 k) (by rw[Cp];omega) V) λ(V:World)=>Mk (s.extract (k+1) s.size) (by rw[Cp];omega) V;rw[WB]at F;rw[WC]at G;rw[hk]at m;obtain⟨lA,ae⟩:=ex ((Jj s).take k);obtain⟨lB,af⟩:=ex ((Jj s).drop (k+1));rw[ae,af]at m;rw[ae]at F;rw[af]at G;obtain⟨sA,ah⟩:=ex (s.extract 0 k);obtain⟨sB,ai⟩:=ex (s.extract (k+1) s.size);rw[ah,ai]at T;rw[ah]at F;rw[ai]at G;obtain⟨d,N⟩:=ex (Fqq lA);obtain⟨a,P⟩:=ex (Fqq lB);obtain⟨oa,K⟩:=ex (good lA);obtain⟨ob,L⟩:=ex (good lB);obtain⟨Qq,Qp,HA,HB⟩:=Dw (show Sok d by rw[<-N];exact Pc _) (show Sok a by rw[<-P];exact Pc _) (show(oa=true->YW lA=d)/\(oa=false->d=0)by rw[<-K,<-N];unfold Fqq;exact⟨λh=>by rw[BE h],λh=>by rw[h];simp⟩) (show(ob=true->YW lB=a)by rw[<-L,<-P];unfold Fqq;exact λh=>by rw[BE h]);rw[N,K]at F;rw[P,L]at G;rw[K,L]at m;have h1:¬((2000:Int)<(s.size:Int)):=Y
 clear hl hs hk ae af ah ai N P K L h0;have H:=((Mem.nil w).push (.rat 0) (XQ _));have H:Mem w (w.alloc (.cells #[C false,B none 0 0,C false,B none 0 0] 37)) [some (w.heap.size,.rat 0)]:=H;obtain⟨W0,ad⟩:=ex (w.alloc (.cells #[C false,B none 0 0,C false,B none 0 0] 37));have Qn:=Ja ad;rw[ad]at H;have M1:Hid (Mem w W0 [some (w.heap.size,.rat 0)]):=Ja H;clear H ad;go_enter Tryz.func24,Tryz.ntmps24
 go_upto_region 1 with fail
 rw[Qn.o];clear Qn;go_upto_region 5 with(first
  |(go_at_call 62;refine(T.o _).mono ?_;clear T;rintro e w1 ⟨rfl,ap⟩)
  |(go_at_call 63;refine(F.o _).mono ?_;clear F;rintro e Q ⟨u,rfl,A,aq⟩;obtain⟨ba,aj,ay,am,rfl⟩:=Jk.form2 A))
 obtain⟨V1,z⟩:=ex (Q.alloc (.cells #[C ba,B aj ay am] 35));obtain⟨S,y⟩:=ex (Q.heap.size);have n:Mem w (Q.alloc (.cells #[C ba,B aj ay am] 35)) [some (w.heap.size,.rat 0),some (Q.heap.size,.int d)]:=Mem.push ((M1.o.below ap).below aq) (.int d) A;rw[z,y]at n;rw[z];rw[y];have E:Hid (Mem w V1 [some (w.heap.size,.rat 0),some (S,.int d)]):=Ja (n);clear M1;clear n z y;clear A ap aq;cases oa with
 |false=>
  obtain⟨s2,a2,l2,c2,n2,i2⟩:=E.o.int (i:=1) rfl;obtain⟨bt,bu⟩:=n2.cp;obtain⟨s3,a3,l3,c3,t3,b3,k3,d3,n3,r3,i3,j3⟩:=E.o.rat (i:=0) rfl;obtain⟨Qu,Qt,Qy,Qv⟩:=n3.cq;obtain⟨bz,ce,ci,cj⟩:=n3.fq;have f:=E.o.ge 0 rfl;have hB:=E.o.2.2;have hr:Jg V1 (.agg #[C s2,B a2 l2 c2,C false,B none 0 0]) ((none:Option Rat).getD 0):=Jg.mk (by show Jk _ _ 0;rw[<-HA.o.2 rfl];exact i2) (XP _);have j:=Ja (show Y4 (Jj s)=none by rw[m.o];simp);go_wp2_with fail
  exact BA (v:=D #[.agg #[C s2,B a2 l2 c2,C false,B none 0 0],C false]) (by simp[results,Tryz.results24,go_sem,Qu,Qt,Qy,Qv]) rfl (Xk.of j.o rfl (hr.put4 n3 rfl rfl rfl rfl _ _ _ _) (Jt hB f _ _ _ _))
 |true=>
  go_upto_region 8 with(go_at_call 63;refine(G.o _).mono ?_;clear G;rintro e R ⟨u,rfl,A,aw⟩;obtain⟨bc,ak,az,an,rfl⟩:=Jk.form2 A)
  obtain⟨I,z⟩:=ex (R.alloc (.cells #[C bc,B ak az an] 35));obtain⟨B4,y⟩:=ex (R.heap.size);have n:Mem w (R.alloc (.cells #[C bc,B ak az an] 35)) [some (w.heap.size,.rat 0),some (S,.int d),some (R.heap.size,.int a)]:=Mem.push (E.o.below aw) (.int a) A;rw[z,y]at n;rw[z];rw[y];have M3:Hid (Mem w I [some (w.heap.size,.rat 0),some (S,.int d),some (B4,.int a)]):=Ja (n);clear E;clear n z y;clear A aw;obtain⟨s5,a5,l5,c5,n5,i5⟩:=M3.o.int (i:=1) rfl;obtain⟨Qx,Qr⟩:=n5.cp;obtain⟨s6,a6,l6,c6,n6,i6⟩:=M3.o.int (i:=2) rfl;obtain⟨Qs,Qw⟩:=n6.cp;obtain⟨s7,a7,l7,c7,t7,b7,k7,d7,b,r7,i7,j7⟩:=M3.o.rat (i:=0) rfl;obtain⟨p,x,r,q⟩:=b.cq;obtain⟨W,X,Qm,U⟩:=b.fq;have f:=M3.o.ge 0 rfl;have hB:=M3.o.2.2;have Qo:Bl I I:=BF _ _;have c:=Ja (Gu _ _ a 0 I i6 (XP _));cases ob with
  |false=>
   have j:=Ja (show Y4 (Jj s)=none by rw[m.o];simp);clear c;go_wp2_with fail
   have t:=Bt M3.o.2.2 Qo;have f:=M3.o.ge 0 rfl;exact BA (v:=D #[.agg #[C false,B none 0 0,C false,B none 0 0],C false]) (by simp[results,Tryz.results24,go_sem,p,x,r,q]) rfl (Xk.of (o:=none) j.o rfl ((XQ _).put4 (b.below Qo) rfl rfl rfl rfl _ _ _ _) (Jt t f _ _ _ _))
  |true=>
   by_cases g:0<a
   . have HZ:=Ja g;have j:=Ja (show Y4 (Jj s)=some (Rat.divInt d a)by rw[m.o,HA.o.1 (by first|rfl|trivial),HB.o (by first|rfl|trivial),BE (by first|exact⟨rfl,rfl,g⟩|exact⟨trivial,rfl,g⟩|exact⟨trivial,trivial,g⟩)]);rw[show XY a 0=1 from by unfold XY;rw[BC Y,BE g]]at c;clear g;have HR:=Ja λ(V:World) (h:Bl I V)=>O3 _ _ d a V (i5.below h) (i6.below h) (by have:=HZ.o;omega) Qq.o Qp.o;go_wp2_with(first
      |(go_at_call 64;refine c.o.mono ?_;clear c;rintro e w4 ⟨rfl,hq⟩;obtain⟨Qx,Qr⟩:=(n5.below hq).cp;obtain⟨Qs,Qw⟩:=(n6.below hq).cp)
      |(go_at_call 65;refine(HR.o _ hq).mono ?_;clear HR;rintro e w5 ⟨u5,rfl,ax,bj⟩;obtain⟨bm,bf,bl,bh,bn,bg,bk,bi,rfl⟩:=Jg.form ax;have hq:=Bt hq bj;obtain⟨p,x,r,q⟩:=(b.below hq).cq;obtain⟨W,X,Qm,U⟩:=(b.below hq).fq))
     have t:=Bt hB hq;exact BA (v:=D #[.agg #[C bm,B bf bl bh,C bn,B bg bk bi],C true]) (by simp[results,Tryz.results24,go_sem,p,x,r,q]) rfl (Xk.of j.o rfl (ax.put4 (b.below hq) rfl rfl rfl rfl _ _ _ _) (Jt t f _ _ _ _))
   . have j:=Ja (show Y4 (Jj s)=none by rw[m.o,HB.o (by first|rfl|trivial),BC λh=>g h.2.2]);rcases Int.lt_or_eq_of_le (show a<=0 by omega)with M|M
     . rw[show XY a 0=-1 from by unfold XY;rw[BE M]]at c;clear M g;go_wp2_with(go_at_call 64;refine c.o.mono ?_;clear c;rintro e w4 ⟨rfl,hq⟩;obtain⟨p,x,r,q⟩:=(b.below hq).cq;obtain⟨W,X,Qm,U⟩:=(b.below hq).fq)
       have t:=Bt M3.o.2.2 hq;have f:=M3.o.ge 0 rfl;exact BA (v:=D #[.agg #[C false,B none 0 0,C false,B none 0 0],C false]) (by simp[results,Tryz.results24,go_sem,p,x,r,q]) rfl (Xk.of (o:=none) j.o rfl ((XQ _).put4 (b.below hq) rfl rfl rfl rfl _ _ _ _) (Jt t f _ _ _ _))
     . rw[show XY a 0=0 from by unfold XY;rw[BC Y,BC Y]]at c;clear M g;go_wp2_with(go_at_call 64;refine c.o.mono ?_;clear c;rintro e w4 ⟨rfl,hq⟩;obtain⟨p,x,r,q⟩:=(b.below hq).cq;obtain⟨W,X,Qm,U⟩:=(b.below hq).fq)
       have t:=Bt M3.o.2.2 hq;have f:=M3.o.ge 0 rfl;exact BA (v:=D #[.agg #[C false,B none 0 0,C false,B none 0 0],C false]) (by simp[results,Tryz.results24,go_sem,p,x,r,q]) rfl (Xk.of (o:=none) j.o rfl ((XQ _).put4 (b.below hq) rfl rfl rfl rfl _ _ _ _) (Jt t f _ _ _ _))
theorem Iy(s:ByteArray)(w:World):Calls Tryz.prog 24 #[.string s] w (Xk (Jj s) w):=by
 rcases AX 2000 s.size with h|h
 . exact WD s h w
 . rcases Ks (Jj s)with⟨a,_⟩|⟨a,_⟩
   . exact WF s h a w
   . exact WE s h a w
end

