import Derived.Test.YtakpoihdghihmaaGreatDoorC37
import Derived.Test.YtakpoihdghihmaaGreatDoorC25
import Derived.Test.YtakpoihdghihmaaGreatDoorC29
open Go.Value renaming slice->B,bool->C,tuple->D
set_option maxRecDepth 100000
set_option maxHeartbeats 16000000
namespace Go.Proofs.YtakpoihdghihmaaGreatDoor
open Go.RowKit Go.Shelf
section
attribute [local go_sem] Oper.semAt_some
def GS(l:List UInt8)(w:World)(e:Ending)(a:World):Prop:=∃u,e=.returned (D #[u,C (Yz l).isSome])/\Jj a u (Es l)/\Bl w a
theorem GS.of{l:List UInt8}{w a:World}{u:Value}{o:Option Rat}(h:Yz l=o){b:Bool}(d:o.isSome=b)(e:Jj a u (o.getD 0))(c:Bl w a):GS l w (.returned (D #[u,C b])) a:=
 ⟨u,by rw[h,d],by unfold Es;rw[h];exact e,c⟩
theorem gF(s:ByteArray)(z:2000<s.size)(w:World):Calls Tryz.prog 24 #[.string s] w (GS (Jf s) w):=by
 have f:=Y (Nb (l:=Jf s) (by have:=JD s;omega));have A:(2000:Int)<(s.size:Int):=O
 have a:=((Mem.nil w).push (.rat 0) (EQ _));have a:Mem w (w.alloc (.cells #[C false,B none 0 0,C false,B none 0 0] 37)) [some (w.heap.size,.rat 0)]:=a;obtain⟨W0,c⟩:=ex (w.alloc (.cells #[C false,B none 0 0,C false,B none 0 0] 37));have e:=Y c;rw[c]at a;have b:Hid (Mem w W0 [some (w.heap.size,.rat 0)]):=Y a;clear a c;go_enter Tryz.func24,Tryz.ntmps24
 go_upto_region 1 with fail
 rw[e.o];clear e;obtain⟨H,q,l1,c1,I,r,G,d1,d,r1,E,F⟩:=b.o.rat (i:=0) rfl;obtain⟨p,j,k,m⟩:=d.cq;obtain⟨t,u,x,y⟩:=d.fq;have hq:Bl W0 W0:=BA _ _;go_wp2_with fail
 have n:=Bt b.o.2.2 hq;have g:=b.o.ge 0 rfl;exact A0 (v:=D #[.agg #[C false,B none 0 0,C false,B none 0 0],C false]) (by simp[results,Tryz.results24,go_sem,p,j,k,m]) rfl (GS.of (o:=none) f.o rfl ((EQ _).put4 (d.below hq) rfl rfl rfl rfl _ _ _ _) (Jo n g _ _ _ _))
theorem gG(s:ByteArray)(h0:s.size<=2000)(U:JT (Jf s)=(Jf s).length)(w:World):Calls Tryz.prog 24 #[.string s] w (GS (Jf s) w):=by
 have hl:=JD s;obtain⟨m,E,n⟩:=Df (Nc (l:=Jf s) O U) (λ(V:World)=>gC s (by rcases XL (Jf s)with⟨h,_⟩|⟨_,h⟩;{omega};{exact h}) V) λ(V:World)=>Pj s O V;obtain⟨b,A⟩:=ex (Et (Jf s));obtain⟨ok,f⟩:=ex (good (Jf s));rw[A,f]at n;have F:=Y (show(ok=true->Xe (Jf s)=b)/\(ok=false->b=0)by rw[<-f,<-A];unfold Et;exact⟨λh=>by rw[BC h],λh=>by rw[h];simp⟩);rw[f]at m;have h1:¬((2000:Int)<(s.size:Int)):=O
 clear hl U A f h0;have a:=((Mem.nil w).push (.rat 0) (EQ _));have a:Mem w (w.alloc (.cells #[C false,B none 0 0,C false,B none 0 0] 37)) [some (w.heap.size,.rat 0)]:=a;obtain⟨W0,x⟩:=ex (w.alloc (.cells #[C false,B none 0 0,C false,B none 0 0] 37));have K:=Y x;rw[x]at a;have G:Hid (Mem w W0 [some (w.heap.size,.rat 0)]):=Y a;clear a x;go_enter Tryz.func24,Tryz.ntmps24
 go_upto_region 1 with fail
 rw[K.o];clear K;go_upto_region 5 with(first
  |(go_at_call 62;refine(E.o _).mono ?_;clear E;rintro e w1 ⟨rfl,S⟩)
  |(go_at_call 63;refine(n.o _).mono ?_;clear n;rintro e k ⟨u,rfl,z,T⟩;obtain⟨ad,P,X,Q,rfl⟩:=Jm.form2 z))
 obtain⟨q,t⟩:=ex (k.alloc (.cells #[C ad,B P X Q] 35));obtain⟨B1,r⟩:=ex (k.heap.size);have o:Mem w (k.alloc (.cells #[C ad,B P X Q] 35)) [some (w.heap.size,.rat 0),some (k.heap.size,.int b)]:=Mem.push ((G.o.below S).below T) (.int b) z;rw[t,r]at o;rw[t];rw[r];have c:Hid (Mem w q [some (w.heap.size,.rat 0),some (B1,.int b)]):=Y (o);clear G;clear o t r;clear z S T;obtain⟨j,d,l2,c2,n2,W⟩:=c.o.int (i:=1) rfl;obtain⟨ae,af⟩:=n2.cp;obtain⟨s3,a3,l3,c3,t3,b3,k3,d3,g,r3,i3,j3⟩:=c.o.rat (i:=0) rfl;obtain⟨M,L,N,I⟩:=g.cq;obtain⟨ah,ai,aj,ak⟩:=g.fq;have H:=c.o.ge 0 rfl;have R:=c.o.2.2;cases ok with
 |true=>
  have y:Jj q (.agg #[C j,B d l2 c2,C false,B none 0 0]) ((some ((Xe (Jf s):Int):Rat)).getD 0):=Jj.mk (by show Jm _ _ (Xe (Jf s));rw[F.o.1 rfl];exact W) (EM _);have p:=Y (show Yz (Jf s)=some ((Xe (Jf s):Int):Rat)by rw[m.o];rfl);go_wp2_with fail
  exact A0 (v:=D #[.agg #[C j,B d l2 c2,C false,B none 0 0],C true]) (by simp[results,Tryz.results24,go_sem,M,L,N,I]) rfl (GS.of p.o rfl (y.put4 g rfl rfl rfl rfl _ _ _ _) (Jo R H _ _ _ _))
 |false=>
  have y:Jj q (.agg #[C j,B d l2 c2,C false,B none 0 0]) ((none:Option Rat).getD 0):=Jj.mk (by show Jm _ _ 0;rw[<-F.o.2 rfl];exact W) (EM _);have p:=Y (show Yz (Jf s)=none by rw[m.o];rfl);go_wp2_with fail
  exact A0 (v:=D #[.agg #[C j,B d l2 c2,C false,B none 0 0],C false]) (by simp[results,Tryz.results24,go_sem,M,L,N,I]) rfl (GS.of p.o rfl (y.put4 g rfl rfl rfl rfl _ _ _ _) (Jo R H _ _ _ _))
theorem gH(s:ByteArray)(h0:s.size<=2000)(hs:JT (Jf s)<(Jf s).length)(w:World):Calls Tryz.prog 24 #[.string s] w (GS (Jf s) w):=by
 have hl:=JD s;have m:=Y (Nd (l:=Jf s) O hs);obtain⟨k,hk⟩:=ex (JT (Jf s));obtain⟨T,F,G⟩:=Df (λ(V:World)=>gA s k (by rcases XL (Jf s)with⟨_,h⟩|⟨h,_⟩;{rw[<-hk];exact h};{omega}) O h0 V) (λ(V:World)=>Pj (s.extract 0 k) (by rw[A8];omega) V) λ(V:World)=>Pj (s.extract (k+1) s.size) (by rw[A8];omega) V;rw[Pi]at F;rw[Tf]at G;rw[hk]at m;obtain⟨lA,ae⟩:=ex ((Jf s).take k);obtain⟨lB,af⟩:=ex ((Jf s).drop (k+1));rw[ae,af]at m;rw[ae]at F;rw[af]at G;obtain⟨sA,ah⟩:=ex (s.extract 0 k);obtain⟨sB,ai⟩:=ex (s.extract (k+1) s.size);rw[ah,ai]at T;rw[ah]at F;rw[ai]at G;obtain⟨d,N⟩:=ex (Et lA);obtain⟨a,P⟩:=ex (Et lB);obtain⟨oa,K⟩:=ex (good lA);obtain⟨ob,L⟩:=ex (good lB);obtain⟨Qq,Qp,HA,HB⟩:=Dy (show DY d by rw[<-N];exact Nf _) (show DY a by rw[<-P];exact Nf _) (show(oa=true->Xe lA=d)/\(oa=false->d=0)by rw[<-K,<-N];unfold Et;exact⟨λh=>by rw[BC h],λh=>by rw[h];simp⟩) (show(ob=true->Xe lB=a)by rw[<-L,<-P];unfold Et;exact λh=>by rw[BC h]);rw[N,K]at F;rw[P,L]at G;rw[K,L]at m;have h1:¬((2000:Int)<(s.size:Int)):=O
 clear hl hs hk ae af ah ai N P K L h0;have H:=((Mem.nil w).push (.rat 0) (EQ _));have H:Mem w (w.alloc (.cells #[C false,B none 0 0,C false,B none 0 0] 37)) [some (w.heap.size,.rat 0)]:=H;obtain⟨W0,ad⟩:=ex (w.alloc (.cells #[C false,B none 0 0,C false,B none 0 0] 37));have Qn:=Y ad;rw[ad]at H;have M1:Hid (Mem w W0 [some (w.heap.size,.rat 0)]):=Y H;clear H ad;go_enter Tryz.func24,Tryz.ntmps24
 go_upto_region 1 with fail
 rw[Qn.o];clear Qn;go_upto_region 5 with(first
  |(go_at_call 62;refine(T.o _).mono ?_;clear T;rintro e w1 ⟨rfl,ap⟩)
  |(go_at_call 63;refine(F.o _).mono ?_;clear F;rintro e Q ⟨u,rfl,A,aq⟩;obtain⟨bc,aj,ay,am,rfl⟩:=Jm.form2 A))
 obtain⟨V1,z⟩:=ex (Q.alloc (.cells #[C bc,B aj ay am] 35));obtain⟨S,y⟩:=ex (Q.heap.size);have n:Mem w (Q.alloc (.cells #[C bc,B aj ay am] 35)) [some (w.heap.size,.rat 0),some (Q.heap.size,.int d)]:=Mem.push ((M1.o.below ap).below aq) (.int d) A;rw[z,y]at n;rw[z];rw[y];have E:Hid (Mem w V1 [some (w.heap.size,.rat 0),some (S,.int d)]):=Y (n);clear M1;clear n z y;clear A ap aq;cases oa with
 |false=>
  obtain⟨s2,a2,l2,c2,n2,i2⟩:=E.o.int (i:=1) rfl;obtain⟨bu,ce⟩:=n2.cp;obtain⟨s3,a3,l3,c3,t3,b3,k3,d3,n3,r3,i3,j3⟩:=E.o.rat (i:=0) rfl;obtain⟨Qu,Qt,Qy,Qv⟩:=n3.cq;obtain⟨ci,cj,ck,cn⟩:=n3.fq;have f:=E.o.ge 0 rfl;have hB:=E.o.2.2;have hr:Jj V1 (.agg #[C s2,B a2 l2 c2,C false,B none 0 0]) ((none:Option Rat).getD 0):=Jj.mk (by show Jm _ _ 0;rw[<-HA.o.2 rfl];exact i2) (EM _);have j:=Y (show Yz (Jf s)=none by rw[m.o];simp);go_wp2_with fail
  exact A0 (v:=D #[.agg #[C s2,B a2 l2 c2,C false,B none 0 0],C false]) (by simp[results,Tryz.results24,go_sem,Qu,Qt,Qy,Qv]) rfl (GS.of j.o rfl (hr.put4 n3 rfl rfl rfl rfl _ _ _ _) (Jo hB f _ _ _ _))
 |true=>
  go_upto_region 8 with(go_at_call 63;refine(G.o _).mono ?_;clear G;rintro e R ⟨u,rfl,A,aw⟩;obtain⟨bf,ak,az,an,rfl⟩:=Jm.form2 A)
  obtain⟨I,z⟩:=ex (R.alloc (.cells #[C bf,B ak az an] 35));obtain⟨B4,y⟩:=ex (R.heap.size);have n:Mem w (R.alloc (.cells #[C bf,B ak az an] 35)) [some (w.heap.size,.rat 0),some (S,.int d),some (R.heap.size,.int a)]:=Mem.push (E.o.below aw) (.int a) A;rw[z,y]at n;rw[z];rw[y];have M3:Hid (Mem w I [some (w.heap.size,.rat 0),some (S,.int d),some (B4,.int a)]):=Y (n);clear E;clear n z y;clear A aw;obtain⟨s5,a5,l5,c5,n5,i5⟩:=M3.o.int (i:=1) rfl;obtain⟨Qx,Qr⟩:=n5.cp;obtain⟨s6,a6,l6,c6,n6,i6⟩:=M3.o.int (i:=2) rfl;obtain⟨Qs,Qw⟩:=n6.cp;obtain⟨s7,a7,l7,c7,t7,b7,k7,d7,b,r7,i7,j7⟩:=M3.o.rat (i:=0) rfl;obtain⟨p,x,r,q⟩:=b.cq;obtain⟨W,X,Qm,U⟩:=b.fq;have f:=M3.o.ge 0 rfl;have hB:=M3.o.2.2;have Qo:Bl I I:=BA _ _;have c:=Y (KR _ _ a 0 I i6 (EM _));cases ob with
  |false=>
   have j:=Y (show Yz (Jf s)=none by rw[m.o];simp);clear c;go_wp2_with fail
   have t:=Bt M3.o.2.2 Qo;have f:=M3.o.ge 0 rfl;exact A0 (v:=D #[.agg #[C false,B none 0 0,C false,B none 0 0],C false]) (by simp[results,Tryz.results24,go_sem,p,x,r,q]) rfl (GS.of (o:=none) j.o rfl ((EQ _).put4 (b.below Qo) rfl rfl rfl rfl _ _ _ _) (Jo t f _ _ _ _))
  |true=>
   by_cases g:0<a
   . have HZ:=Y g;have j:=Y (show Yz (Jf s)=some (Rat.divInt d a)by rw[m.o,HA.o.1 (by first|rfl|trivial),HB.o (by first|rfl|trivial),BC (by first|exact⟨rfl,rfl,g⟩|exact⟨trivial,rfl,g⟩|exact⟨trivial,trivial,g⟩)]);rw[show XT a 0=1 from by unfold XT;rw[BB O,BC g]]at c;clear g;have HR:=Y λ(V:World) (h:Bl I V)=>Sr _ _ d a V (i5.below h) (i6.below h) (by have:=HZ.o;omega) Qq.o Qp.o;go_wp2_with(first
      |(go_at_call 64;refine c.o.mono ?_;clear c;rintro e w4 ⟨rfl,hq⟩;obtain⟨Qx,Qr⟩:=(n5.below hq).cp;obtain⟨Qs,Qw⟩:=(n6.below hq).cp)
      |(go_at_call 65;refine(HR.o _ hq).mono ?_;clear HR;rintro e w5 ⟨u5,rfl,ax,bk⟩;obtain⟨bn,bg,bm,bi,bt,bh,bl,bj,rfl⟩:=Jj.form ax;have hq:=Bt hq bk;obtain⟨p,x,r,q⟩:=(b.below hq).cq;obtain⟨W,X,Qm,U⟩:=(b.below hq).fq))
     have t:=Bt hB hq;exact A0 (v:=D #[.agg #[C bn,B bg bm bi,C bt,B bh bl bj],C true]) (by simp[results,Tryz.results24,go_sem,p,x,r,q]) rfl (GS.of j.o rfl (ax.put4 (b.below hq) rfl rfl rfl rfl _ _ _ _) (Jo t f _ _ _ _))
   . have j:=Y (show Yz (Jf s)=none by rw[m.o,HB.o (by first|rfl|trivial),BB λh=>g h.2.2]);rcases Int.lt_or_eq_of_le (show a<=0 by omega)with M|M
     . rw[show XT a 0=-1 from by unfold XT;rw[BC M]]at c;clear M g;go_wp2_with(go_at_call 64;refine c.o.mono ?_;clear c;rintro e w4 ⟨rfl,hq⟩;obtain⟨p,x,r,q⟩:=(b.below hq).cq;obtain⟨W,X,Qm,U⟩:=(b.below hq).fq)
       have t:=Bt M3.o.2.2 hq;have f:=M3.o.ge 0 rfl;exact A0 (v:=D #[.agg #[C false,B none 0 0,C false,B none 0 0],C false]) (by simp[results,Tryz.results24,go_sem,p,x,r,q]) rfl (GS.of (o:=none) j.o rfl ((EQ _).put4 (b.below hq) rfl rfl rfl rfl _ _ _ _) (Jo t f _ _ _ _))
     . rw[show XT a 0=0 from by unfold XT;rw[BB O,BB O]]at c;clear M g;go_wp2_with(go_at_call 64;refine c.o.mono ?_;clear c;rintro e w4 ⟨rfl,hq⟩;obtain⟨p,x,r,q⟩:=(b.below hq).cq;obtain⟨W,X,Qm,U⟩:=(b.below hq).fq)
       have t:=Bt M3.o.2.2 hq;have f:=M3.o.ge 0 rfl;exact A0 (v:=D #[.agg #[C false,B none 0 0,C false,B none 0 0],C false]) (by simp[results,Tryz.results24,go_sem,p,x,r,q]) rfl (GS.of (o:=none) j.o rfl ((EQ _).put4 (b.below hq) rfl rfl rfl rfl _ _ _ _) (Jo t f _ _ _ _))
theorem Ng(s:ByteArray)(w:World):Calls Tryz.prog 24 #[.string s] w (GS (Jf s) w):=by
 rcases AQ 2000 s.size with h|h
 . exact gF s h w
 . rcases XL (Jf s)with⟨a,_⟩|⟨a,_⟩
   . exact gH s h a w
   . exact gG s h a w
end

