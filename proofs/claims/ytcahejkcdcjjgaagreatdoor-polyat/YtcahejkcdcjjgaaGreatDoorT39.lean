import Derived.Test.YtcahejkcdcjjgaaGreatDoorT38
import Derived.Test.YtcahejkcdcjjgaaGreatDoorT25
import Derived.Test.YtcahejkcdcjjgaaGreatDoorT29
open Go.Value renaming slice->B,bool->C,tuple->D
set_option maxRecDepth 100000
set_option maxHeartbeats 16000000
namespace Go.Proofs.YtcahejkcdcjjgaaGreatDoor
open Go.RowKit Go.Shelf
section
attribute [local go_sem] Oper.semAt_some
def Xm(l:List UInt8)(w:World)(e:Ending)(a:World):Prop:=∃u,e=.returned (D #[u,C (Yg l).isSome])/\Ji a u (EY l)/\Bl w a
theorem Xm.of{l:List UInt8}{w a:World}{u:Value}{o:Option Rat}(h:Yg l=o){b:Bool}(e:o.isSome=b)(d:Ji a u (o.getD 0))(c:Bl w a):Xm l w (.returned (D #[u,C b])) a:=
 ⟨u,by rw[h,e],by unfold EY;rw[h];exact d,c⟩
theorem V8(s:ByteArray)(E:2000<s.size)(w:World):Calls Tryz.prog 63 #[.string s] w (Xm (Jd s) w):=by
 have k:=Ja (Ky (l:=Jd s) (by have:=Jv s;omega));have y:(2000:Int)<(s.size:Int):=om
 have a:=((Mem.nil w).push (.rat 0) (EO _));have a:Mem w (w.alloc (.cells #[C false,B none 0 0,C false,B none 0 0] 38)) [some (w.heap.size,.rat (0))]:=a;obtain⟨W0,b⟩:=ex (w.alloc (.cells #[C false,B none 0 0,C false,B none 0 0] 38));have f:=Ja b;rw[b]at a;have c:Hid (Mem w W0 [some (w.heap.size,.rat (0))]):=Ja a;clear a b;go_enter Tryz.func63,Tryz.ntmps63
 go_upto_region 1 with fail
 rw[f.o];clear f;obtain⟨I,K,t,c1,u,F,x,d1,d,G,L,r⟩:=c.o.rat (i:=0) rfl;obtain⟨g,q,p,j⟩:=d.cq;obtain⟨A,z,J,H⟩:=d.fq;have e:Bl W0 W0:=BB _ _;go_wp2_with fail
 have m:=Bt c.o.2.2 e;have n:=c.o.ge 0 rfl;exact BA (v:=D #[.agg #[C false,B none 0 0,C false,B none 0 0],C false]) (by simp[results,Tryz.results63,go_sem,g,q,p,j]) rfl (Xm.of (o:=none) k.o rfl ((EO _).put4 (d.below e) rfl rfl rfl rfl _ _ _ _) (Jp m n _ _ _ _))
theorem V9(s:ByteArray)(Y:s.size<=2000)(hs:JJ (Jd s)=(Jd s).length)(w:World):Calls Tryz.prog 63 #[.string s] w (Xm (Jd s) w):=by
 have hl:=Jv s;obtain⟨n,Q,r⟩:=Dm (Kz (l:=Jd s) om hs) (λ(V:World)=>Vx s (by rcases Y1 (Jd s)with⟨h,_⟩|⟨_,h⟩;{omega};{exact h}) V) (λ(V:World)=>Mc s om V);obtain⟨a,t⟩:=ex (ER (Jd s));obtain⟨ok,d⟩:=ex (good (Jd s));rw[t,d]at r;have K:=Ja (show(ok=true->Ym (Jd s)=a)/\(ok=false->a=0)by rw[<-d,<-t];unfold ER;exact⟨λh=>by rw[BI h],λh=>by rw[h];simp⟩);rw[d]at n;have h1:¬((2000:Int)<(s.size:Int)):=om
 clear hl hs t d Y;have b:=((Mem.nil w).push (.rat 0) (EO _));have b:Mem w (w.alloc (.cells #[C false,B none 0 0,C false,B none 0 0] 38)) [some (w.heap.size,.rat (0))]:=b;obtain⟨W0,x⟩:=ex (w.alloc (.cells #[C false,B none 0 0,C false,B none 0 0] 38));have L:=Ja x;rw[x]at b;have O:Hid (Mem w W0 [some (w.heap.size,.rat (0))]):=Ja b;clear b x;go_enter Tryz.func63,Tryz.ntmps63
 go_upto_region 1 with fail
 rw[L.o];clear L;go_upto_region 5 with(first
  |(go_at_call 102;refine(Q.o _).mono ?_;clear Q;rintro e w1 ⟨rfl,N⟩)
  |(go_at_call 103;refine(r.o _).mono ?_;clear r;rintro e k ⟨u,rfl,z,R⟩;obtain⟨M,W,S,H,rfl⟩:=Jk.form2 z))
 obtain⟨E,y⟩:=ex (k.alloc (.cells #[C M,B W S H] 36));obtain⟨X,p⟩:=ex (k.heap.size);have q:Mem w (k.alloc (.cells #[C M,B W S H] 36)) [some (w.heap.size,.rat (0)),some (k.heap.size,.int (a))]:=Mem.push ((O.o.below N).below R) (.int (a)) z;rw[y,p]at q;rw[y];rw[p];have m:Hid (Mem w E [some (w.heap.size,.rat (0)),some (X,.int (a))]):=Ja (q);clear O;clear q y p;clear z N R;obtain⟨c,f,g,c2,Z,I⟩:=m.o.int (i:=1) rfl;obtain⟨aj,ai⟩:=Z.cp;obtain⟨s3,a3,l3,c3,t3,b3,k3,d3,j,r3,i3,j3⟩:=m.o.rat (i:=0) rfl;obtain⟨J,F,P,G⟩:=j.cq;obtain⟨ah,ad,af,ae⟩:=j.fq;have T:=m.o.ge 0 rfl;have U:=m.o.2.2;cases ok with
 |true=>
  have o:Ji E (.agg #[C c,B f g c2,C false,B none 0 0]) ((some ((Ym (Jd s):Int):Rat)).getD 0):=Ji.mk (by show Jk _ _ (Ym (Jd s));rw[K.o.1 rfl];exact I) (EK _);have A:=Ja (show Yg (Jd s)=some ((Ym (Jd s):Int):Rat)by rw[n.o];rfl);go_wp2_with fail
  exact BA (v:=D #[.agg #[C c,B f g c2,C false,B none 0 0],C true]) (by simp[results,Tryz.results63,go_sem,J,F,P,G]) rfl (Xm.of A.o rfl (o.put4 j rfl rfl rfl rfl _ _ _ _) (Jp U T _ _ _ _))
 |false=>
  have o:Ji E (.agg #[C c,B f g c2,C false,B none 0 0]) ((none:Option Rat).getD 0):=Ji.mk (by show Jk _ _ 0;rw[<-K.o.2 rfl];exact I) (EK _);have A:=Ja (show Yg (Jd s)=none by rw[n.o];rfl);go_wp2_with fail
  exact BA (v:=D #[.agg #[C c,B f g c2,C false,B none 0 0],C false]) (by simp[results,Tryz.results63,go_sem,J,F,P,G]) rfl (Xm.of A.o rfl (o.put4 j rfl rfl rfl rfl _ _ _ _) (Jp U T _ _ _ _))
theorem WA(s:ByteArray)(h0:s.size<=2000)(hs:JJ (Jd s)<(Jd s).length)(w:World):Calls Tryz.prog 63 #[.string s] w (Xm (Jd s) w):=by
 have hl:=Jv s;have p:=Ja (K0 (l:=Jd s) om hs);obtain⟨k,hk⟩:=ex (JJ (Jd s));obtain⟨U,I,H⟩:=Dm (λ(V:World)=>Vw s k (by rcases Y1 (Jd s)with⟨_,h⟩|⟨h,_⟩;{rw[<-hk];exact h};{omega}) om h0 V) (λ(V:World)=>Mc (s.extract 0 k) (by rw[AP];omega) V) (λ(V:World)=>Mc (s.extract (k+1) s.size) (by rw[AP];omega) V);rw[Mb]at I;rw[Pb]at H;rw[hk]at p;obtain⟨lA,ae⟩:=ex ((Jd s).take k);obtain⟨lB,ad⟩:=ex ((Jd s).drop (k+1));rw[ae,ad]at p;rw[ae]at I;rw[ad]at H;obtain⟨sA,af⟩:=ex (s.extract 0 k);obtain⟨sB,ah⟩:=ex (s.extract (k+1) s.size);rw[af,ah]at U;rw[af]at I;rw[ah]at H;obtain⟨f,M⟩:=ex (ER lA);obtain⟨b,O⟩:=ex (ER lB);obtain⟨X,N⟩:=ex (good lA);obtain⟨ob,Q⟩:=ex (good lB);obtain⟨Qr,Qt,HA,HB⟩:=D3 (show DZ f by rw[<-M];exact K1 _) (show DZ b by rw[<-O];exact K1 _) (show(X=true->Ym lA=f)/\(X=false->f=0)by rw[<-N,<-M];unfold ER;exact⟨λh=>by rw[BI h],λh=>by rw[h];simp⟩) (show(ob=true->Ym lB=b)by rw[<-Q,<-O];unfold ER;exact λh=>by rw[BI h]);rw[M,N]at I;rw[O,Q]at H;rw[N,Q]at p;have h1:¬((2000:Int)<(s.size:Int)):=om
 clear hl hs hk ae ad af ah M O N Q h0;have J:=((Mem.nil w).push (.rat 0) (EO _));have J:Mem w (w.alloc (.cells #[C false,B none 0 0,C false,B none 0 0] 38)) [some (w.heap.size,.rat (0))]:=J;obtain⟨W0,T⟩:=ex (w.alloc (.cells #[C false,B none 0 0,C false,B none 0 0] 38));have Qn:=Ja T;rw[T]at J;have M1:Hid (Mem w W0 [some (w.heap.size,.rat (0))]):=Ja J;clear J T;go_enter Tryz.func63,Tryz.ntmps63
 go_upto_region 1 with fail
 rw[Qn.o];clear Qn;go_upto_region 5 with(first
  |(go_at_call 102;refine(U.o _).mono ?_;clear U;rintro e w1 ⟨rfl,bd⟩)
  |(go_at_call 103;refine(I.o _).mono ?_;clear I;rintro e R ⟨u,rfl,E,an⟩;obtain⟨aw,bc,aq,aj,rfl⟩:=Jk.form2 E))
 obtain⟨V1,z⟩:=ex (R.alloc (.cells #[C aw,B bc aq aj] 36));obtain⟨Y,q⟩:=ex (R.heap.size);have r:Mem w (R.alloc (.cells #[C aw,B bc aq aj] 36)) [some (w.heap.size,.rat (0)),some (R.heap.size,.int (f))]:=Mem.push ((M1.o.below bd).below an) (.int (f)) E;rw[z,q]at r;rw[z];rw[q];have G:Hid (Mem w V1 [some (w.heap.size,.rat (0)),some (Y,.int (f))]):=Ja (r);clear M1;clear r z q;clear E bd an;cases X with
 |false=>
  obtain⟨s2,a2,l2,c2,n2,i2⟩:=G.o.int (i:=1) rfl;obtain⟨bz,ci⟩:=n2.cp;obtain⟨s3,a3,l3,c3,t3,b3,k3,d3,n3,r3,i3,j3⟩:=G.o.rat (i:=0) rfl;obtain⟨Qy,Qx,Qv,Qq⟩:=n3.cq;obtain⟨cj,ce,cg,bu⟩:=n3.fq;have m:=G.o.ge 0 rfl;have W:=G.o.2.2;have hr:Ji V1 (.agg #[C s2,B a2 l2 c2,C false,B none 0 0]) ((none:Option Rat).getD 0):=Ji.mk (by show Jk _ _ 0;rw[<-HA.o.2 rfl];exact i2) (EK _);have n:=Ja (show Yg (Jd s)=none by rw[p.o];simp);go_wp2_with fail
  exact BA (v:=D #[.agg #[C s2,B a2 l2 c2,C false,B none 0 0],C false]) (by simp[results,Tryz.results63,go_sem,Qy,Qx,Qv,Qq]) rfl (Xm.of n.o rfl (hr.put4 n3 rfl rfl rfl rfl _ _ _ _) (Jp W m _ _ _ _))
 |true=>
  go_upto_region 8 with(go_at_call 103;refine(H.o _).mono ?_;clear H;rintro e P ⟨u,rfl,E,ai⟩;obtain⟨ay,av,ak,az,rfl⟩:=Jk.form2 E)
  obtain⟨K,z⟩:=ex (P.alloc (.cells #[C ay,B av ak az] 36));obtain⟨B4,q⟩:=ex (P.heap.size);have r:Mem w (P.alloc (.cells #[C ay,B av ak az] 36)) [some (w.heap.size,.rat (0)),some (Y,.int (f)),some (P.heap.size,.int (b))]:=Mem.push (G.o.below ai) (.int (b)) E;rw[z,q]at r;rw[z];rw[q];have d:Hid (Mem w K [some (w.heap.size,.rat (0)),some (Y,.int (f)),some (B4,.int (b))]):=Ja (r);clear G;clear r z q;clear E ai;obtain⟨s5,a5,l5,c5,n5,i5⟩:=d.o.int (i:=1) rfl;obtain⟨Qw,Qp⟩:=n5.cp;obtain⟨s6,a6,l6,c6,n6,i6⟩:=d.o.int (i:=2) rfl;obtain⟨Qs,Qu⟩:=n6.cp;obtain⟨s7,a7,l7,c7,t7,b7,k7,d7,c,r7,i7,j7⟩:=d.o.rat (i:=0) rfl;obtain⟨y,x,t,A⟩:=c.cq;obtain⟨Ql,Qj,Z,S⟩:=c.fq;have m:=d.o.ge 0 rfl;have W:=d.o.2.2;have Qo:Bl K K:=BB _ _;have g:=Ja (Gd _ _ b 0 K i6 (EK _));cases ob with
  |false=>
   have n:=Ja (show Yg (Jd s)=none by rw[p.o];simp);clear g;go_wp2_with fail
   have F:=Bt d.o.2.2 Qo;have m:=d.o.ge 0 rfl;exact BA (v:=D #[.agg #[C false,B none 0 0,C false,B none 0 0],C false]) (by simp[results,Tryz.results63,go_sem,y,x,t,A]) rfl (Xm.of (o:=none) n.o rfl ((EO _).put4 (c.below Qo) rfl rfl rfl rfl _ _ _ _) (Jp F m _ _ _ _))
  |true=>
   by_cases j:0<b
   . have HZ:=Ja j;have n:=Ja (show Yg (Jd s)=some (Rat.divInt f b)by rw[p.o,HA.o.1 (by first|rfl|trivial),HB.o (by first|rfl|trivial),BI (by first|exact⟨rfl,rfl,j⟩|exact⟨trivial,rfl,j⟩|exact⟨trivial,trivial,j⟩)]);rw[show EJ b 0=1 from by unfold EJ;rw[BE om,BI j]]at g;clear j;have HR:=Ja (λ(V:World) (h:Bl K V)=>Om _ _ f b V (i5.below h) (i6.below h) (by have:=HZ.o;omega) Qr.o Qt.o);go_wp2_with(first
      |(go_at_call 87;refine g.o.mono ?_;clear g;rintro e w4 ⟨rfl,a⟩;obtain⟨Qw,Qp⟩:=(n5.below a).cp;obtain⟨Qs,Qu⟩:=(n6.below a).cp)
      |(go_at_call 104;refine(HR.o _ a).mono ?_;clear HR;rintro e w5 ⟨u5,rfl,ap,bk⟩;obtain⟨bj,bi,bh,bm,bg,bf,bn,bt,rfl⟩:=Ji.form ap;have a:=Bt a bk;obtain⟨y,x,t,A⟩:=(c.below a).cq;obtain⟨Ql,Qj,Z,S⟩:=(c.below a).fq))
     have F:=Bt W a;exact BA (v:=D #[.agg #[C bj,B bi bh bm,C bg,B bf bn bt],C true]) (by simp[results,Tryz.results63,go_sem,y,x,t,A]) rfl (Xm.of n.o rfl (ap.put4 (c.below a) rfl rfl rfl rfl _ _ _ _) (Jp F m _ _ _ _))
   . have n:=Ja (show Yg (Jd s)=none by rw[p.o,HB.o (by first|rfl|trivial),BE (λh=>j h.2.2)]);rcases Int.lt_or_eq_of_le (show b<=0 by omega)with L|L
     . rw[show EJ b 0=-1 from by unfold EJ;rw[BI L]]at g;clear L j;go_wp2_with(go_at_call 87;refine g.o.mono ?_;clear g;rintro e w4 ⟨rfl,a⟩;obtain⟨y,x,t,A⟩:=(c.below a).cq;obtain⟨Ql,Qj,Z,S⟩:=(c.below a).fq)
       have F:=Bt d.o.2.2 a;have m:=d.o.ge 0 rfl;exact BA (v:=D #[.agg #[C false,B none 0 0,C false,B none 0 0],C false]) (by simp[results,Tryz.results63,go_sem,y,x,t,A]) rfl (Xm.of (o:=none) n.o rfl ((EO _).put4 (c.below a) rfl rfl rfl rfl _ _ _ _) (Jp F m _ _ _ _))
     . rw[show EJ b 0=0 from by unfold EJ;rw[BE om,BE om]]at g;clear L j;go_wp2_with(go_at_call 87;refine g.o.mono ?_;clear g;rintro e w4 ⟨rfl,a⟩;obtain⟨y,x,t,A⟩:=(c.below a).cq;obtain⟨Ql,Qj,Z,S⟩:=(c.below a).fq)
       have F:=Bt d.o.2.2 a;have m:=d.o.ge 0 rfl;exact BA (v:=D #[.agg #[C false,B none 0 0,C false,B none 0 0],C false]) (by simp[results,Tryz.results63,go_sem,y,x,t,A]) rfl (Xm.of (o:=none) n.o rfl ((EO _).put4 (c.below a) rfl rfl rfl rfl _ _ _ _) (Jp F m _ _ _ _))
theorem Me(s:ByteArray)(w:World):Calls Tryz.prog 63 #[.string s] w (Xm (Jd s) w):=by
 have hl:=Jv s;rcases AB 2000 s.size with h|h
 . exact V8 s h w
 . rcases Y1 (Jd s)with⟨a,_⟩|⟨a,_⟩
   . exact WA s h a w
   . exact V9 s h a w
end

