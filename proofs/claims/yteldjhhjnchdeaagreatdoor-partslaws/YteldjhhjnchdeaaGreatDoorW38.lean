import Derived.Test.YteldjhhjnchdeaaGreatDoorW37
import Derived.Test.YteldjhhjnchdeaaGreatDoorW25
import Derived.Test.YteldjhhjnchdeaaGreatDoorW29
open Go.Value renaming slice->B,bool->C,tuple->D
set_option maxRecDepth 100000
set_option maxHeartbeats 16000000
namespace Go.Proofs.YteldjhhjnchdeaaGreatDoor
open Go.RowKit Go.Shelf
section
attribute [local go_sem] Oper.semAt_some
def Xy(l:List UInt8)(w:World)(e:Ending)(a:World):Prop:=∃u,e=.returned (D #[u,C (Xg l).isSome])/\Jj a u (GV l)/\Bl w a
theorem Xy.of{l:List UInt8}{w a:World}{u:Value}{o:Option Rat}(h:Xg l=o){b:Bool}(d:o.isSome=b)(e:Jj a u (o.getD 0))(c:Bl w a):Xy l w (.returned (D #[u,C b])) a:=
 ⟨u,by rw[h,d],by unfold GV;rw[h];exact e,c⟩
theorem WT(s:ByteArray)(z:2000<s.size)(w:World):Calls Tryz.prog 173 #[.string s] w (Xy (Jh s) w):=by
 have f:=Z (WP (l:=Jh s) (by have:=JB s;omega));have A:(2000:Int)<(s.size:Int):=Y
 have a:=((Mem.nil w).push (.rat 0) (EH _));have a:Mem w (w.alloc (.cells #[C false,B none 0 0,C false,B none 0 0] 65)) [some (w.heap.size,.rat 0)]:=a;obtain⟨W0,c⟩:=ex (w.alloc (.cells #[C false,B none 0 0,C false,B none 0 0] 65));have e:=Z c;rw[c]at a;have b:Hid (Mem w W0 [some (w.heap.size,.rat 0)]):=Z a;clear a c;go_enter Tryz.func173,Tryz.ntmps173
 go_upto_region 1 with fail
 rw[e.o];clear e;obtain⟨H,q,l1,c1,I,r,G,d1,d,r1,E,F⟩:=b.o.rat (i:=0) rfl;obtain⟨p,j,k,m⟩:=d.cq;obtain⟨t,u,x,y⟩:=d.fq;have hq:Bl W0 W0:=BE _ _;go_wp2_with fail
 have n:=Bt b.o.2.2 hq;have g:=b.o.ge 0 rfl;exact BB (v:=D #[.agg #[C false,B none 0 0,C false,B none 0 0],C false]) (by simp[results,Tryz.results173,go_sem,p,j,k,m]) rfl (Xy.of (o:=none) f.o rfl ((EH _).put4 (d.below hq) rfl rfl rfl rfl _ _ _ _) (JC n g _ _ _ _))
theorem WU(s:ByteArray)(h0:s.size<=2000)(hs:JU (Jh s)=(Jh s).length)(w:World):Calls Tryz.prog 173 #[.string s] w (Xy (Jh s) w):=by
 have hl:=JB s;obtain⟨m,F,n⟩:=Dh (Px (l:=Jh s) Y hs) (λ(V:World)=>WO s (by rcases Mm (Jh s)with⟨h,_⟩|⟨_,h⟩;{omega};{exact h}) V) λ(V:World)=>Mn s Y V;obtain⟨b,A⟩:=ex (F6 (Jh s));obtain⟨E,f⟩:=ex (good (Jh s));rw[A,f]at n;have G:=Z (show(E=true->YX (Jh s)=b)/\(E=false->b=0)by rw[<-f,<-A];unfold F6;exact⟨λh=>by rw[BJ h],λh=>by rw[h];simp⟩);rw[f]at m;have h1:¬((2000:Int)<(s.size:Int)):=Y
 clear hl hs A f h0;have a:=((Mem.nil w).push (.rat 0) (EH _));have a:Mem w (w.alloc (.cells #[C false,B none 0 0,C false,B none 0 0] 65)) [some (w.heap.size,.rat 0)]:=a;obtain⟨W0,x⟩:=ex (w.alloc (.cells #[C false,B none 0 0,C false,B none 0 0] 65));have L:=Z x;rw[x]at a;have H:Hid (Mem w W0 [some (w.heap.size,.rat 0)]):=Z a;clear a x;go_enter Tryz.func173,Tryz.ntmps173
 go_upto_region 1 with fail
 rw[L.o];clear L;go_upto_region 5 with(first
  |(go_at_call 189;refine(F.o _).mono ?_;clear F;rintro e w1 ⟨rfl,T⟩)
  |(go_at_call 190;refine(n.o _).mono ?_;clear n;rintro e k ⟨u,rfl,z,U⟩;obtain⟨ad,Q,X,R,rfl⟩:=Jk.form2 z))
 obtain⟨q,t⟩:=ex (k.alloc (.cells #[C ad,B Q X R] 63));obtain⟨B1,r⟩:=ex (k.heap.size);have o:Mem w (k.alloc (.cells #[C ad,B Q X R] 63)) [some (w.heap.size,.rat 0),some (k.heap.size,.int b)]:=Mem.push ((H.o.below T).below U) (.int b) z;rw[t,r]at o;rw[t];rw[r];have c:Hid (Mem w q [some (w.heap.size,.rat 0),some (B1,.int b)]):=Z (o);clear H;clear o t r;clear z T U;obtain⟨j,d,l2,c2,n2,W⟩:=c.o.int (i:=1) rfl;obtain⟨ae,af⟩:=n2.cp;obtain⟨s3,a3,l3,c3,t3,b3,k3,d3,g,r3,i3,j3⟩:=c.o.rat (i:=0) rfl;obtain⟨N,M,P,K⟩:=g.cq;obtain⟨ah,ai,ak,am⟩:=g.fq;have I:=c.o.ge 0 rfl;have S:=c.o.2.2;cases E with
 |true=>
  have y:Jj q (.agg #[C j,B d l2 c2,C false,B none 0 0]) ((some ((YX (Jh s):Int):Rat)).getD 0):=Jj.mk (by show Jk _ _ (YX (Jh s));rw[G.o.1 rfl];exact W) (XI _);have p:=Z (show Xg (Jh s)=some ((YX (Jh s):Int):Rat)by rw[m.o];rfl);go_wp2_with fail
  exact BB (v:=D #[.agg #[C j,B d l2 c2,C false,B none 0 0],C true]) (by simp[results,Tryz.results173,go_sem,N,M,P,K]) rfl (Xy.of p.o rfl (y.put4 g rfl rfl rfl rfl _ _ _ _) (JC S I _ _ _ _))
 |false=>
  have y:Jj q (.agg #[C j,B d l2 c2,C false,B none 0 0]) ((none:Option Rat).getD 0):=Jj.mk (by show Jk _ _ 0;rw[<-G.o.2 rfl];exact W) (XI _);have p:=Z (show Xg (Jh s)=none by rw[m.o];rfl);go_wp2_with fail
  exact BB (v:=D #[.agg #[C j,B d l2 c2,C false,B none 0 0],C false]) (by simp[results,Tryz.results173,go_sem,N,M,P,K]) rfl (Xy.of p.o rfl (y.put4 g rfl rfl rfl rfl _ _ _ _) (JC S I _ _ _ _))
theorem WV(s:ByteArray)(h0:s.size<=2000)(hs:JU (Jh s)<(Jh s).length)(w:World):Calls Tryz.prog 173 #[.string s] w (Xy (Jh s) w):=by
 have hl:=JB s;have m:=Z (Py (l:=Jh s) Y hs);obtain⟨k,hk⟩:=ex (JU (Jh s));obtain⟨T,F,G⟩:=Dh (λ(V:World)=>WN s k (by rcases Mm (Jh s)with⟨_,h⟩|⟨h,_⟩;{rw[<-hk];exact h};{omega}) Y h0 V) (λ(V:World)=>Mn (s.extract 0 k) (by rw[Cp];omega) V) λ(V:World)=>Mn (s.extract (k+1) s.size) (by rw[Cp];omega) V;rw[WR]at F;rw[WS]at G;rw[hk]at m;obtain⟨lA,ae⟩:=ex ((Jh s).take k);obtain⟨lB,af⟩:=ex ((Jh s).drop (k+1));rw[ae,af]at m;rw[ae]at F;rw[af]at G;obtain⟨sA,ah⟩:=ex (s.extract 0 k);obtain⟨sB,ai⟩:=ex (s.extract (k+1) s.size);rw[ah,ai]at T;rw[ah]at F;rw[ai]at G;obtain⟨d,N⟩:=ex (F6 lA);obtain⟨a,P⟩:=ex (F6 lB);obtain⟨oa,K⟩:=ex (good lA);obtain⟨ob,L⟩:=ex (good lB);obtain⟨Qq,Qp,HA,HB⟩:=EA (show Sok d by rw[<-N];exact Pz _) (show Sok a by rw[<-P];exact Pz _) (show(oa=true->YX lA=d)/\(oa=false->d=0)by rw[<-K,<-N];unfold F6;exact⟨λh=>by rw[BJ h],λh=>by rw[h];simp⟩) (show(ob=true->YX lB=a)by rw[<-L,<-P];unfold F6;exact λh=>by rw[BJ h]);rw[N,K]at F;rw[P,L]at G;rw[K,L]at m;have h1:¬((2000:Int)<(s.size:Int)):=Y
 clear hl hs hk ae af ah ai N P K L h0;have H:=((Mem.nil w).push (.rat 0) (EH _));have H:Mem w (w.alloc (.cells #[C false,B none 0 0,C false,B none 0 0] 65)) [some (w.heap.size,.rat 0)]:=H;obtain⟨W0,ad⟩:=ex (w.alloc (.cells #[C false,B none 0 0,C false,B none 0 0] 65));have Qn:=Z ad;rw[ad]at H;have M1:Hid (Mem w W0 [some (w.heap.size,.rat 0)]):=Z H;clear H ad;go_enter Tryz.func173,Tryz.ntmps173
 go_upto_region 1 with fail
 rw[Qn.o];clear Qn;go_upto_region 5 with(first
  |(go_at_call 189;refine(T.o _).mono ?_;clear T;rintro e w1 ⟨rfl,aq⟩)
  |(go_at_call 190;refine(F.o _).mono ?_;clear F;rintro e Q ⟨u,rfl,A,av⟩;obtain⟨bc,ak,az,an,rfl⟩:=Jk.form2 A))
 obtain⟨V1,z⟩:=ex (Q.alloc (.cells #[C bc,B ak az an] 63));obtain⟨S,y⟩:=ex (Q.heap.size);have n:Mem w (Q.alloc (.cells #[C bc,B ak az an] 63)) [some (w.heap.size,.rat 0),some (Q.heap.size,.int d)]:=Mem.push ((M1.o.below aq).below av) (.int d) A;rw[z,y]at n;rw[z];rw[y];have E:Hid (Mem w V1 [some (w.heap.size,.rat 0),some (S,.int d)]):=Z (n);clear M1;clear n z y;clear A aq av;cases oa with
 |false=>
  obtain⟨s2,a2,l2,c2,n2,i2⟩:=E.o.int (i:=1) rfl;obtain⟨ce,ci⟩:=n2.cp;obtain⟨s3,a3,l3,c3,t3,b3,k3,d3,n3,r3,i3,j3⟩:=E.o.rat (i:=0) rfl;obtain⟨Qu,Qt,Qy,Qv⟩:=n3.cq;obtain⟨ck,cl,cn,co⟩:=n3.fq;have f:=E.o.ge 0 rfl;have hB:=E.o.2.2;have hr:Jj V1 (.agg #[C s2,B a2 l2 c2,C false,B none 0 0]) ((none:Option Rat).getD 0):=Jj.mk (by show Jk _ _ 0;rw[<-HA.o.2 rfl];exact i2) (XI _);have j:=Z (show Xg (Jh s)=none by rw[m.o];simp);go_wp2_with fail
  exact BB (v:=D #[.agg #[C s2,B a2 l2 c2,C false,B none 0 0],C false]) (by simp[results,Tryz.results173,go_sem,Qu,Qt,Qy,Qv]) rfl (Xy.of j.o rfl (hr.put4 n3 rfl rfl rfl rfl _ _ _ _) (JC hB f _ _ _ _))
 |true=>
  go_upto_region 8 with(go_at_call 190;refine(G.o _).mono ?_;clear G;rintro e R ⟨u,rfl,A,aw⟩;obtain⟨bf,am,ba,ap,rfl⟩:=Jk.form2 A)
  obtain⟨I,z⟩:=ex (R.alloc (.cells #[C bf,B am ba ap] 63));obtain⟨B4,y⟩:=ex (R.heap.size);have n:Mem w (R.alloc (.cells #[C bf,B am ba ap] 63)) [some (w.heap.size,.rat 0),some (S,.int d),some (R.heap.size,.int a)]:=Mem.push (E.o.below aw) (.int a) A;rw[z,y]at n;rw[z];rw[y];have M3:Hid (Mem w I [some (w.heap.size,.rat 0),some (S,.int d),some (B4,.int a)]):=Z (n);clear E;clear n z y;clear A aw;obtain⟨s5,a5,l5,c5,n5,i5⟩:=M3.o.int (i:=1) rfl;obtain⟨Qx,Qr⟩:=n5.cp;obtain⟨s6,a6,l6,c6,n6,i6⟩:=M3.o.int (i:=2) rfl;obtain⟨Qs,Qw⟩:=n6.cp;obtain⟨s7,a7,l7,c7,t7,b7,k7,d7,b,r7,i7,j7⟩:=M3.o.rat (i:=0) rfl;obtain⟨p,x,r,q⟩:=b.cq;obtain⟨W,X,Qm,U⟩:=b.fq;have f:=M3.o.ge 0 rfl;have hB:=M3.o.2.2;have Qo:Bl I I:=BE _ _;have c:=Z (Hi _ _ a 0 I i6 (XI _));cases ob with
  |false=>
   have j:=Z (show Xg (Jh s)=none by rw[m.o];simp);clear c;go_wp2_with fail
   have t:=Bt M3.o.2.2 Qo;have f:=M3.o.ge 0 rfl;exact BB (v:=D #[.agg #[C false,B none 0 0,C false,B none 0 0],C false]) (by simp[results,Tryz.results173,go_sem,p,x,r,q]) rfl (Xy.of (o:=none) j.o rfl ((EH _).put4 (b.below Qo) rfl rfl rfl rfl _ _ _ _) (JC t f _ _ _ _))
  |true=>
   by_cases g:0<a
   . have HZ:=Z g;have j:=Z (show Xg (Jh s)=some (Rat.divInt d a)by rw[m.o,HA.o.1 (by first|rfl|trivial),HB.o (by first|rfl|trivial),BJ (by first|exact⟨rfl,rfl,g⟩|exact⟨trivial,rfl,g⟩|exact⟨trivial,trivial,g⟩)]);rw[show EC a 0=1 from by unfold EC;rw[BH Y,BJ g]]at c;clear g;have HR:=Z λ(V:World) (h:Bl I V)=>PL _ _ d a V (i5.below h) (i6.below h) (by have:=HZ.o;omega) Qq.o Qp.o;go_wp2_with(first
      |(go_at_call 104;refine c.o.mono ?_;clear c;rintro e w4 ⟨rfl,hq⟩;obtain⟨Qx,Qr⟩:=(n5.below hq).cp;obtain⟨Qs,Qw⟩:=(n6.below hq).cp)
      |(go_at_call 118;refine(HR.o _ hq).mono ?_;clear HR;rintro e w5 ⟨u5,rfl,ay,bm⟩;obtain⟨bu,bg,bt,bi,bz,bh,bn,bj,rfl⟩:=Jj.form ay;have hq:=Bt hq bm;obtain⟨p,x,r,q⟩:=(b.below hq).cq;obtain⟨W,X,Qm,U⟩:=(b.below hq).fq))
     have t:=Bt hB hq;exact BB (v:=D #[.agg #[C bu,B bg bt bi,C bz,B bh bn bj],C true]) (by simp[results,Tryz.results173,go_sem,p,x,r,q]) rfl (Xy.of j.o rfl (ay.put4 (b.below hq) rfl rfl rfl rfl _ _ _ _) (JC t f _ _ _ _))
   . have j:=Z (show Xg (Jh s)=none by rw[m.o,HB.o (by first|rfl|trivial),BH λh=>g h.2.2]);rcases Int.lt_or_eq_of_le (show a<=0 by omega)with M|M
     . rw[show EC a 0=-1 from by unfold EC;rw[BJ M]]at c;clear M g;go_wp2_with(go_at_call 104;refine c.o.mono ?_;clear c;rintro e w4 ⟨rfl,hq⟩;obtain⟨p,x,r,q⟩:=(b.below hq).cq;obtain⟨W,X,Qm,U⟩:=(b.below hq).fq)
       have t:=Bt M3.o.2.2 hq;have f:=M3.o.ge 0 rfl;exact BB (v:=D #[.agg #[C false,B none 0 0,C false,B none 0 0],C false]) (by simp[results,Tryz.results173,go_sem,p,x,r,q]) rfl (Xy.of (o:=none) j.o rfl ((EH _).put4 (b.below hq) rfl rfl rfl rfl _ _ _ _) (JC t f _ _ _ _))
     . rw[show EC a 0=0 from by unfold EC;rw[BH Y,BH Y]]at c;clear M g;go_wp2_with(go_at_call 104;refine c.o.mono ?_;clear c;rintro e w4 ⟨rfl,hq⟩;obtain⟨p,x,r,q⟩:=(b.below hq).cq;obtain⟨W,X,Qm,U⟩:=(b.below hq).fq)
       have t:=Bt M3.o.2.2 hq;have f:=M3.o.ge 0 rfl;exact BB (v:=D #[.agg #[C false,B none 0 0,C false,B none 0 0],C false]) (by simp[results,Tryz.results173,go_sem,p,x,r,q]) rfl (Xy.of (o:=none) j.o rfl ((EH _).put4 (b.below hq) rfl rfl rfl rfl _ _ _ _) (JC t f _ _ _ _))
theorem P0(s:ByteArray)(w:World):Calls Tryz.prog 173 #[.string s] w (Xy (Jh s) w):=by
 rcases AZ 2000 s.size with h|h
 . exact WT s h w
 . rcases Mm (Jh s)with⟨a,_⟩|⟨a,_⟩
   . exact WV s h a w
   . exact WU s h a w
end

