import Derived.Test.YteldjhhjnchdeaaGreatDoorV37
import Derived.Test.YteldjhhjnchdeaaGreatDoorV25
import Derived.Test.YteldjhhjnchdeaaGreatDoorV29
open Go.Value renaming slice->B,bool->C,tuple->D
set_option maxRecDepth 100000
set_option maxHeartbeats 16000000
namespace Go.Proofs.YteldjhhjnchdeaaGreatDoor
open Go.RowKit Go.Shelf
section
attribute [local go_sem] Oper.semAt_some
def X6(l:List UInt8)(w:World)(e:Ending)(a:World):Prop:=∃u,e=.returned (D #[u,C (XH l).isSome])/\Jk a u (Hv l)/\Bl w a
theorem X6.of{l:List UInt8}{w a:World}{u:Value}{o:Option Rat}(h:XH l=o){b:Bool}(d:o.isSome=b)(e:Jk a u (o.getD 0))(c:Bl w a):X6 l w (.returned (D #[u,C b])) a:=
 ⟨u,by rw[h,d],by unfold Hv;rw[h];exact e,c⟩
theorem bW(s:ByteArray)(z:2000<s.size)(w:World):Calls Tryz.prog 173 #[.string s] w (X6 (Je s) w):=by
 have f:=J (bT (l:=Je s) (by have:=JG s;omega));have A:(2000:Int)<(s.size:Int):=Y
 have a:=((Mem.nil w).push (.rat 0) (El _));have a:Mem w (w.alloc (.cells #[C false,B none 0 0,C false,B none 0 0] 65)) [some (w.heap.size,.rat 0)]:=a;obtain⟨W0,c⟩:=ex (w.alloc (.cells #[C false,B none 0 0,C false,B none 0 0] 65));have e:=J c;rw[c]at a;have b:Hid (Mem w W0 [some (w.heap.size,.rat 0)]):=J a;clear a c;go_enter Tryz.func173,Tryz.ntmps173
 go_upto_region 1 with fail
 rw[e.o];clear e;obtain⟨I,q,l1,c1,K,r,G,d1,d,H,E,F⟩:=b.o.rat (i:=0) rfl;obtain⟨p,j,k,m⟩:=d.cq;obtain⟨t,u,x,y⟩:=d.fq;have hq:Bl W0 W0:=BB _ _;go_wp2_with fail
 have n:=Bt b.o.2.2 hq;have g:=b.o.ge 0 rfl;exact BA (v:=D #[.agg #[C false,B none 0 0,C false,B none 0 0],C false]) (by simp[results,Tryz.results173,go_sem,p,j,k,m]) rfl (X6.of (o:=none) f.o rfl ((El _).put4 (d.below hq) rfl rfl rfl rfl _ _ _ _) (Jt n g _ _ _ _))
theorem bX(s:ByteArray)(h0:s.size<=2000)(hs:J0 (Je s)=(Je s).length)(w:World):Calls Tryz.prog 173 #[.string s] w (X6 (Je s) w):=by
 have hl:=JG s;obtain⟨m,E,n⟩:=Dk (Rt (l:=Je s) Y hs) (λ(V:World)=>bS s (by rcases OS (Je s)with⟨h,_⟩|⟨_,h⟩;{omega};{exact h}) V) λ(V:World)=>OT s Y V;obtain⟨b,A⟩:=ex (Gn (Je s));obtain⟨ok,f⟩:=ex (good (Je s));rw[A,f]at n;have F:=J (show(ok=true->YY (Je s)=b)/\(ok=false->b=0)by rw[<-f,<-A];unfold Gn;exact⟨λh=>by rw[BG h],λh=>by rw[h];simp⟩);rw[f]at m;have h1:¬((2000:Int)<(s.size:Int)):=Y
 clear hl hs A f h0;have a:=((Mem.nil w).push (.rat 0) (El _));have a:Mem w (w.alloc (.cells #[C false,B none 0 0,C false,B none 0 0] 65)) [some (w.heap.size,.rat 0)]:=a;obtain⟨W0,x⟩:=ex (w.alloc (.cells #[C false,B none 0 0,C false,B none 0 0] 65));have K:=J x;rw[x]at a;have G:Hid (Mem w W0 [some (w.heap.size,.rat 0)]):=J a;clear a x;go_enter Tryz.func173,Tryz.ntmps173
 go_upto_region 1 with fail
 rw[K.o];clear K;go_upto_region 5 with(first
  |(go_at_call 189;refine(E.o _).mono ?_;clear E;rintro e w1 ⟨rfl,S⟩)
  |(go_at_call 190;refine(n.o _).mono ?_;clear n;rintro e k ⟨u,rfl,z,T⟩;obtain⟨X,P,W,Q,rfl⟩:=Jm.form2 z))
 obtain⟨q,t⟩:=ex (k.alloc (.cells #[C X,B P W Q] 63));obtain⟨B1,r⟩:=ex (k.heap.size);have o:Mem w (k.alloc (.cells #[C X,B P W Q] 63)) [some (w.heap.size,.rat 0),some (k.heap.size,.int b)]:=Mem.push ((G.o.below S).below T) (.int b) z;rw[t,r]at o;rw[t];rw[r];have c:Hid (Mem w q [some (w.heap.size,.rat 0),some (B1,.int b)]):=J (o);clear G;clear o t r;clear z S T;obtain⟨j,d,l2,c2,n2,U⟩:=c.o.int (i:=1) rfl;obtain⟨ad,ae⟩:=n2.cp;obtain⟨s3,a3,l3,c3,t3,b3,k3,d3,g,r3,i3,j3⟩:=c.o.rat (i:=0) rfl;obtain⟨M,L,N,I⟩:=g.cq;obtain⟨af,ah,ai,aj⟩:=g.fq;have H:=c.o.ge 0 rfl;have R:=c.o.2.2;cases ok with
 |true=>
  have y:Jk q (.agg #[C j,B d l2 c2,C false,B none 0 0]) ((some ((YY (Je s):Int):Rat)).getD 0):=Jk.mk (by show Jm _ _ (YY (Je s));rw[F.o.1 rfl];exact U) (EQ _);have p:=J (show XH (Je s)=some ((YY (Je s):Int):Rat)by rw[m.o];rfl);go_wp2_with fail
  exact BA (v:=D #[.agg #[C j,B d l2 c2,C false,B none 0 0],C true]) (by simp[results,Tryz.results173,go_sem,M,L,N,I]) rfl (X6.of p.o rfl (y.put4 g rfl rfl rfl rfl _ _ _ _) (Jt R H _ _ _ _))
 |false=>
  have y:Jk q (.agg #[C j,B d l2 c2,C false,B none 0 0]) ((none:Option Rat).getD 0):=Jk.mk (by show Jm _ _ 0;rw[<-F.o.2 rfl];exact U) (EQ _);have p:=J (show XH (Je s)=none by rw[m.o];rfl);go_wp2_with fail
  exact BA (v:=D #[.agg #[C j,B d l2 c2,C false,B none 0 0],C false]) (by simp[results,Tryz.results173,go_sem,M,L,N,I]) rfl (X6.of p.o rfl (y.put4 g rfl rfl rfl rfl _ _ _ _) (Jt R H _ _ _ _))
theorem bY(s:ByteArray)(h0:s.size<=2000)(hs:J0 (Je s)<(Je s).length)(w:World):Calls Tryz.prog 173 #[.string s] w (X6 (Je s) w):=by
 have hl:=JG s;have m:=J (Ru (l:=Je s) Y hs);obtain⟨k,hk⟩:=ex (J0 (Je s));obtain⟨T,F,G⟩:=Dk (λ(V:World)=>bQ s k (by rcases OS (Je s)with⟨_,h⟩|⟨h,_⟩;{rw[<-hk];exact h};{omega}) Y h0 V) (λ(V:World)=>OT (s.extract 0 k) (by rw[Cx];omega) V) λ(V:World)=>OT (s.extract (k+1) s.size) (by rw[Cx];omega) V;rw[bU]at F;rw[bV]at G;rw[hk]at m;obtain⟨lA,ae⟩:=ex ((Je s).take k);obtain⟨lB,af⟩:=ex ((Je s).drop (k+1));rw[ae,af]at m;rw[ae]at F;rw[af]at G;obtain⟨sA,ah⟩:=ex (s.extract 0 k);obtain⟨sB,ai⟩:=ex (s.extract (k+1) s.size);rw[ah,ai]at T;rw[ah]at F;rw[ai]at G;obtain⟨d,N⟩:=ex (Gn lA);obtain⟨a,P⟩:=ex (Gn lB);obtain⟨oa,K⟩:=ex (good lA);obtain⟨ob,L⟩:=ex (good lB);obtain⟨Qq,Qp,HA,HB⟩:=EB (show DY d by rw[<-N];exact Rv _) (show DY a by rw[<-P];exact Rv _) (show(oa=true->YY lA=d)/\(oa=false->d=0)by rw[<-K,<-N];unfold Gn;exact⟨λh=>by rw[BG h],λh=>by rw[h];simp⟩) (show(ob=true->YY lB=a)by rw[<-L,<-P];unfold Gn;exact λh=>by rw[BG h]);rw[N,K]at F;rw[P,L]at G;rw[K,L]at m;have h1:¬((2000:Int)<(s.size:Int)):=Y
 clear hl hs hk ae af ah ai N P K L h0;have H:=((Mem.nil w).push (.rat 0) (El _));have H:Mem w (w.alloc (.cells #[C false,B none 0 0,C false,B none 0 0] 65)) [some (w.heap.size,.rat 0)]:=H;obtain⟨W0,ad⟩:=ex (w.alloc (.cells #[C false,B none 0 0,C false,B none 0 0] 65));have Qn:=J ad;rw[ad]at H;have M1:Hid (Mem w W0 [some (w.heap.size,.rat 0)]):=J H;clear H ad;go_enter Tryz.func173,Tryz.ntmps173
 go_upto_region 1 with fail
 rw[Qn.o];clear Qn;go_upto_region 5 with(first
  |(go_at_call 189;refine(T.o _).mono ?_;clear T;rintro e w1 ⟨rfl,ap⟩)
  |(go_at_call 190;refine(F.o _).mono ?_;clear F;rintro e Q ⟨u,rfl,A,aq⟩;obtain⟨bf,aj,az,am,rfl⟩:=Jm.form2 A))
 obtain⟨V1,z⟩:=ex (Q.alloc (.cells #[C bf,B aj az am] 63));obtain⟨S,y⟩:=ex (Q.heap.size);have n:Mem w (Q.alloc (.cells #[C bf,B aj az am] 63)) [some (w.heap.size,.rat 0),some (Q.heap.size,.int d)]:=Mem.push ((M1.o.below ap).below aq) (.int d) A;rw[z,y]at n;rw[z];rw[y];have E:Hid (Mem w V1 [some (w.heap.size,.rat 0),some (S,.int d)]):=J (n);clear M1;clear n z y;clear A ap aq;cases oa with
 |false=>
  obtain⟨s2,a2,l2,c2,n2,i2⟩:=E.o.int (i:=1) rfl;obtain⟨cg,ci⟩:=n2.cp;obtain⟨s3,a3,l3,c3,t3,b3,k3,d3,n3,r3,i3,j3⟩:=E.o.rat (i:=0) rfl;obtain⟨Qu,Qt,Qy,Qv⟩:=n3.cq;obtain⟨cj,ck,cl,cn⟩:=n3.fq;have f:=E.o.ge 0 rfl;have hB:=E.o.2.2;have hr:Jk V1 (.agg #[C s2,B a2 l2 c2,C false,B none 0 0]) ((none:Option Rat).getD 0):=Jk.mk (by show Jm _ _ 0;rw[<-HA.o.2 rfl];exact i2) (EQ _);have j:=J (show XH (Je s)=none by rw[m.o];simp);go_wp2_with fail
  exact BA (v:=D #[.agg #[C s2,B a2 l2 c2,C false,B none 0 0],C false]) (by simp[results,Tryz.results173,go_sem,Qu,Qt,Qy,Qv]) rfl (X6.of j.o rfl (hr.put4 n3 rfl rfl rfl rfl _ _ _ _) (Jt hB f _ _ _ _))
 |true=>
  go_upto_region 8 with(go_at_call 190;refine(G.o _).mono ?_;clear G;rintro e R ⟨u,rfl,A,aw⟩;obtain⟨bg,ak,bc,an,rfl⟩:=Jm.form2 A)
  obtain⟨I,z⟩:=ex (R.alloc (.cells #[C bg,B ak bc an] 63));obtain⟨B4,y⟩:=ex (R.heap.size);have n:Mem w (R.alloc (.cells #[C bg,B ak bc an] 63)) [some (w.heap.size,.rat 0),some (S,.int d),some (R.heap.size,.int a)]:=Mem.push (E.o.below aw) (.int a) A;rw[z,y]at n;rw[z];rw[y];have M3:Hid (Mem w I [some (w.heap.size,.rat 0),some (S,.int d),some (B4,.int a)]):=J (n);clear E;clear n z y;clear A aw;obtain⟨s5,a5,l5,c5,n5,i5⟩:=M3.o.int (i:=1) rfl;obtain⟨Qx,Qr⟩:=n5.cp;obtain⟨s6,a6,l6,c6,n6,i6⟩:=M3.o.int (i:=2) rfl;obtain⟨Qs,Qw⟩:=n6.cp;obtain⟨s7,a7,l7,c7,t7,b7,k7,d7,b,r7,i7,j7⟩:=M3.o.rat (i:=0) rfl;obtain⟨p,x,r,q⟩:=b.cq;obtain⟨W,X,Qm,U⟩:=b.fq;have f:=M3.o.ge 0 rfl;have hB:=M3.o.2.2;have Qo:Bl I I:=BB _ _;have c:=J (Ii _ _ a 0 I i6 (EQ _));cases ob with
  |false=>
   have j:=J (show XH (Je s)=none by rw[m.o];simp);clear c;go_wp2_with fail
   have t:=Bt M3.o.2.2 Qo;have f:=M3.o.ge 0 rfl;exact BA (v:=D #[.agg #[C false,B none 0 0,C false,B none 0 0],C false]) (by simp[results,Tryz.results173,go_sem,p,x,r,q]) rfl (X6.of (o:=none) j.o rfl ((El _).put4 (b.below Qo) rfl rfl rfl rfl _ _ _ _) (Jt t f _ _ _ _))
  |true=>
   by_cases g:0<a
   . have HZ:=J g;have j:=J (show XH (Je s)=some (Rat.divInt d a)by rw[m.o,HA.o.1 (by first|rfl|trivial),HB.o (by first|rfl|trivial),BG (by first|exact⟨rfl,rfl,g⟩|exact⟨trivial,rfl,g⟩|exact⟨trivial,trivial,g⟩)]);rw[show Ef a 0=1 from by unfold Ef;rw[BC Y,BG g]]at c;clear g;have HR:=J λ(V:World) (h:Bl I V)=>Q4 _ _ d a V (i5.below h) (i6.below h) (by have:=HZ.o;omega) Qq.o Qp.o;go_wp2_with(first
      |(go_at_call 104;refine c.o.mono ?_;clear c;rintro e w4 ⟨rfl,hq⟩;obtain⟨Qx,Qr⟩:=(n5.below hq).cp;obtain⟨Qs,Qw⟩:=(n6.below hq).cp)
      |(go_at_call 118;refine(HR.o _ hq).mono ?_;clear HR;rintro e w5 ⟨u5,rfl,ay,bm⟩;obtain⟨bu,bh,bt,bj,ce,bi,bn,bk,rfl⟩:=Jk.form ay;have hq:=Bt hq bm;obtain⟨p,x,r,q⟩:=(b.below hq).cq;obtain⟨W,X,Qm,U⟩:=(b.below hq).fq))
     have t:=Bt hB hq;exact BA (v:=D #[.agg #[C bu,B bh bt bj,C ce,B bi bn bk],C true]) (by simp[results,Tryz.results173,go_sem,p,x,r,q]) rfl (X6.of j.o rfl (ay.put4 (b.below hq) rfl rfl rfl rfl _ _ _ _) (Jt t f _ _ _ _))
   . have j:=J (show XH (Je s)=none by rw[m.o,HB.o (by first|rfl|trivial),BC λh=>g h.2.2]);rcases Int.lt_or_eq_of_le (show a<=0 by omega)with M|M
     . rw[show Ef a 0=-1 from by unfold Ef;rw[BG M]]at c;clear M g;go_wp2_with(go_at_call 104;refine c.o.mono ?_;clear c;rintro e w4 ⟨rfl,hq⟩;obtain⟨p,x,r,q⟩:=(b.below hq).cq;obtain⟨W,X,Qm,U⟩:=(b.below hq).fq)
       have t:=Bt M3.o.2.2 hq;have f:=M3.o.ge 0 rfl;exact BA (v:=D #[.agg #[C false,B none 0 0,C false,B none 0 0],C false]) (by simp[results,Tryz.results173,go_sem,p,x,r,q]) rfl (X6.of (o:=none) j.o rfl ((El _).put4 (b.below hq) rfl rfl rfl rfl _ _ _ _) (Jt t f _ _ _ _))
     . rw[show Ef a 0=0 from by unfold Ef;rw[BC Y,BC Y]]at c;clear M g;go_wp2_with(go_at_call 104;refine c.o.mono ?_;clear c;rintro e w4 ⟨rfl,hq⟩;obtain⟨p,x,r,q⟩:=(b.below hq).cq;obtain⟨W,X,Qm,U⟩:=(b.below hq).fq)
       have t:=Bt M3.o.2.2 hq;have f:=M3.o.ge 0 rfl;exact BA (v:=D #[.agg #[C false,B none 0 0,C false,B none 0 0],C false]) (by simp[results,Tryz.results173,go_sem,p,x,r,q]) rfl (X6.of (o:=none) j.o rfl ((El _).put4 (b.below hq) rfl rfl rfl rfl _ _ _ _) (Jt t f _ _ _ _))
theorem Rw(s:ByteArray)(w:World):Calls Tryz.prog 173 #[.string s] w (X6 (Je s) w):=by
 rcases AO 2000 s.size with h|h
 . exact bW s h w
 . rcases OS (Je s)with⟨a,_⟩|⟨a,_⟩
   . exact bY s h a w
   . exact bX s h a w
end

