import Derived.Test.YteldjhhjnchdeaaGreatDoorU37
import Derived.Test.YteldjhhjnchdeaaGreatDoorU25
import Derived.Test.YteldjhhjnchdeaaGreatDoorU29
open Go.Value renaming slice->B,bool->C,tuple->D
set_option maxRecDepth 100000
set_option maxHeartbeats 16000000
namespace Go.Proofs.YteldjhhjnchdeaaGreatDoor
open Go.RowKit Go.Shelf
section
attribute [local go_sem] Oper.semAt_some
def GF(l:List UInt8)(w:World)(e:Ending)(a:World):Prop:=∃u,e=.returned (D #[u,C (XM l).isSome])/\Jj a u (Hy l)/\Bl w a
theorem GF.of{l:List UInt8}{w a:World}{u:Value}{o:Option Rat}(h:XM l=o){b:Bool}(d:o.isSome=b)(e:Jj a u (o.getD 0))(c:Bl w a):GF l w (.returned (D #[u,C b])) a:=
 ⟨u,by rw[h,d],by unfold Hy;rw[h];exact e,c⟩
theorem cD(s:ByteArray)(z:2000<s.size)(w:World):Calls Tryz.prog 173 #[.string s] w (GF (Jg s) w):=by
 have f:=O (cA (l:=Jg s) (by have:=JG s;omega));have A:(2000:Int)<(s.size:Int):=J
 have a:=((Mem.nil w).push (.rat 0) (Ee _));have a:Mem w (w.alloc (.cells #[C false,B none 0 0,C false,B none 0 0] 65)) [some (w.heap.size,.rat 0)]:=a;obtain⟨W0,c⟩:=ex (w.alloc (.cells #[C false,B none 0 0,C false,B none 0 0] 65));have e:=O c;rw[c]at a;have b:Hid (Mem w W0 [some (w.heap.size,.rat 0)]):=O a;clear a c;go_enter Tryz.func173,Tryz.ntmps173
 go_upto_region 1 with fail
 rw[e.o];clear e;obtain⟨I,q,l1,c1,K,r,G,d1,d,H,E,F⟩:=b.o.rat (i:=0) rfl;obtain⟨p,j,k,m⟩:=d.cq;obtain⟨t,u,x,y⟩:=d.fq;have hq:Bl W0 W0:=BB _ _;go_wp2_with fail
 have n:=Bt b.o.2.2 hq;have g:=b.o.ge 0 rfl;exact BA (v:=D #[.agg #[C false,B none 0 0,C false,B none 0 0],C false]) (by simp[results,Tryz.results173,go_sem,p,j,k,m]) rfl (GF.of (o:=none) f.o rfl ((Ee _).put4 (d.below hq) rfl rfl rfl rfl _ _ _ _) (Ju n g _ _ _ _))
theorem cE(s:ByteArray)(h0:s.size<=2000)(hs:J2 (Jg s)=(Jg s).length)(w:World):Calls Tryz.prog 173 #[.string s] w (GF (Jg s) w):=by
 have hl:=JG s;obtain⟨m,E,n⟩:=Dg (Rv (l:=Jg s) J hs) (λ(V:World)=>bw s (by rcases OR (Jg s)with⟨h,_⟩|⟨_,h⟩;{omega};{exact h}) V) λ(V:World)=>OS s J V;obtain⟨b,A⟩:=ex (Gr (Jg s));obtain⟨ok,f⟩:=ex (good (Jg s));rw[A,f]at n;have F:=O (show(ok=true->Y2 (Jg s)=b)/\(ok=false->b=0)by rw[<-f,<-A];unfold Gr;exact⟨λh=>by rw[BG h],λh=>by rw[h];simp⟩);rw[f]at m;have h1:¬((2000:Int)<(s.size:Int)):=J
 clear hl hs A f h0;have a:=((Mem.nil w).push (.rat 0) (Ee _));have a:Mem w (w.alloc (.cells #[C false,B none 0 0,C false,B none 0 0] 65)) [some (w.heap.size,.rat 0)]:=a;obtain⟨W0,x⟩:=ex (w.alloc (.cells #[C false,B none 0 0,C false,B none 0 0] 65));have K:=O x;rw[x]at a;have G:Hid (Mem w W0 [some (w.heap.size,.rat 0)]):=O a;clear a x;go_enter Tryz.func173,Tryz.ntmps173
 go_upto_region 1 with fail
 rw[K.o];clear K;go_upto_region 5 with(first
  |(go_at_call 189;refine(E.o _).mono ?_;clear E;rintro e w1 ⟨rfl,S⟩)
  |(go_at_call 190;refine(n.o _).mono ?_;clear n;rintro e k ⟨u,rfl,z,T⟩;obtain⟨X,P,W,Q,rfl⟩:=Jk.form2 z))
 obtain⟨q,t⟩:=ex (k.alloc (.cells #[C X,B P W Q] 63));obtain⟨B1,r⟩:=ex (k.heap.size);have o:Mem w (k.alloc (.cells #[C X,B P W Q] 63)) [some (w.heap.size,.rat 0),some (k.heap.size,.int b)]:=Mem.push ((G.o.below S).below T) (.int b) z;rw[t,r]at o;rw[t];rw[r];have c:Hid (Mem w q [some (w.heap.size,.rat 0),some (B1,.int b)]):=O (o);clear G;clear o t r;clear z S T;obtain⟨j,d,l2,c2,n2,U⟩:=c.o.int (i:=1) rfl;obtain⟨ad,ae⟩:=n2.cp;obtain⟨s3,a3,l3,c3,t3,b3,k3,d3,g,r3,i3,j3⟩:=c.o.rat (i:=0) rfl;obtain⟨M,L,N,I⟩:=g.cq;obtain⟨af,ah,ai,aj⟩:=g.fq;have H:=c.o.ge 0 rfl;have R:=c.o.2.2;cases ok with
 |true=>
  have y:Jj q (.agg #[C j,B d l2 c2,C false,B none 0 0]) ((some ((Y2 (Jg s):Int):Rat)).getD 0):=Jj.mk (by show Jk _ _ (Y2 (Jg s));rw[F.o.1 rfl];exact U) (EJ _);have p:=O (show XM (Jg s)=some ((Y2 (Jg s):Int):Rat)by rw[m.o];rfl);go_wp2_with fail
  exact BA (v:=D #[.agg #[C j,B d l2 c2,C false,B none 0 0],C true]) (by simp[results,Tryz.results173,go_sem,M,L,N,I]) rfl (GF.of p.o rfl (y.put4 g rfl rfl rfl rfl _ _ _ _) (Ju R H _ _ _ _))
 |false=>
  have y:Jj q (.agg #[C j,B d l2 c2,C false,B none 0 0]) ((none:Option Rat).getD 0):=Jj.mk (by show Jk _ _ 0;rw[<-F.o.2 rfl];exact U) (EJ _);have p:=O (show XM (Jg s)=none by rw[m.o];rfl);go_wp2_with fail
  exact BA (v:=D #[.agg #[C j,B d l2 c2,C false,B none 0 0],C false]) (by simp[results,Tryz.results173,go_sem,M,L,N,I]) rfl (GF.of p.o rfl (y.put4 g rfl rfl rfl rfl _ _ _ _) (Ju R H _ _ _ _))
theorem cF(s:ByteArray)(h0:s.size<=2000)(hs:J2 (Jg s)<(Jg s).length)(w:World):Calls Tryz.prog 173 #[.string s] w (GF (Jg s) w):=by
 have hl:=JG s;have m:=O (Rw (l:=Jg s) J hs);obtain⟨k,hk⟩:=ex (J2 (Jg s));obtain⟨T,F,G⟩:=Dg (λ(V:World)=>br s k (by rcases OR (Jg s)with⟨_,h⟩|⟨h,_⟩;{rw[<-hk];exact h};{omega}) J h0 V) (λ(V:World)=>OS (s.extract 0 k) (by rw[Cx];omega) V) λ(V:World)=>OS (s.extract (k+1) s.size) (by rw[Cx];omega) V;rw[cB]at F;rw[cC]at G;rw[hk]at m;obtain⟨lA,ae⟩:=ex ((Jg s).take k);obtain⟨lB,af⟩:=ex ((Jg s).drop (k+1));rw[ae,af]at m;rw[ae]at F;rw[af]at G;obtain⟨sA,ah⟩:=ex (s.extract 0 k);obtain⟨sB,ai⟩:=ex (s.extract (k+1) s.size);rw[ah,ai]at T;rw[ah]at F;rw[ai]at G;obtain⟨d,N⟩:=ex (Gr lA);obtain⟨a,P⟩:=ex (Gr lB);obtain⟨oa,K⟩:=ex (good lA);obtain⟨ob,L⟩:=ex (good lB);obtain⟨Qq,Qp,HA,HB⟩:=D0 (show Sok d by rw[<-N];exact Rx _) (show Sok a by rw[<-P];exact Rx _) (show(oa=true->Y2 lA=d)/\(oa=false->d=0)by rw[<-K,<-N];unfold Gr;exact⟨λh=>by rw[BG h],λh=>by rw[h];simp⟩) (show(ob=true->Y2 lB=a)by rw[<-L,<-P];unfold Gr;exact λh=>by rw[BG h]);rw[N,K]at F;rw[P,L]at G;rw[K,L]at m;have h1:¬((2000:Int)<(s.size:Int)):=J
 clear hl hs hk ae af ah ai N P K L h0;have H:=((Mem.nil w).push (.rat 0) (Ee _));have H:Mem w (w.alloc (.cells #[C false,B none 0 0,C false,B none 0 0] 65)) [some (w.heap.size,.rat 0)]:=H;obtain⟨W0,ad⟩:=ex (w.alloc (.cells #[C false,B none 0 0,C false,B none 0 0] 65));have Qn:=O ad;rw[ad]at H;have M1:Hid (Mem w W0 [some (w.heap.size,.rat 0)]):=O H;clear H ad;go_enter Tryz.func173,Tryz.ntmps173
 go_upto_region 1 with fail
 rw[Qn.o];clear Qn;go_upto_region 5 with(first
  |(go_at_call 189;refine(T.o _).mono ?_;clear T;rintro e w1 ⟨rfl,ap⟩)
  |(go_at_call 190;refine(F.o _).mono ?_;clear F;rintro e Q ⟨u,rfl,A,aq⟩;obtain⟨bf,aj,az,am,rfl⟩:=Jk.form2 A))
 obtain⟨V1,z⟩:=ex (Q.alloc (.cells #[C bf,B aj az am] 63));obtain⟨S,y⟩:=ex (Q.heap.size);have n:Mem w (Q.alloc (.cells #[C bf,B aj az am] 63)) [some (w.heap.size,.rat 0),some (Q.heap.size,.int d)]:=Mem.push ((M1.o.below ap).below aq) (.int d) A;rw[z,y]at n;rw[z];rw[y];have E:Hid (Mem w V1 [some (w.heap.size,.rat 0),some (S,.int d)]):=O (n);clear M1;clear n z y;clear A ap aq;cases oa with
 |false=>
  obtain⟨s2,a2,l2,c2,n2,i2⟩:=E.o.int (i:=1) rfl;obtain⟨cg,ci⟩:=n2.cp;obtain⟨s3,a3,l3,c3,t3,b3,k3,d3,n3,r3,i3,j3⟩:=E.o.rat (i:=0) rfl;obtain⟨Qu,Qt,Qy,Qv⟩:=n3.cq;obtain⟨cj,ck,cl,cn⟩:=n3.fq;have f:=E.o.ge 0 rfl;have hB:=E.o.2.2;have hr:Jj V1 (.agg #[C s2,B a2 l2 c2,C false,B none 0 0]) ((none:Option Rat).getD 0):=Jj.mk (by show Jk _ _ 0;rw[<-HA.o.2 rfl];exact i2) (EJ _);have j:=O (show XM (Jg s)=none by rw[m.o];simp);go_wp2_with fail
  exact BA (v:=D #[.agg #[C s2,B a2 l2 c2,C false,B none 0 0],C false]) (by simp[results,Tryz.results173,go_sem,Qu,Qt,Qy,Qv]) rfl (GF.of j.o rfl (hr.put4 n3 rfl rfl rfl rfl _ _ _ _) (Ju hB f _ _ _ _))
 |true=>
  go_upto_region 8 with(go_at_call 190;refine(G.o _).mono ?_;clear G;rintro e R ⟨u,rfl,A,aw⟩;obtain⟨bg,ak,bc,an,rfl⟩:=Jk.form2 A)
  obtain⟨I,z⟩:=ex (R.alloc (.cells #[C bg,B ak bc an] 63));obtain⟨B4,y⟩:=ex (R.heap.size);have n:Mem w (R.alloc (.cells #[C bg,B ak bc an] 63)) [some (w.heap.size,.rat 0),some (S,.int d),some (R.heap.size,.int a)]:=Mem.push (E.o.below aw) (.int a) A;rw[z,y]at n;rw[z];rw[y];have M3:Hid (Mem w I [some (w.heap.size,.rat 0),some (S,.int d),some (B4,.int a)]):=O (n);clear E;clear n z y;clear A aw;obtain⟨s5,a5,l5,c5,n5,i5⟩:=M3.o.int (i:=1) rfl;obtain⟨Qx,Qr⟩:=n5.cp;obtain⟨s6,a6,l6,c6,n6,i6⟩:=M3.o.int (i:=2) rfl;obtain⟨Qs,Qw⟩:=n6.cp;obtain⟨s7,a7,l7,c7,t7,b7,k7,d7,b,r7,i7,j7⟩:=M3.o.rat (i:=0) rfl;obtain⟨p,x,r,q⟩:=b.cq;obtain⟨W,X,Qm,U⟩:=b.fq;have f:=M3.o.ge 0 rfl;have hB:=M3.o.2.2;have Qo:Bl I I:=BB _ _;have c:=O (Ir _ _ a 0 I i6 (EJ _));cases ob with
  |false=>
   have j:=O (show XM (Jg s)=none by rw[m.o];simp);clear c;go_wp2_with fail
   have t:=Bt M3.o.2.2 Qo;have f:=M3.o.ge 0 rfl;exact BA (v:=D #[.agg #[C false,B none 0 0,C false,B none 0 0],C false]) (by simp[results,Tryz.results173,go_sem,p,x,r,q]) rfl (GF.of (o:=none) j.o rfl ((Ee _).put4 (b.below Qo) rfl rfl rfl rfl _ _ _ _) (Ju t f _ _ _ _))
  |true=>
   by_cases g:0<a
   . have HZ:=O g;have j:=O (show XM (Jg s)=some (Rat.divInt d a)by rw[m.o,HA.o.1 (by first|rfl|trivial),HB.o (by first|rfl|trivial),BG (by first|exact⟨rfl,rfl,g⟩|exact⟨trivial,rfl,g⟩|exact⟨trivial,trivial,g⟩)]);rw[show EX a 0=1 from by unfold EX;rw[BE J,BG g]]at c;clear g;have HR:=O λ(V:World) (h:Bl I V)=>Q5 _ _ d a V (i5.below h) (i6.below h) (by have:=HZ.o;omega) Qq.o Qp.o;go_wp2_with(first
      |(go_at_call 104;refine c.o.mono ?_;clear c;rintro e w4 ⟨rfl,hq⟩;obtain⟨Qx,Qr⟩:=(n5.below hq).cp;obtain⟨Qs,Qw⟩:=(n6.below hq).cp)
      |(go_at_call 118;refine(HR.o _ hq).mono ?_;clear HR;rintro e w5 ⟨u5,rfl,ay,bm⟩;obtain⟨bu,bh,bt,bj,ce,bi,bn,bk,rfl⟩:=Jj.form ay;have hq:=Bt hq bm;obtain⟨p,x,r,q⟩:=(b.below hq).cq;obtain⟨W,X,Qm,U⟩:=(b.below hq).fq))
     have t:=Bt hB hq;exact BA (v:=D #[.agg #[C bu,B bh bt bj,C ce,B bi bn bk],C true]) (by simp[results,Tryz.results173,go_sem,p,x,r,q]) rfl (GF.of j.o rfl (ay.put4 (b.below hq) rfl rfl rfl rfl _ _ _ _) (Ju t f _ _ _ _))
   . have j:=O (show XM (Jg s)=none by rw[m.o,HB.o (by first|rfl|trivial),BE λh=>g h.2.2]);rcases Int.lt_or_eq_of_le (show a<=0 by omega)with M|M
     . rw[show EX a 0=-1 from by unfold EX;rw[BG M]]at c;clear M g;go_wp2_with(go_at_call 104;refine c.o.mono ?_;clear c;rintro e w4 ⟨rfl,hq⟩;obtain⟨p,x,r,q⟩:=(b.below hq).cq;obtain⟨W,X,Qm,U⟩:=(b.below hq).fq)
       have t:=Bt M3.o.2.2 hq;have f:=M3.o.ge 0 rfl;exact BA (v:=D #[.agg #[C false,B none 0 0,C false,B none 0 0],C false]) (by simp[results,Tryz.results173,go_sem,p,x,r,q]) rfl (GF.of (o:=none) j.o rfl ((Ee _).put4 (b.below hq) rfl rfl rfl rfl _ _ _ _) (Ju t f _ _ _ _))
     . rw[show EX a 0=0 from by unfold EX;rw[BE J,BE J]]at c;clear M g;go_wp2_with(go_at_call 104;refine c.o.mono ?_;clear c;rintro e w4 ⟨rfl,hq⟩;obtain⟨p,x,r,q⟩:=(b.below hq).cq;obtain⟨W,X,Qm,U⟩:=(b.below hq).fq)
       have t:=Bt M3.o.2.2 hq;have f:=M3.o.ge 0 rfl;exact BA (v:=D #[.agg #[C false,B none 0 0,C false,B none 0 0],C false]) (by simp[results,Tryz.results173,go_sem,p,x,r,q]) rfl (GF.of (o:=none) j.o rfl ((Ee _).put4 (b.below hq) rfl rfl rfl rfl _ _ _ _) (Ju t f _ _ _ _))
theorem Ry(s:ByteArray)(w:World):Calls Tryz.prog 173 #[.string s] w (GF (Jg s) w):=by
 rcases AO 2000 s.size with h|h
 . exact cD s h w
 . rcases OR (Jg s)with⟨a,_⟩|⟨a,_⟩
   . exact cF s h a w
   . exact cE s h a w
end

