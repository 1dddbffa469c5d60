import Derived.Test.YteldjhhjnchdeaaGreatDoorT37
import Derived.Test.YteldjhhjnchdeaaGreatDoorT25
import Derived.Test.YteldjhhjnchdeaaGreatDoorT29
open Go.Value renaming slice->B,bool->C,tuple->D
set_option maxRecDepth 100000
set_option maxHeartbeats 16000000
namespace Go.Proofs.YteldjhhjnchdeaaGreatDoor
open Go.RowKit Go.Shelf
section
attribute [local go_sem] Oper.semAt_some
def X7(l:List UInt8)(w:World)(e:Ending)(a:World):Prop:=∃u,e=.returned (D #[u,C (XE l).isSome])/\Jj a u (Hu l)/\Bl w a
theorem X7.of{l:List UInt8}{w a:World}{u:Value}{o:Option Rat}(h:XE l=o){b:Bool}(e:o.isSome=b)(c:Jj a u (o.getD 0))(d:Bl w a):X7 l w (.returned (D #[u,C b])) a:=
 ⟨u,by rw[h,e],by unfold Hu;rw[h];exact c,d⟩
theorem bU(s:ByteArray)(u:2000<s.size)(w:World):Calls Tryz.prog 173 #[.string s] w (X7 (Je s) w):=by
 have m:=Ja (bQ (l:=Je s) (by have:=JE s;omega));have A:(2000:Int)<(s.size:Int):=om
 have a:=((Mem.nil w).push (.rat 0) (Ek _));have a:Mem w (w.alloc (.cells #[C false,B none 0 0,C false,B none 0 0] 65)) [some (w.heap.size,.rat (0))]:=a;obtain⟨W0,c⟩:=ex (w.alloc (.cells #[C false,B none 0 0,C false,B none 0 0] 65));have e:=Ja c;rw[c]at a;have b:Hid (Mem w W0 [some (w.heap.size,.rat (0))]):=Ja a;clear a c;go_enter Tryz.func173,Tryz.ntmps173
 go_upto_region 1 with fail
 rw[e.o];clear e;obtain⟨y,E,l1,c1,t,H,q,d1,d,x,r,I⟩:=b.o.rat (i:=0) rfl;obtain⟨k,j,n,g⟩:=d.cq;obtain⟨G,z,J,F⟩:=d.fq;have hq:Bl W0 W0:=BB _ _;go_wp2_with fail
 have f:=Bt b.o.2.2 hq;have p:=b.o.ge 0 rfl;exact BA (v:=D #[.agg #[C false,B none 0 0,C false,B none 0 0],C false]) (by simp[results,Tryz.results173,go_sem,k,j,n,g]) rfl (X7.of (o:=none) m.o rfl ((Ek _).put4 (d.below hq) rfl rfl rfl rfl _ _ _ _) (Jt f p _ _ _ _))
theorem bV(s:ByteArray)(W:s.size<=2000)(hs:J0 (Je s)=(Je s).length)(w:World):Calls Tryz.prog 173 #[.string s] w (X7 (Je s) w):=by
 have hl:=JE s;obtain⟨x,N,r⟩:=Dm (Rx (l:=Je s) om hs) (λ(V:World)=>bP s (by rcases OT (Je s)with⟨h,_⟩|⟨_,h⟩;{omega};{exact h}) V) (λ(V:World)=>OU s om V);obtain⟨b,q⟩:=ex (Gn (Je s));obtain⟨ok,j⟩:=ex (good (Je s));rw[q,j]at r;have S:=Ja (show(ok=true->YV (Je s)=b)/\(ok=false->b=0)by rw[<-j,<-q];unfold Gn;exact⟨λh=>by rw[BG h],λh=>by rw[h];simp⟩);rw[j]at x;have h1:¬((2000:Int)<(s.size:Int)):=om
 clear hl hs q j W;have a:=((Mem.nil w).push (.rat 0) (Ek _));have a:Mem w (w.alloc (.cells #[C false,B none 0 0,C false,B none 0 0] 65)) [some (w.heap.size,.rat (0))]:=a;obtain⟨W0,m⟩:=ex (w.alloc (.cells #[C false,B none 0 0,C false,B none 0 0] 65));have U:=Ja m;rw[m]at a;have E:Hid (Mem w W0 [some (w.heap.size,.rat (0))]):=Ja a;clear a m;go_enter Tryz.func173,Tryz.ntmps173
 go_upto_region 1 with fail
 rw[U.o];clear U;go_upto_region 5 with(first
  |(go_at_call 189;refine(N.o _).mono ?_;clear N;rintro e w1 ⟨rfl,P⟩)
  |(go_at_call 190;refine(r.o _).mono ?_;clear r;rintro e d ⟨u,rfl,A,M⟩;obtain⟨H,O,Q,J,rfl⟩:=Jl.form2 A))
 obtain⟨t,o⟩:=ex (d.alloc (.cells #[C H,B O Q J] 63));obtain⟨X,z⟩:=ex (d.heap.size);have p:Mem w (d.alloc (.cells #[C H,B O Q J] 63)) [some (w.heap.size,.rat (0)),some (d.heap.size,.int (b))]:=Mem.push ((E.o.below P).below M) (.int (b)) A;rw[o,z]at p;rw[o];rw[z];have f:Hid (Mem w t [some (w.heap.size,.rat (0)),some (X,.int (b))]):=Ja (p);clear E;clear p o z;clear A P M;obtain⟨k,g,l2,c2,Y,I⟩:=f.o.int (i:=1) rfl;obtain⟨aj,af⟩:=Y.cp;obtain⟨s3,a3,l3,c3,t3,b3,k3,d3,c,r3,i3,Z⟩:=f.o.rat (i:=0) rfl;obtain⟨G,K,T,F⟩:=c.cq;obtain⟨ah,ai,ad,ae⟩:=c.fq;have R:=f.o.ge 0 rfl;have L:=f.o.2.2;cases ok with
 |true=>
  have y:Jj t (.agg #[C k,B g l2 c2,C false,B none 0 0]) ((some ((YV (Je s):Int):Rat)).getD 0):=Jj.mk (by show Jl _ _ (YV (Je s));rw[S.o.1 rfl];exact I) (EP _);have n:=Ja (show XE (Je s)=some ((YV (Je s):Int):Rat)by rw[x.o];rfl);go_wp2_with fail
  exact BA (v:=D #[.agg #[C k,B g l2 c2,C false,B none 0 0],C true]) (by simp[results,Tryz.results173,go_sem,G,K,T,F]) rfl (X7.of n.o rfl (y.put4 c rfl rfl rfl rfl _ _ _ _) (Jt L R _ _ _ _))
 |false=>
  have y:Jj t (.agg #[C k,B g l2 c2,C false,B none 0 0]) ((none:Option Rat).getD 0):=Jj.mk (by show Jl _ _ 0;rw[<-S.o.2 rfl];exact I) (EP _);have n:=Ja (show XE (Je s)=none by rw[x.o];rfl);go_wp2_with fail
  exact BA (v:=D #[.agg #[C k,B g l2 c2,C false,B none 0 0],C false]) (by simp[results,Tryz.results173,go_sem,G,K,T,F]) rfl (X7.of n.o rfl (y.put4 c rfl rfl rfl rfl _ _ _ _) (Jt L R _ _ _ _))
theorem bW(s:ByteArray)(h0:s.size<=2000)(hs:J0 (Je s)<(Je s).length)(w:World):Calls Tryz.prog 173 #[.string s] w (X7 (Je s) w):=by
 have hl:=JE s;have r:=Ja (Ry (l:=Je s) om hs);obtain⟨k,hk⟩:=ex (J0 (Je s));obtain⟨Y,F,G⟩:=Dm (λ(V:World)=>bO s k (by rcases OT (Je s)with⟨_,h⟩|⟨h,_⟩;{rw[<-hk];exact h};{omega}) om h0 V) (λ(V:World)=>OU (s.extract 0 k) (by rw[Cx];omega) V) (λ(V:World)=>OU (s.extract (k+1) s.size) (by rw[Cx];omega) V);rw[bS]at F;rw[bT]at G;rw[hk]at r;obtain⟨lA,U⟩:=ex ((Je s).take k);obtain⟨R,W⟩:=ex ((Je s).drop (k+1));rw[U,W]at r;rw[U]at F;rw[W]at G;obtain⟨sA,S⟩:=ex (s.extract 0 k);obtain⟨sB,ad⟩:=ex (s.extract (k+1) s.size);rw[S,ad]at Y;rw[S]at F;rw[ad]at G;obtain⟨d,N⟩:=ex (Gn lA);obtain⟨a,P⟩:=ex (Gn R);obtain⟨oa,O⟩:=ex (good lA);obtain⟨ob,L⟩:=ex (good R);obtain⟨Qy,Qr,HA,HB⟩:=EC (show Da d by rw[<-N];exact Rz _) (show Da a by rw[<-P];exact Rz _) (show(oa=true->YV lA=d)/\(oa=false->d=0)by rw[<-O,<-N];unfold Gn;exact⟨λh=>by rw[BG h],λh=>by rw[h];simp⟩) (show(ob=true->YV R=a)by rw[<-L,<-P];unfold Gn;exact λh=>by rw[BG h]);rw[N,O]at F;rw[P,L]at G;rw[O,L]at r;have h1:¬((2000:Int)<(s.size:Int)):=om
 clear hl hs hk U W S ad N P O L h0;have I:=((Mem.nil w).push (.rat 0) (Ek _));have I:Mem w (w.alloc (.cells #[C false,B none 0 0,C false,B none 0 0] 65)) [some (w.heap.size,.rat (0))]:=I;obtain⟨W0,ae⟩:=ex (w.alloc (.cells #[C false,B none 0 0,C false,B none 0 0] 65));have Qo:=Ja ae;rw[ae]at I;have M1:Hid (Mem w W0 [some (w.heap.size,.rat (0))]):=Ja I;clear I ae;go_enter Tryz.func173,Tryz.ntmps173
 go_upto_region 1 with fail
 rw[Qo.o];clear Qo;go_upto_region 5 with(first
  |(go_at_call 189;refine(Y.o _).mono ?_;clear Y;rintro e w1 ⟨rfl,ak⟩)
  |(go_at_call 190;refine(F.o _).mono ?_;clear F;rintro e K ⟨u,rfl,x,an⟩;obtain⟨ah,ay,az,ai,rfl⟩:=Jl.form2 x))
 obtain⟨V1,z⟩:=ex (K.alloc (.cells #[C ah,B ay az ai] 63));obtain⟨Z,t⟩:=ex (K.heap.size);have q:Mem w (K.alloc (.cells #[C ah,B ay az ai] 63)) [some (w.heap.size,.rat (0)),some (K.heap.size,.int (d))]:=Mem.push ((M1.o.below ak).below an) (.int (d)) x;rw[z,t]at q;rw[z];rw[t];have E:Hid (Mem w V1 [some (w.heap.size,.rat (0)),some (Z,.int (d))]):=Ja (q);clear M1;clear q z t;clear x ak an;cases oa with
 |false=>
  obtain⟨s2,a2,l2,c2,n2,i2⟩:=E.o.int (i:=1) rfl;obtain⟨ci,ce⟩:=n2.cp;obtain⟨s3,a3,l3,c3,t3,b3,k3,d3,Q,r3,i3,j3⟩:=E.o.rat (i:=0) rfl;obtain⟨Qw,Qv,Qx,Qt⟩:=Q.cq;obtain⟨bt,bu,cg,cj⟩:=Q.fq;have g:=E.o.ge 0 rfl;have T:=E.o.2.2;have hr:Jj V1 (.agg #[C s2,B a2 l2 c2,C false,B none 0 0]) ((none:Option Rat).getD 0):=Jj.mk (by show Jl _ _ 0;rw[<-HA.o.2 rfl];exact i2) (EP _);have j:=Ja (show XE (Je s)=none by rw[r.o];simp);go_wp2_with fail
  exact BA (v:=D #[.agg #[C s2,B a2 l2 c2,C false,B none 0 0],C false]) (by simp[results,Tryz.results173,go_sem,Qw,Qv,Qx,Qt]) rfl (X7.of j.o rfl (hr.put4 Q rfl rfl rfl rfl _ _ _ _) (Jt T g _ _ _ _))
 |true=>
  go_upto_region 8 with(go_at_call 190;refine(G.o _).mono ?_;clear G;rintro e J ⟨u,rfl,x,aj⟩;obtain⟨am,aw,aq,ap,rfl⟩:=Jl.form2 x)
  obtain⟨H,z⟩:=ex (J.alloc (.cells #[C am,B aw aq ap] 63));obtain⟨B4,t⟩:=ex (J.heap.size);have q:Mem w (J.alloc (.cells #[C am,B aw aq ap] 63)) [some (w.heap.size,.rat (0)),some (Z,.int (d)),some (J.heap.size,.int (a))]:=Mem.push (E.o.below aj) (.int (a)) x;rw[z,t]at q;rw[z];rw[t];have M3:Hid (Mem w H [some (w.heap.size,.rat (0)),some (Z,.int (d)),some (B4,.int (a))]):=Ja (q);clear E;clear q z t;clear x aj;obtain⟨s5,a5,l5,c5,n5,i5⟩:=M3.o.int (i:=1) rfl;obtain⟨Qu,Qs⟩:=n5.cp;obtain⟨s6,a6,l6,c6,n6,i6⟩:=M3.o.int (i:=2) rfl;obtain⟨Qp,Qq⟩:=n6.cp;obtain⟨s7,a7,l7,c7,t7,b7,k7,d7,b,r7,i7,j7⟩:=M3.o.rat (i:=0) rfl;obtain⟨p,y,n,m⟩:=b.cq;obtain⟨Ql,X,Qk,Qj⟩:=b.fq;have g:=M3.o.ge 0 rfl;have T:=M3.o.2.2;have Qn:Bl H H:=BB _ _;have c:=Ja (Ii _ _ a 0 H i6 (EP _));cases ob with
  |false=>
   have j:=Ja (show XE (Je s)=none by rw[r.o];simp);clear c;go_wp2_with fail
   have A:=Bt M3.o.2.2 Qn;have g:=M3.o.ge 0 rfl;exact BA (v:=D #[.agg #[C false,B none 0 0,C false,B none 0 0],C false]) (by simp[results,Tryz.results173,go_sem,p,y,n,m]) rfl (X7.of (o:=none) j.o rfl ((Ek _).put4 (b.below Qn) rfl rfl rfl rfl _ _ _ _) (Jt A g _ _ _ _))
  |true=>
   by_cases f:0<a
   . have HZ:=Ja f;have j:=Ja (show XE (Je s)=some (Rat.divInt d a)by rw[r.o,HA.o.1 (by first|rfl|trivial),HB.o (by first|rfl|trivial),BG (by first|exact⟨rfl,rfl,f⟩|exact⟨trivial,rfl,f⟩|exact⟨trivial,trivial,f⟩)]);rw[show Ef a 0=1 from by unfold Ef;rw[BC om,BG f]]at c;clear f;have HR:=Ja (λ(V:World) (h:Bl H V)=>Q8 _ _ d a V (i5.below h) (i6.below h) (by have:=HZ.o;omega) Qy.o Qr.o);go_wp2_with(first
      |(go_at_call 104;refine c.o.mono ?_;clear c;rintro e w4 ⟨rfl,hq⟩;obtain⟨Qu,Qs⟩:=(n5.below hq).cp;obtain⟨Qp,Qq⟩:=(n6.below hq).cp)
      |(go_at_call 118;refine(HR.o _ hq).mono ?_;clear HR;rintro e w5 ⟨u5,rfl,af,bk⟩;obtain⟨bf,bc,bg,bm,bh,bj,bi,bn,rfl⟩:=Jj.form af;have hq:=Bt hq bk;obtain⟨p,y,n,m⟩:=(b.below hq).cq;obtain⟨Ql,X,Qk,Qj⟩:=(b.below hq).fq))
     have A:=Bt T hq;exact BA (v:=D #[.agg #[C bf,B bc bg bm,C bh,B bj bi bn],C true]) (by simp[results,Tryz.results173,go_sem,p,y,n,m]) rfl (X7.of j.o rfl (af.put4 (b.below hq) rfl rfl rfl rfl _ _ _ _) (Jt A g _ _ _ _))
   . have j:=Ja (show XE (Je s)=none by rw[r.o,HB.o (by first|rfl|trivial),BC (λh=>f h.2.2)]);rcases Int.lt_or_eq_of_le (show a<=0 by omega)with M|M
     . rw[show Ef a 0=-1 from by unfold Ef;rw[BG M]]at c;clear M f;go_wp2_with(go_at_call 104;refine c.o.mono ?_;clear c;rintro e w4 ⟨rfl,hq⟩;obtain⟨p,y,n,m⟩:=(b.below hq).cq;obtain⟨Ql,X,Qk,Qj⟩:=(b.below hq).fq)
       have A:=Bt M3.o.2.2 hq;have g:=M3.o.ge 0 rfl;exact BA (v:=D #[.agg #[C false,B none 0 0,C false,B none 0 0],C false]) (by simp[results,Tryz.results173,go_sem,p,y,n,m]) rfl (X7.of (o:=none) j.o rfl ((Ek _).put4 (b.below hq) rfl rfl rfl rfl _ _ _ _) (Jt A g _ _ _ _))
     . rw[show Ef a 0=0 from by unfold Ef;rw[BC om,BC om]]at c;clear M f;go_wp2_with(go_at_call 104;refine c.o.mono ?_;clear c;rintro e w4 ⟨rfl,hq⟩;obtain⟨p,y,n,m⟩:=(b.below hq).cq;obtain⟨Ql,X,Qk,Qj⟩:=(b.below hq).fq)
       have A:=Bt M3.o.2.2 hq;have g:=M3.o.ge 0 rfl;exact BA (v:=D #[.agg #[C false,B none 0 0,C false,B none 0 0],C false]) (by simp[results,Tryz.results173,go_sem,p,y,n,m]) rfl (X7.of (o:=none) j.o rfl ((Ek _).put4 (b.below hq) rfl rfl rfl rfl _ _ _ _) (Jt A g _ _ _ _))
theorem R1(s:ByteArray)(w:World):Calls Tryz.prog 173 #[.string s] w (X7 (Je s) w):=by
 rcases AO 2000 s.size with h|h
 . exact bU s h w
 . rcases OT (Je s)with⟨a,_⟩|⟨a,_⟩
   . exact bW s h a w
   . exact bV s h a w
end

