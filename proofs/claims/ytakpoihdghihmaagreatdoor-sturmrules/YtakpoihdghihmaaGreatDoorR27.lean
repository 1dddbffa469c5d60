import Derived.Test.YtakpoihdghihmaaGreatDoorR26
import Derived.Deep.OwnRows
open Go.Value renaming slice->C,bool->E,pointer->I,agg->F
open Go.Obj renaming cells->G
open Go renaming World->H,Value->L
open Go.Proofs.Tryz renaming prog->M
set_option maxRecDepth 100000
set_option maxHeartbeats 16000000
namespace Go.Proofs.YtakpoihdghihmaaGreatDoor
open Go.RowKit Go.Shelf
attribute [local go_sem] Oper.semAt_some
variable{qs:List Rat}{cap l:Nat}{a:Option Addr}{W:H}
theorem W7(p q:Rat)(hp:Sq p)(hq:Sq q)(a b x y:Int)(c:((Int.gcd p.num (q.den:Int):Nat):Int)=a)(d:((Int.gcd q.num (p.den:Int):Nat):Int)=b)(e:p.num/a=x)(f:q.num/b=y):
 Sok a/\a≠0/\Sok b/\b≠0/\Sok x/\Sok y/\(p*q).num=x*y/\((p*q).den:Int)=p.den/b*(q.den/a):=by
 have hl:=T0 p q a b c.symm d.symm;have i:a≠0:=by rw[<-c];have:=Ix (x:=p.num) (y:=q.den) (by have:=q.den_nz;omega);omega
 have g:b≠0:=by rw[<-d];have:=Ix (x:=q.num) (y:=p.den) (by have:=p.den_nz;omega);omega
 refine⟨by rw[<-c];exact hp.num.gcd hq.den,i,by rw[<-d];exact hq.num.gcd hp.den,g,by rw[<-e];exact hp.num.div,by rw[<-f];exact hq.num.div,?_,hl.2⟩;rw[hl.1,e,f]
theorem Iy(va vb:L)(p q:Rat)(w:H)(ha:Jh w va p)(hb:Jh w vb q)(ce:Sq p)(ci:Sq q):
 Calls M 91 #[va,vb] w λe w'=>∃u,e=.returned u/\Jh w' u (p*q)/\Bl w w':=by
 obtain⟨s,a,l,c,t,b,k,d,rfl⟩:=Jh.form ha;obtain⟨s',a',l',c',t',b',k',d',rfl⟩:=Jh.form hb;have M0:=LR w s t s' t' a b a' b' l c k d l' c' k' d' p q ha hb;obtain⟨W0,bj⟩:=ex (((w.alloc (G #[E s,C a l c,E t,C b k d] 37)).alloc (G #[E s',C a' l' c',E t',C b' k' d'] 37)).alloc (G #[E false,C none 0 0,E false,C none 0 0] 37));have Uc:=Ja bj;rw[bj]at M0;have M1:Hid (Mem w W0 [some (w.heap.size,.rat p),some (w.heap.size+1,.rat q),some (w.heap.size+1+1,.rat 0)]):=Ja M0;have Ud:Tryz.prog.follows .mixedOrders=true:=by kernel_rfl
 have HP:=Ja ce;have HQ:=Ja ci;clear M0 ha hb bj ce ci;go_enter Tryz.func91,Tryz.ntmps91
 go_upto_region 1 with fail
 rw[Uc.o];clear Uc;obtain⟨bb,bu⟩:=ex (decide (p.den=1/\q.den=1):Bool);have Qx:=Ja bu;clear bu;go_cut [13] λc w'=>c=E bb/\Hid (Mem w w' [some (w.heap.size,.rat p),some (w.heap.size+1,.rat q),some (w.heap.size+1+1,.rat 0)])
 case first=>
  obtain⟨s1,a1,l1,c1,t1,b1,k1,d1,n1,r1,i1,j1⟩:=M1.o.rat (i:=0) rfl;obtain⟨Up,Ur,Uv,Uw⟩:=n1.cq;obtain⟨s2,a2,l2,c2,t2,b2,k2,d2,n2,r2,i2,j2⟩:=M1.o.rat (i:=1) rfl;obtain⟨Uq,Uo,Um,Ux⟩:=n2.cq;have H1:=Ja (Iw _ p W0 r1);have H2:=Ja λ(V:H) (h:Bl W0 V)=>Iw _ q V (r2.below h);by_cases R:p.den=1
  . rw[BJ R]at H1;obtain⟨b2,ak⟩:=ex (decide (q.den=1));rw[ak]at H2;have Qz:=Ja (show b2=bb by rw[<-ak,<-Qx.o];exact B0.2 ⟨λh=>⟨R,h⟩,λh=>h.2⟩);clear ak R;go_wp2_with(first
     |(go_at_call 68;refine H1.o.mono ?_;clear H1;rintro e w1 ⟨rfl,ay⟩;obtain⟨Up,Ur,Uv,Uw⟩:=(n1.below ay).cq;obtain⟨Uq,Uo,Um,Ux⟩:=(n2.below ay).cq)
     |(go_at_call 68;refine(H2.o _ ay).mono ?_;clear H2;rintro e w2 ⟨rfl,ak⟩))
    go_meet
    case rel=>exact⟨by rw[Qz.o],Ja ((M1.o.below ay).below ak)⟩
  . rw[BL R]at H1;have Qz:=Ja (show bb=false by rw[<-Qx.o];exact BL λh=>R h.1);clear R;go_wp2_with(go_at_call 68;refine H1.o.mono ?_;clear H1;rintro e w1 ⟨rfl,ay⟩)
    go_meet
    case rel=>exact⟨by rw[Qz.o],Ja (M1.o.below ay)⟩
 obtain⟨rfl,o⟩:=hcut;have M2:Hid (Mem w wc [some (w.heap.size,.rat p),some (w.heap.size+1,.rat q),some (w.heap.size+1+1,.rat 0)]):=o;clear M1 o;cases bb with
 |true=>
  have Qy:=Be Qx.o;have HW:=Ja (Wz Qy.1 Qy.2);clear Qy Qx;obtain⟨s3,a3,l3,c3,t3,b3,k3,d3,n3,r3,i3,j3⟩:=M2.o.rat (i:=0) rfl;obtain⟨gj,gk⟩:=n3.cp;obtain⟨s4,a4,l4,c4,t4,b4,k4,d4,n4,r4,i4,j4⟩:=M2.o.rat (i:=1) rfl;obtain⟨gl,gn⟩:=n4.cp;obtain⟨s5,a5,l5,c5,t5,b5,k5,d5,n5,r5,i5,j5⟩:=M2.o.rat (i:=2) rfl;obtain⟨Uj,Ub,Ue,Uf⟩:=n5.cq;obtain⟨Ut,Uu,Ul,Us⟩:=n5.fq;go_wp2_with(go_at_call 69;refine(Xh _ _ p.num q.num _ i3 i4 (by have R:=HP.o.num.words;have h2:=HQ.o.num.words;omega)).mono ?_;rintro e w1 ⟨u,rfl,hu,hq⟩;obtain⟨cl,bl,ck,bm,rfl⟩:=Jk.form2 hu;obtain⟨Uj,Ub,Ue,Uf⟩:=(n5.below hq).cq;obtain⟨Ut,Uu,Ul,Us⟩:=(n5.below hq).fq)
  have hr:Jh w1 (F #[E cl,C bl ck bm,E false,C none 0 0]) (p*q):=Jh.mk (by rw[HW.o.1];exact hu) (by rw[LA.2 HW.o.2];exact XW _);have Ua:=Bt M2.o.2.2 hq;exact BB (v:=F #[E cl,C bl ck bm,E false,C none 0 0]) (by simp[results,Tryz.results91,go_sem,Uj,Ub,Ue,Uf]) rfl ⟨_,rfl,hr.put4 (n5.below hq) rfl rfl rfl rfl _ _ _ _,JB Ua O _ _ _ _⟩
 |false=>
  clear Qx;obtain⟨dn,bz⟩:=ex (((Int.gcd p.num (q.den:Int):Nat):Int):Int);have Ug:=Ja bz;clear bz;obtain⟨up,cj⟩:=ex (((Int.gcd q.num (p.den:Int):Nat):Int):Int);have Uh:=Ja cj;clear cj;obtain⟨x,hx⟩:=ex (p.num/dn:Int);have HX:=Ja hx;clear hx;obtain⟨y,hy⟩:=ex (q.num/up:Int);have HY:=Ja hy;clear hy;obtain⟨S1,S2,S3,S4,S5,S6,S7,S8⟩:=W7 p q HP.o HQ.o dn up x y Ug.o Uh.o HX.o HY.o;obtain⟨T1,T2,T3,T4,T5,T6,T7,T8⟩:=Hd S1 S2 S3 S4 S5 S6 S7 S8;clear S1 S2 S3 S4 S5 S6 S7 S8;go_upto_region 3 with fail
  refine Jn Ud [[],[0],[],[2],[1,3,3],[],[5],[],[7,4],[6,8,8],[],[],[10,4,9,0,1,2,3,4,10,11],[11,9,12,0,1,2,3,4,5,6,7,8,9,10,11,12]] (by kernel_rfl) DF
   (λD aj V=>∃(ta tb tc td te tg ti tj tk tl tw tx:L) (ba bc:Option (Nat × Dat)),aj={ tmps:=#[F #[E s,C a l c,E t,C b k d],F #[E s',C a' l' c',E t',C b' k' d'],I (some ⟨w.heap.size,0,none⟩),I (some ⟨w.heap.size+1,0,none⟩),I (some ⟨w.heap.size+1+1,0,none⟩),tw,tx,undef,u8,u9,u10,u11,u12,E false,u14,u15,u16,u17,u18,u19,ta,tb,tc,td,te,tg,ti,tj,tk,tl,u30,u31,u32,u33,u34,u35,u36,u37,u38,u39,u40,u41,u42,u43,u44,u45,u46,u47,u48,u49],defers:=[] }/\Hid ((D 0=true->ta=I (some ⟨w.heap.size,0,none⟩))/\(D 1=true->Has V tb (.int (Rat.num (p))))/\(D 2=true->Has V tc (.rat q))/\(D 3=true->Has V td (.int ((q.den:Int))))/\(D 4=true->Has V te (.int dn))/\(D 5=true->tg=I (some ⟨w.heap.size+1,0,none⟩))/\(D 6=true->Has V ti (.int (Rat.num (q))))/\(D 7=true->Has V tj (.rat p))/\(D 8=true->Has V tk (.int ((p.den:Int))))/\(D 9=true->Has V tl (.int up))/\((D 10=false->ba=none)/\(D 10=true->D 12=false->∃B:Nat,tw=I (some ⟨B,0,none⟩)/\ba=some (B,.int 0))/\(D 12=true->∃B:Nat,tw=I (some ⟨B,0,none⟩)/\ba=some (B,.int dn)))/\((D 11=false->bc=none)/\(D 11=true->D 13=false->∃B:Nat,tx=I (some ⟨B,0,none⟩)/\bc=some (B,.int 0))/\(D 13=true->∃B:Nat,tx=I (some ⟨B,0,none⟩)/\bc=some (B,.int up))))/\Hid (Mem w V [some (w.heap.size,.rat p),some (w.heap.size+1,.rat q),some (w.heap.size+1+1,.rat 0),ba,bc]))
   ⟨_,_,_,_,_,_,_,_,_,_,_,_,none,none,rfl,Ja ⟨Z,Z,Z,Z,Z,Z,Z,Z,Z,Z,Z,Z⟩,Ja (((M2.o).none).none).drew⟩ ?step6 ?fin6
  case step6=>
   rintro D aj V i ds bh hi m ai ⟨ta,tb,tc,td,te,tg,ti,tj,tk,tl,tw,tx,ba,bc,rfl,g,o⟩;have Un:i<14:=(Ac.1 hi).1;obtain rfl|rfl|rfl|rfl|rfl|rfl|rfl|rfl|rfl|rfl|rfl|rfl|rfl|rfl:=GF i O
   all_goals
    simp only[Ai,Ag,Ak]at hi;subst hi
   . clear m;refine Za ?_;exact⟨_,_,_,_,_,_,_,_,_,_,_,_,_,_,rfl,(De g),Ja (o.o)⟩
   . obtain rfl:=(g.o.1 (m 0 Z));clear m;obtain⟨s,a,l,c,t,b,k,d,n,r,i,j⟩:=o.o.rat (i:=0) rfl;obtain⟨e0,e1,e2,e3⟩:=n.cq;refine Za ?_;exact⟨_,_,_,_,_,_,_,_,_,_,_,_,_,_,rfl,(Dh (De g) λ_=>i),Ja (o.o)⟩
   . clear m;obtain⟨s,a,l,c,t,b,k,d,n,r,i,j⟩:=o.o.rat (i:=1) rfl;obtain⟨e0,e1,e2,e3⟩:=n.cq;refine Za ?_;exact⟨_,_,_,_,_,_,_,_,_,_,_,_,_,_,rfl,(DZ g λ_=>r),Ja (o.o)⟩
   . have X:=(g.o.2.2.1 (m 2 Z));have HC:=Ja (Ew _ q V X);clear m X;refine Jc rfl rfl λK hK=>?_;go_simp;go_wp2_with(go_at_call 70;refine HC.o.mono ?_;rintro e w5 ⟨v5,rfl,ae,f⟩)
     obtain⟨z,A,N,_,S,P,Q,T,W,G9,af⟩:=g.o;exact⟨_,_,_,_,_,_,_,_,_,_,_,_,_,_,rfl,Ja ⟨z,λh=>(A h).below f,λh=>(N h).below f,λ_=>ae,λh=>(S h).below f,P,λh=>(Q h).below f,λh=>(T h).below f,λh=>(W h).below f,λh=>(G9 h).below f,af⟩,Ja (o.o.below f)⟩
   . have X:=(g.o.2.1 (m 1 Z));have R:=(g.o.2.2.2.1 (m 3 Z));have HC:=Ja ((by have h:=IX _ _ p.num (q.den:Int) V X R (by have:=HP.o.num.words;omega) (by have:=HQ.o.den.words;omega);rw[Ug.o]at h;exact h));clear m X R;refine Jc rfl rfl λK hK=>?_;go_simp;go_wp2_with(go_at_call 84;refine HC.o.mono ?_;rintro e w5 ⟨v5,rfl,ae,f⟩)
     obtain⟨z,A,N,U,_,P,Q,T,W,G9,af⟩:=g.o;exact⟨_,_,_,_,_,_,_,_,_,_,_,_,_,_,rfl,Ja ⟨z,λh=>(A h).below f,λh=>(N h).below f,λh=>(U h).below f,λ_=>ae,P,λh=>(Q h).below f,λh=>(T h).below f,λh=>(W h).below f,λh=>(G9 h).below f,af⟩,Ja (o.o.below f)⟩
   . clear m;refine Za ?_;exact⟨_,_,_,_,_,_,_,_,_,_,_,_,_,_,rfl,(Dw g),Ja (o.o)⟩
   . obtain rfl:=((Dn g) (m 5 Z));clear m;obtain⟨s,a,l,c,t,b,k,d,n,r,i,j⟩:=o.o.rat (i:=1) rfl;obtain⟨e0,e1,e2,e3⟩:=n.cq;refine Za ?_;exact⟨_,_,_,_,_,_,_,_,_,_,_,_,_,_,rfl,(Dz (Dw g) λ_=>i),Ja (o.o)⟩
   . clear m;obtain⟨s,a,l,c,t,b,k,d,n,r,i,j⟩:=o.o.rat (i:=0) rfl;obtain⟨e0,e1,e2,e3⟩:=n.cq;refine Za ?_;exact⟨_,_,_,_,_,_,_,_,_,_,_,_,_,_,rfl,(EM g λ_=>r),Ja (o.o)⟩
   . have X:=((ET g) (m 7 Z));have HC:=Ja (Ew _ p V X);clear m X;refine Jc rfl rfl λK hK=>?_;go_simp;go_wp2_with(go_at_call 70;refine HC.o.mono ?_;rintro e w5 ⟨v5,rfl,ae,f⟩)
     obtain⟨z,A,N,U,S,P,Q,T,_,G9,af⟩:=g.o;exact⟨_,_,_,_,_,_,_,_,_,_,_,_,_,_,rfl,Ja ⟨z,λh=>(A h).below f,λh=>(N h).below f,λh=>(U h).below f,λh=>(S h).below f,P,λh=>(Q h).below f,λh=>(T h).below f,λ_=>ae,λh=>(G9 h).below f,af⟩,Ja (o.o.below f)⟩
   . have X:=((ED g) (m 6 Z));have R:=((Ed g) (m 8 Z));have HC:=Ja ((by have h:=IX _ _ q.num (p.den:Int) V X R (by have:=HQ.o.num.words;omega) (by have:=HP.o.den.words;omega);rw[Uh.o]at h;exact h));clear m X R;refine Jc rfl rfl λK hK=>?_;go_simp;go_wp2_with(go_at_call 84;refine HC.o.mono ?_;rintro e w5 ⟨v5,rfl,ae,f⟩)
     obtain⟨z,A,N,U,S,P,Q,T,W,_,af⟩:=g.o;exact⟨_,_,_,_,_,_,_,_,_,_,_,_,_,_,rfl,Ja ⟨z,λh=>(A h).below f,λh=>(N h).below f,λh=>(U h).below f,λh=>(S h).below f,P,λh=>(Q h).below f,λh=>(T h).below f,λh=>(W h).below f,λ_=>ae,af⟩,Ja (o.o.below f)⟩
   . have hf:D 12=false:=DI bh ai;obtain rfl:=g.o.2.2.2.2.2.2.2.2.2.2.1.1 ai;clear m;refine Za ?_;obtain⟨z,A,N,U,S,P,Q,T,W,G9,_,bi⟩:=g.o;exact⟨_,_,_,_,_,_,_,_,_,_,_,_,_,_,rfl,Ja ⟨z,λh=>(A h).alloc _,λh=>(N h).alloc _,λh=>(U h).alloc _,λh=>(S h).alloc _,P,λh=>(Q h).alloc _,λh=>(T h).alloc _,λh=>(W h).alloc _,λh=>(G9 h).alloc _,⟨λh=>by simp at h,λ_ _=>⟨_,rfl,rfl⟩,λh=>by simp[hf]at h⟩,bi⟩,Ja (o.o.fill (i:=3) rfl (.int 0) (XW _))⟩
   . have hf:D 13=false:=DI bh ai;obtain rfl:=EZ g ai;clear m;refine Za ?_;obtain⟨z,A,N,U,S,P,Q,T,W,G9,af,_⟩:=g.o;exact⟨_,_,_,_,_,_,_,_,_,_,_,_,_,_,rfl,Ja ⟨z,λh=>(A h).alloc _,λh=>(N h).alloc _,λh=>(U h).alloc _,λh=>(S h).alloc _,P,λh=>(Q h).alloc _,λh=>(T h).alloc _,λh=>(W h).alloc _,λh=>(G9 h).alloc _,af,⟨λh=>by simp at h,λ_ _=>⟨_,rfl,rfl⟩,λh=>by simp[hf]at h⟩⟩,Ja (o.o.fill (i:=4) rfl (.int 0) (XW _))⟩
   . obtain⟨B,rfl,rfl⟩:=g.o.2.2.2.2.2.2.2.2.2.2.1.2.1 (m 10 Z) ai;have Qw:=m 10 Z;have hv:=(g.o.2.2.2.2.1 (m 4 Z));obtain⟨s1,a1,l1,c1,rfl⟩:=Jk.form2 (show Jk V _ _ from hv);obtain⟨s,a,l,c,n,i⟩:=o.o.int (i:=3) rfl;have e0:=n.c0;have f0:=n.f0;have e1:=n.c1;have f1:=n.f1;clear m;refine Za ?_;obtain⟨z,A,N,U,S,P,Q,T,W,G9,_,bi⟩:=g.o;exact⟨_,_,_,_,_,_,_,_,_,_,_,_,_,_,rfl,Ja ⟨z,λh=>(A h).set2 n rfl rfl _ _,λh=>(N h).set2 n rfl rfl _ _,λh=>(U h).set2 n rfl rfl _ _,λh=>(S h).set2 n rfl rfl _ _,P,λh=>(Q h).set2 n rfl rfl _ _,λh=>(T h).set2 n rfl rfl _ _,λh=>(W h).set2 n rfl rfl _ _,λh=>(G9 h).set2 n rfl rfl _ _,⟨λh=>by simp[Qw]at h,λ_ h=>by simp at h,λ_=>⟨B,rfl,rfl⟩⟩,bi⟩,Ja (o.o.putInt (i:=3) rfl hv)⟩
   . obtain⟨B,rfl,rfl⟩:=Ek g (m 11 Z) ai;have Qw:=m 11 Z;have hv:=((F3 g) (m 9 Z));obtain⟨s1,a1,l1,c1,rfl⟩:=Jk.form2 (show Jk V _ _ from hv);obtain⟨s,a,l,c,n,i⟩:=o.o.int (i:=4) rfl;have e0:=n.c0;have f0:=n.f0;have e1:=n.c1;have f1:=n.f1;clear m;refine Za ?_;obtain⟨z,A,N,U,S,P,Q,T,W,G9,af,_⟩:=g.o;exact⟨_,_,_,_,_,_,_,_,_,_,_,_,_,_,rfl,Ja ⟨z,λh=>(A h).set2 n rfl rfl _ _,λh=>(N h).set2 n rfl rfl _ _,λh=>(U h).set2 n rfl rfl _ _,λh=>(S h).set2 n rfl rfl _ _,P,λh=>(Q h).set2 n rfl rfl _ _,λh=>(T h).set2 n rfl rfl _ _,λh=>(W h).set2 n rfl rfl _ _,λh=>(G9 h).set2 n rfl rfl _ _,af,⟨λh=>by simp[Qw]at h,λ_ h=>by simp at h,λ_=>⟨B,rfl,rfl⟩⟩⟩,Ja (o.o.putInt (i:=4) rfl hv)⟩
  rintro D aj V7 ax ⟨ta,tb,tc,td,te,tg,ti,tj,tk,tl,tw,tx,ba,bc,rfl,g,o⟩;obtain⟨B8,rfl,rfl⟩:=g.o.2.2.2.2.2.2.2.2.2.2.1.2.2 (ax 12 DF);obtain⟨B9,rfl,rfl⟩:=g.o.2.2.2.2.2.2.2.2.2.2.2.2.2 (ax 13 DF);clear g ax M2;have M3:Hid (Mem w V7 [some (w.heap.size,.rat p),some (w.heap.size+1,.rat q),some (w.heap.size+1+1,.rat 0),some (B8,.int dn),some (B9,.int up)]):=o;clear o;go_upto_region 4 with fail
  refine Jn Ud [[],[0],[],[1,2],[],[4],[],[5,6,3],[3,7,7],[],[9,8,8,0,1,2,3,4,5,6,7,8,9]] (by kernel_rfl) DF
   (λD aj V=>∃(tm tn tp tq tr ts tt tu tv ty:L) (x9:Option (Nat × Dat)),aj={ tmps:=#[F #[E s,C a l c,E t,C b k d],F #[E s',C a' l' c',E t',C b' k' d'],I (some ⟨w.heap.size,0,none⟩),I (some ⟨w.heap.size+1,0,none⟩),I (some ⟨w.heap.size+1+1,0,none⟩),I (some ⟨B8,0,none⟩),I (some ⟨B9,0,none⟩),ty,u8,u9,u10,u11,u12,E false,u14,u15,u16,u17,u18,u19,ta,tb,tc,td,te,tg,ti,tj,tk,tl,tm,tn,tp,tq,tr,ts,tt,tu,tv,u39,u40,u41,u42,u43,u44,u45,u46,u47,u48,u49],defers:=[] }/\Hid ((D 0=true->tm=I (some ⟨w.heap.size,0,none⟩))/\(D 1=true->Has V tn (.int (Rat.num (p))))/\(D 2=true->Has V tp (.int dn))/\(D 3=true->Has V tq (.int x))/\(D 4=true->tr=I (some ⟨w.heap.size+1,0,none⟩))/\(D 5=true->Has V ts (.int (Rat.num (q))))/\(D 6=true->Has V tt (.int up))/\(D 7=true->Has V tu (.int y))/\(D 8=true->Has V tv (.int (x*y)))/\((D 9=false->x9=none)/\(D 9=true->D 10=false->∃B:Nat,ty=I (some ⟨B,0,none⟩)/\x9=some (B,.int 0))/\(D 10=true->∃B:Nat,ty=I (some ⟨B,0,none⟩)/\x9=some (B,.int (x*y)))))/\Hid (Mem w V [some (w.heap.size,.rat p),some (w.heap.size+1,.rat q),some (w.heap.size+1+1,.rat 0),some (B8,.int dn),some (B9,.int up),x9]))
   ⟨_,_,_,_,_,_,_,_,_,_,none,rfl,Ja ⟨Z,Z,Z,Z,Z,Z,Z,Z,Z,Z⟩,Ja ((M3.o).none).drew⟩ ?step10 ?fin10
  case step10=>
   rintro D aj V i ds bh hi m ai ⟨tm,tn,tp,tq,tr,ts,tt,tu,tv,ty,x9,rfl,g,o⟩;have Un:i<11:=(Ac.1 hi).1;obtain rfl|rfl|rfl|rfl|rfl|rfl|rfl|rfl|rfl|rfl|rfl:=Gm i O
   all_goals
    simp only[Ai,Ag,Ak]at hi;subst hi
   . clear m;refine Za ?_;exact⟨_,_,_,_,_,_,_,_,_,_,_,rfl,(De g),Ja (o.o)⟩
   . obtain rfl:=(g.o.1 (m 0 Z));clear m;obtain⟨s,a,l,c,t,b,k,d,n,r,i,j⟩:=o.o.rat (i:=0) rfl;obtain⟨e0,e1,e2,e3⟩:=n.cq;refine Za ?_;exact⟨_,_,_,_,_,_,_,_,_,_,_,rfl,(Dh (De g) λ_=>i),Ja (o.o)⟩
   . clear m;obtain⟨s,a,l,c,n,i⟩:=o.o.int (i:=3) rfl;obtain⟨e0,e1⟩:=n.cp;refine Za ?_;exact⟨_,_,_,_,_,_,_,_,_,_,_,rfl,(DZ g λ_=>i),Ja (o.o)⟩
   . have X:=(g.o.2.1 (m 1 Z));have R:=(g.o.2.2.1 (m 2 Z));have HC:=Ja ((by have h:=F6 _ _ p.num dn V X R T2.o HP.o.num T1.o;rw[HX.o]at h;exact h));clear m X R;refine Jc rfl rfl λK hK=>?_;go_simp;go_wp2_with(go_at_call 85;refine HC.o.mono ?_;rintro e w5 ⟨v5,rfl,ae,f⟩)
     obtain⟨z,A,N,_,S,P,Q,T,W,G9⟩:=g.o;exact⟨_,_,_,_,_,_,_,_,_,_,_,rfl,Ja ⟨z,λh=>(A h).below f,λh=>(N h).below f,λ_=>ae,S,λh=>(P h).below f,λh=>(Q h).below f,λh=>(T h).below f,λh=>(W h).below f,G9⟩,Ja (o.o.below f)⟩
   . clear m;refine Za ?_;exact⟨_,_,_,_,_,_,_,_,_,_,_,rfl,(Du g),Ja (o.o)⟩
   . obtain rfl:=(g.o.2.2.2.2.1 (m 4 Z));clear m;obtain⟨s,a,l,c,t,b,k,d,n,r,i,j⟩:=o.o.rat (i:=1) rfl;obtain⟨e0,e1,e2,e3⟩:=n.cq;refine Za ?_;exact⟨_,_,_,_,_,_,_,_,_,_,_,rfl,(Dw (Du g) λ_=>i),Ja (o.o)⟩
   . clear m;obtain⟨s,a,l,c,n,i⟩:=o.o.int (i:=4) rfl;obtain⟨e0,e1⟩:=n.cp;refine Za ?_;exact⟨_,_,_,_,_,_,_,_,_,_,_,rfl,(Dz g λ_=>i),Ja (o.o)⟩
   . have X:=((Dn g) (m 5 Z));have R:=((ED g) (m 6 Z));have HC:=Ja ((by have h:=F6 _ _ q.num up V X R T4.o HQ.o.num T3.o;rw[HY.o]at h;exact h));clear m X R;refine Jc rfl rfl λK hK=>?_;go_simp;go_wp2_with(go_at_call 85;refine HC.o.mono ?_;rintro e w5 ⟨v5,rfl,ae,f⟩)
     obtain⟨z,A,N,U,S,P,Q,_,W,G9⟩:=g.o;exact⟨_,_,_,_,_,_,_,_,_,_,_,rfl,Ja ⟨z,λh=>(A h).below f,λh=>(N h).below f,λh=>(U h).below f,S,λh=>(P h).below f,λh=>(Q h).below f,λ_=>ae,λh=>(W h).below f,G9⟩,Ja (o.o.below f)⟩
   . have X:=(g.o.2.2.2.1 (m 3 Z));have R:=((ET g) (m 7 Z));have HC:=Ja (Xh _ _ x y V X R (by have R:=T5.o.words;have h2:=T6.o.words;omega));clear m X R;refine Jc rfl rfl λK hK=>?_;go_simp;go_wp2_with(go_at_call 69;refine HC.o.mono ?_;rintro e w5 ⟨v5,rfl,ae,f⟩)
     obtain⟨z,A,N,U,S,P,Q,T,_,G9⟩:=g.o;exact⟨_,_,_,_,_,_,_,_,_,_,_,rfl,Ja ⟨z,λh=>(A h).below f,λh=>(N h).below f,λh=>(U h).below f,S,λh=>(P h).below f,λh=>(Q h).below f,λh=>(T h).below f,λ_=>ae,G9⟩,Ja (o.o.below f)⟩
   . have hf:D 10=false:=DI bh ai;obtain rfl:=F3 g ai;clear m;refine Za ?_;obtain⟨z,A,N,U,S,P,Q,T,W,_⟩:=g.o;exact⟨_,_,_,_,_,_,_,_,_,_,_,rfl,Ja ⟨z,λh=>(A h).alloc _,λh=>(N h).alloc _,λh=>(U h).alloc _,S,λh=>(P h).alloc _,λh=>(Q h).alloc _,λh=>(T h).alloc _,λh=>(W h).alloc _,⟨λh=>by simp at h,λ_ _=>⟨_,rfl,rfl⟩,λh=>by simp[hf]at h⟩⟩,Ja (o.o.fill (i:=5) rfl (.int 0) (XW _))⟩
   . obtain⟨B,rfl,rfl⟩:=EE g (m 9 Z) ai;have Qw:=m 9 Z;have hv:=((Ed g) (m 8 Z));obtain⟨s1,a1,l1,c1,rfl⟩:=Jk.form2 (show Jk V _ _ from hv);obtain⟨s,a,l,c,n,i⟩:=o.o.int (i:=5) rfl;have e0:=n.c0;have f0:=n.f0;have e1:=n.c1;have f1:=n.f1;clear m;refine Za ?_;obtain⟨z,A,N,U,S,P,Q,T,W,_⟩:=g.o;exact⟨_,_,_,_,_,_,_,_,_,_,_,rfl,Ja ⟨z,λh=>(A h).set2 n rfl rfl _ _,λh=>(N h).set2 n rfl rfl _ _,λh=>(U h).set2 n rfl rfl _ _,S,λh=>(P h).set2 n rfl rfl _ _,λh=>(Q h).set2 n rfl rfl _ _,λh=>(T h).set2 n rfl rfl _ _,λh=>(W h).set2 n rfl rfl _ _,⟨λh=>by simp[Qw]at h,λ_ h=>by simp at h,λ_=>⟨B,rfl,rfl⟩⟩⟩,Ja (o.o.putInt (i:=5) rfl hv)⟩
  rintro D aj ah ax ⟨tm,tn,tp,tq,tr,ts,tt,tu,tv,ty,x9,rfl,g,o⟩;obtain⟨B12,rfl,rfl⟩:=g.o.2.2.2.2.2.2.2.2.2.2.2 (ax 10 DF);clear g ax M3;have M4:Hid (Mem w ah [some (w.heap.size,.rat p),some (w.heap.size+1,.rat q),some (w.heap.size+1+1,.rat 0),some (B8,.int dn),some (B9,.int up),some (B12,.int (x*y))]):=o;clear o;go_upto_region 5 with fail
  obtain⟨fk,cn,fa,dj,am,ei⟩:=M4.o.int (i:=5) rfl;obtain⟨Qc,Qm⟩:=am.cp;obtain⟨fl,co,fb,dk,fv,df,ew,dx,an,fi,go,gr⟩:=M4.o.rat (i:=0) rfl;obtain⟨Qb,Qh,Qq,Qa⟩:=an.cq;obtain⟨fm,ct,fc,dm,ap,eo⟩:=M4.o.int (i:=4) rfl;obtain⟨Qj,Qd⟩:=ap.cp;obtain⟨fo,da,fe,dp,fx,dh,f8,dz,aq,fj,gp,gu⟩:=M4.o.rat (i:=1) rfl;obtain⟨Qp,Qf,Qe,Qk⟩:=aq.cq;obtain⟨fs,db,fg,dt,aw,et⟩:=M4.o.int (i:=3) rfl;obtain⟨Qn,Qg⟩:=aw.cp;obtain⟨ij,gb,gy,gh,il,gg,gw,gi,ad,ii,gq,gv⟩:=M4.o.rat (i:=2) rfl;obtain⟨Qo,Ql,Qi,Qr⟩:=ad.cq;obtain⟨Qs,Qv,Qu,Qt⟩:=ad.fq;obtain⟨H2,H4,H6,H8,H9,Ui⟩:=Is (λ(V:H) (h:Bl ah V)=>Ew _ p V (fi.below h)) (λ(V:H) (h:Bl ah V) (v2:L) (g2:Jk V v2 ((p.den:Int)))=>F6 _ _ (p.den:Int) up V g2 (eo.below h) T4.o HP.o.den T3.o) (λ(V:H) (h:Bl ah V)=>Ew _ q V (fj.below h)) (λ(V:H) (h:Bl ah V) (v6:L) (g6:Jk V v6 ((q.den:Int)))=>F6 _ _ (q.den:Int) dn V g6 (et.below h) T2.o HQ.o.den T1.o) (λ(V:H) (h:Bl ah V) (v4:L) (g4:Jk V v4 ((p.den:Int)/up)) (v8:L) (g8:Jk V v8 ((q.den:Int)/dn))=>Xh _ _ ((p.den:Int)/up) ((q.den:Int)/dn) V g4 g8 (by have R:=(Sok.div (y:=up) HP.o.den).words;have h2:=(Sok.div (y:=dn) HQ.o.den).words;omega)) λ(V:H) (h:Bl ah V) (v9:L) (g9:Jk V v9 ((p.den:Int)/up*((q.den:Int)/dn)))=>LQ _ _ (p*q) V (by rw[T7.o];exact(ei.below h)) (by rw[T8.o];exact g9);have ig:B12≠w.heap.size+1+1:=M4.o.ne 5 2 rfl rfl DF;have ia:w.heap.size≠w.heap.size+1+1:=M4.o.ne 0 2 rfl rfl DF;have ie:B9≠w.heap.size+1+1:=M4.o.ne 4 2 rfl rfl DF;have ib:w.heap.size+1≠w.heap.size+1+1:=M4.o.ne 1 2 rfl rfl DF;have ic:B8≠w.heap.size+1+1:=M4.o.ne 3 2 rfl rfl DF;have hq:Bl ah ah.drew:=(BF _ ah).drew;go_region_held3 (λw'=>w'.cell? ⟨B12,0,none⟩=some (E fk)/\w'.cell? ⟨B12,1,none⟩=some (C cn fa dj)/\w'.cell? ⟨w.heap.size,0,none⟩=some (E fl)/\w'.cell? ⟨w.heap.size,1,none⟩=some (C co fb dk)/\w'.cell? ⟨w.heap.size,2,none⟩=some (E fv)/\w'.cell? ⟨w.heap.size,3,none⟩=some (C df ew dx)/\w'.cell? ⟨B9,0,none⟩=some (E fm)/\w'.cell? ⟨B9,1,none⟩=some (C ct fc dm)/\w'.cell? ⟨w.heap.size+1,0,none⟩=some (E fo)/\w'.cell? ⟨w.heap.size+1,1,none⟩=some (C da fe dp)/\w'.cell? ⟨w.heap.size+1,2,none⟩=some (E fx)/\w'.cell? ⟨w.heap.size+1,3,none⟩=some (C dh f8 dz)/\w'.cell? ⟨B8,0,none⟩=some (E fs)/\w'.cell? ⟨B8,1,none⟩=some (C db fg dt)) (first|(with_reducible exact⟨Qc,Qm,Qb,Qh,Qq,Qa,Qj,Qd,Qp,Qf,Qe,Qk,Qn,Qg⟩)|(go_keep;done)|(refine⟨?_,?_,?_,?_,?_,?_,?_,?_,?_,?_,?_,?_,?_,?_⟩<;>((repeat rw[Ya O]);first|assumption|(go_keep;done))))
   (first
    |(go_at_call 70;refine(H2.o _ hq ).mono ?_;clear H2;rintro e w2 ⟨v2,rfl,g2,ak⟩;have hq:=Bt hq ak;obtain⟨Qc,Qm⟩:=(am.below hq).cp;obtain⟨Qb,Qh,Qq,Qa⟩:=(an.below hq).cq;obtain⟨Qj,Qd⟩:=(ap.below hq).cp;obtain⟨Qp,Qf,Qe,Qk⟩:=(aq.below hq).cq;obtain⟨Qn,Qg⟩:=(aw.below hq).cp;obtain⟨Qo,Ql,Qi,Qr⟩:=(ad.below hq).cq;obtain⟨Qs,Qv,Qu,Qt⟩:=(ad.below hq).fq)
    |(go_at_call 85;refine(H4.o _ hq _ g2).mono ?_;clear H4;rintro e w4 ⟨v4,rfl,g4,bt⟩;have g2:=g2.below bt;have hq:=Bt hq bt;obtain⟨Qc,Qm⟩:=(am.below hq).cp;obtain⟨Qb,Qh,Qq,Qa⟩:=(an.below hq).cq;obtain⟨Qj,Qd⟩:=(ap.below hq).cp;obtain⟨Qp,Qf,Qe,Qk⟩:=(aq.below hq).cq;obtain⟨Qn,Qg⟩:=(aw.below hq).cp;obtain⟨Qo,Ql,Qi,Qr⟩:=(ad.below hq).cq;obtain⟨Qs,Qv,Qu,Qt⟩:=(ad.below hq).fq)
    |(go_at_call 70;refine(H6.o _ hq ).mono ?_;clear H6;rintro e w6 ⟨v6,rfl,g6,bk⟩;have g2:=g2.below bk;have g4:=g4.below bk;have hq:=Bt hq bk;obtain⟨Qc,Qm⟩:=(am.below hq).cp;obtain⟨Qb,Qh,Qq,Qa⟩:=(an.below hq).cq;obtain⟨Qj,Qd⟩:=(ap.below hq).cp;obtain⟨Qp,Qf,Qe,Qk⟩:=(aq.below hq).cq;obtain⟨Qn,Qg⟩:=(aw.below hq).cp;obtain⟨Qo,Ql,Qi,Qr⟩:=(ad.below hq).cq;obtain⟨Qs,Qv,Qu,Qt⟩:=(ad.below hq).fq)
    |(go_at_call 85;refine(H8.o _ hq _ g6).mono ?_;clear H8;rintro e w8 ⟨v8,rfl,g8,bg⟩;have g2:=g2.below bg;have g4:=g4.below bg;have g6:=g6.below bg;have hq:=Bt hq bg;obtain⟨Qc,Qm⟩:=(am.below hq).cp;obtain⟨Qb,Qh,Qq,Qa⟩:=(an.below hq).cq;obtain⟨Qj,Qd⟩:=(ap.below hq).cp;obtain⟨Qp,Qf,Qe,Qk⟩:=(aq.below hq).cq;obtain⟨Qn,Qg⟩:=(aw.below hq).cp;obtain⟨Qo,Ql,Qi,Qr⟩:=(ad.below hq).cq;obtain⟨Qs,Qv,Qu,Qt⟩:=(ad.below hq).fq)
    |(go_at_call 69;refine(H9.o _ hq _ g4 _ g8).mono ?_;clear H9;rintro e w9 ⟨v9,rfl,g9,bf⟩;have g2:=g2.below bf;have g4:=g4.below bf;have g6:=g6.below bf;have g8:=g8.below bf;have hq:=Bt hq bf;obtain⟨Qc,Qm⟩:=(am.below hq).cp;obtain⟨Qb,Qh,Qq,Qa⟩:=(an.below hq).cq;obtain⟨Qj,Qd⟩:=(ap.below hq).cp;obtain⟨Qp,Qf,Qe,Qk⟩:=(aq.below hq).cq;obtain⟨Qn,Qg⟩:=(aw.below hq).cp;obtain⟨Qo,Ql,Qi,Qr⟩:=(ad.below hq).cq;obtain⟨Qs,Qv,Qu,Qt⟩:=(ad.below hq).fq)
    |(go_at_call 86;refine(Ui.o _ hq _ g9).mono ?_;clear Ui;rintro e ir ⟨io,rfl,bn,az⟩;obtain⟨ft,de,fh,du,ga,di,f9,ed,rfl⟩:=Jh.form bn;have g2:=g2.below az;have g4:=g4.below az;have g6:=g6.below az;have g8:=g8.below az;have g9:=g9.below az;have hq:=Bt hq az;obtain⟨Qc,Qm⟩:=(am.below hq).cp;obtain⟨Qb,Qh,Qq,Qa⟩:=(an.below hq).cq;obtain⟨Qj,Qd⟩:=(ap.below hq).cp;obtain⟨Qp,Qf,Qe,Qk⟩:=(aq.below hq).cq;obtain⟨Qn,Qg⟩:=(aw.below hq).cp;obtain⟨Qo,Ql,Qi,Qr⟩:=(ad.below hq).cq;obtain⟨Qs,Qv,Qu,Qt⟩:=(ad.below hq).fq))
  all_goals go_wp2_with fail
  have Ua:=Bt M4.o.2.2 hq;have Uk:=M4.o.ge 2 rfl;exact BB (v:=F #[E ft,C de fh du,E ga,C di f9 ed]) (by simp[results,Tryz.results91,go_sem,Qo,Ql,Qi,Qr]) rfl ⟨_,rfl,bn.put4 (ad.below hq) rfl rfl rfl rfl _ _ _ _,JB Ua Uk _ _ _ _⟩
theorem LU(va vb:L)(x y:Int)(w:H)(N:Jk w va x)(P:Jk w vb y)(R:Sok x)(S:Sok y):
 Calls M 28 #[va,vb] w λe w'=>∃u,e=.returned (.tuple #[u,E (decide (y≠0))])/\Jh w' u (Rat.divInt x y)/\Bl w w':=by
 have HX:=Ja R;have HY:=Ja S;clear R S;obtain⟨s,a,la,ca,rfl⟩:=Jk.form2 N;obtain⟨t,b,lb,cb,rfl⟩:=Jk.form2 P;have q:=NZ w s t a b la ca lb cb _ _ N P;obtain⟨W0,K⟩:=ex (((w.alloc (G #[E s,C a la ca] 35)).alloc (G #[E t,C b lb cb] 35)).alloc (G #[E false,C none 0 0,E false,C none 0 0] 37));have Q:=Ja K;rw[K]at q;have f:Hid (Mem w W0 [some (w.heap.size,.int x),some (w.heap.size+1,.int y),some (w.heap.size+1+1,.rat 0)]):=Ja q;clear q N P K;obtain⟨s1,a1,l1,c1,W,i1⟩:=f.o.int (i:=0) rfl;obtain⟨Qo,Qm⟩:=W.cp;obtain⟨s2,a2,l2,c2,X,U⟩:=f.o.int (i:=1) rfl;obtain⟨Qk,Qn⟩:=X.cp;obtain⟨s3,a3,l3,c3,t3,b3,k3,d3,d,r3,i3,j3⟩:=f.o.rat (i:=2) rfl;obtain⟨l,k,m,j⟩:=d.cq;obtain⟨A,B,r,D⟩:=d.fq;have n:=Ja (QA _ y W0 U);have g:=Ja λ(V:H) (h:Bl W0 V) (c:y≠0)=>QC _ _ x y V (i1.below h) (U.below h) c HX.o HY.o;by_cases c:y=0
 . rw[BJ c]at n;have o:=Ja (BL (p:=y≠0) λh=>h c);rw[o.o];have HE:=Ja (show Rat.divInt x y=0 by rw[c,Rat.divInt_zero]);clear c g;go_enter Tryz.func28,Tryz.ntmps28
   go_upto_region 1 with fail
   rw[Q.o];go_wp2_with(go_at_call 71;refine n.o.mono ?_;rintro e w1 ⟨rfl,hq⟩;obtain⟨l,k,m,j⟩:=(d.below hq).cq;obtain⟨A,B,r,D⟩:=(d.below hq).fq)
   have hr:Jh w1 (F #[E false,C none 0 0,E false,C none 0 0]) (Rat.divInt x y):=by rw[HE.o];exact XY _
   have z:=Bt f.o.2.2 hq;exact BB (v:=.tuple #[F #[E false,C none 0 0,E false,C none 0 0],E false]) (by simp[results,Tryz.results28,go_sem,l,k,m,j]) rfl ⟨_,rfl,hr.put4 (d.below hq) rfl rfl rfl rfl _ _ _ _,JB z O _ _ _ _⟩
 . rw[BL c]at n;have o:=Ja (BJ (p:=y≠0) c);rw[o.o];have g:=Ja λV h=>g.o V h c;clear c;go_enter Tryz.func28,Tryz.ntmps28
   go_upto_region 1 with fail
   rw[Q.o];go_wp2_with(first
    |(go_at_call 71;refine n.o.mono ?_;rintro e w1 ⟨rfl,hq⟩;obtain⟨Qo,Qm⟩:=(W.below hq).cp;obtain⟨Qk,Qn⟩:=(X.below hq).cp;obtain⟨l,k,m,j⟩:=(d.below hq).cq;obtain⟨A,B,r,D⟩:=(d.below hq).fq)
    |(go_at_call 65;refine(g.o _ hq).mono ?_;clear g;rintro e w2 ⟨u2,rfl,T,ai⟩;obtain⟨am,ad,ak,af,an,ae,aj,ah,rfl⟩:=Jh.form T;have hq:=Bt hq ai;obtain⟨l,k,m,j⟩:=(d.below hq).cq;obtain⟨A,B,r,D⟩:=(d.below hq).fq))
   have z:=Bt f.o.2.2 hq;have Ql:=f.o.ge 2 rfl;exact BB (v:=.tuple #[F #[E am,C ad ak af,E an,C ae aj ah],E true]) (by simp[results,Tryz.results28,go_sem,l,k,m,j]) rfl ⟨_,rfl,T.put4 (d.below hq) rfl rfl rfl rfl _ _ _ _,JB z Ql _ _ _ _⟩
theorem W8(p q:Rat):decide ((p.den:Int)*q.num≠0)=decide (q≠0):=by
 refine B0.2 (not_congr ⟨λh=>?_,λh=>?_⟩)
 . rcases Int.mul_eq_zero.1 h with h|h
   . have:=p.den_nz;omega
   . exact FD.1 h
 . rw[h];exact Int.mul_zero _
theorem QD(va vb:L)(p q:Rat)(w:H)(ha:Jh w va p)(hb:Jh w vb q)(am:Sq p)(an:Sq q):
 Calls M 75 #[va,vb] w λe j=>∃u,e=.returned (.tuple #[u,E (decide (q≠0))])/\Jh j u (p/q)/\Bl w j:=by
 obtain⟨bq,ai⟩:=ex (decide (q≠0));have Qt:=Ja ((W8 p q).trans ai);rw[ai];clear ai;obtain⟨s,a,l,c,t,b,k,d,rfl⟩:=Jh.form ha;obtain⟨s',a',l',c',t',b',k',d',rfl⟩:=Jh.form hb;have M0:=LR w s t s' t' a b a' b' l c k d l' c' k' d' p q ha hb;obtain⟨W0,af⟩:=ex (((w.alloc (G #[E s,C a l c,E t,C b k d] 37)).alloc (G #[E s',C a' l' c',E t',C b' k' d'] 37)).alloc (G #[E false,C none 0 0,E false,C none 0 0] 37));have Qq:=Ja af;rw[af]at M0;have n:Hid (Mem w W0 [some (w.heap.size,.rat p),some (w.heap.size+1,.rat q),some (w.heap.size+1+1,.rat 0)]):=Ja M0;have HP:=Ja am;have HQ:=Ja an;clear M0 ha hb af am an;go_enter Tryz.func75,Tryz.ntmps75
 go_upto_region 1 with fail
 rw[Qq.o];clear Qq;obtain⟨s1,a1,l1,c1,t1,b1,k1,d1,S,r1,i1,j1⟩:=n.o.rat (i:=0) rfl;obtain⟨y,A,D,N⟩:=S.cq;obtain⟨s2,a2,l2,c2,t2,b2,k2,d2,T,r2,i2,j2⟩:=n.o.rat (i:=1) rfl;obtain⟨z,x,r,Q⟩:=T.cq;obtain⟨s3,a3,l3,c3,t3,b3,k3,d3,f,r3,i3,j3⟩:=n.o.rat (i:=2) rfl;obtain⟨K,B,R,P⟩:=f.cq;obtain⟨Qp,X,W,U⟩:=f.fq;obtain⟨H3,H4,H6,H9,Qr⟩:=Gb (λ(V:H) (h:Bl W0 V)=>Ew _ q V (r2.below h)) (λ(V:H) (h:Bl W0 V) (v3:L) (g:Jk V v3 ((q.den:Int)))=>Xh _ _ p.num (q.den:Int) V (i1.below h) g (by have h1:=HP.o.num.words;have h2:=HQ.o.den.words;omega)) (λ(V:H) (h:Bl W0 V)=>Ew _ p V (r1.below h)) (λ(V:H) (h:Bl W0 V) (v6:L) (o:Jk V v6 ((p.den:Int)))=>Xh _ _ (p.den:Int) q.num V o (i2.below h) (by have h1:=HP.o.den.words;have h2:=HQ.o.num.words;omega)) λ(V:H) (h:Bl W0 V) (v4:L) (m:Jk V v4 (p.num*(q.den:Int))) (v9:L) (g9:Jk V v9 ((p.den:Int)*q.num))=>(by have h:=LU _ _ (p.num*(q.den:Int)) ((p.den:Int)*q.num) V m g9 (HP.o.cross HQ.o) (HP.o.cross2 HQ.o);rw[Qt.o,UA]at h;exact h);have bg:w.heap.size≠w.heap.size+1+1:=n.o.ne 0 2 rfl rfl DF;have bh:w.heap.size+1≠w.heap.size+1+1:=n.o.ne 1 2 rfl rfl DF;have hq:Bl W0 W0.drew:=(BF _ W0).drew;go_region_held3 (λj=>j.cell? ⟨w.heap.size,0,none⟩=some (E s1)/\j.cell? ⟨w.heap.size,1,none⟩=some (C a1 l1 c1)/\j.cell? ⟨w.heap.size,2,none⟩=some (E t1)/\j.cell? ⟨w.heap.size,3,none⟩=some (C b1 k1 d1)/\j.cell? ⟨w.heap.size+1,0,none⟩=some (E s2)/\j.cell? ⟨w.heap.size+1,1,none⟩=some (C a2 l2 c2)/\j.cell? ⟨w.heap.size+1,2,none⟩=some (E t2)/\j.cell? ⟨w.heap.size+1,3,none⟩=some (C b2 k2 d2)) (first|(with_reducible exact⟨y,A,D,N,z,x,r,Q⟩)|(go_keep;done)|(refine⟨?_,?_,?_,?_,?_,?_,?_,?_⟩<;>((repeat rw[Ya O]);first|assumption|(go_keep;done))))
  (first
   |(go_at_call 70;refine(H3.o _ hq ).mono ?_;clear H3;rintro e w3 ⟨v3,rfl,g,ay⟩;have hq:=Bt hq ay;obtain⟨y,A,D,N⟩:=(S.below hq).cq;obtain⟨z,x,r,Q⟩:=(T.below hq).cq;obtain⟨K,B,R,P⟩:=(f.below hq).cq;obtain⟨Qp,X,W,U⟩:=(f.below hq).fq)
   |(go_at_call 69;refine(H4.o _ hq _ g).mono ?_;clear H4;rintro e w4 ⟨v4,rfl,m,ak⟩;have g:=g.below ak;have hq:=Bt hq ak;obtain⟨y,A,D,N⟩:=(S.below hq).cq;obtain⟨z,x,r,Q⟩:=(T.below hq).cq;obtain⟨K,B,R,P⟩:=(f.below hq).cq;obtain⟨Qp,X,W,U⟩:=(f.below hq).fq)
   |(go_at_call 70;refine(H6.o _ hq ).mono ?_;clear H6;rintro e w6 ⟨v6,rfl,o,ah⟩;have g:=g.below ah;have m:=m.below ah;have hq:=Bt hq ah;obtain⟨y,A,D,N⟩:=(S.below hq).cq;obtain⟨z,x,r,Q⟩:=(T.below hq).cq;obtain⟨K,B,R,P⟩:=(f.below hq).cq;obtain⟨Qp,X,W,U⟩:=(f.below hq).fq)
   |(go_at_call 69;refine(H9.o _ hq _ o).mono ?_;clear H9;rintro e w9 ⟨v9,rfl,g9,ae⟩;have g:=g.below ae;have m:=m.below ae;have o:=o.below ae;have hq:=Bt hq ae;obtain⟨y,A,D,N⟩:=(S.below hq).cq;obtain⟨z,x,r,Q⟩:=(T.below hq).cq;obtain⟨K,B,R,P⟩:=(f.below hq).cq;obtain⟨Qp,X,W,U⟩:=(f.below hq).fq)
   |(go_at_call 28;refine(Qr.o _ hq _ m _ g9).mono ?_;clear Qr;rintro e bj ⟨bi,rfl,aj,ad⟩;obtain⟨bc,ap,ba,aw,bf,aq,az,ax,rfl⟩:=Jh.form aj;have g:=g.below ad;have m:=m.below ad;have o:=o.below ad;have g9:=g9.below ad;have hq:=Bt hq ad;obtain⟨y,A,D,N⟩:=(S.below hq).cq;obtain⟨z,x,r,Q⟩:=(T.below hq).cq;obtain⟨K,B,R,P⟩:=(f.below hq).cq;obtain⟨Qp,X,W,U⟩:=(f.below hq).fq))
 all_goals go_wp2_with fail
 have Qu:=Bt n.o.2.2 hq;have Qs:=n.o.ge 2 rfl;exact BB (v:=.tuple #[F #[E bc,C ap ba aw,E bf,C aq az ax],E bq]) (by simp[results,Tryz.results75,go_sem,K,B,R,P]) rfl ⟨_,rfl,aj.put4 (f.below hq) rfl rfl rfl rfl _ _ _ _,JB Qu Qs _ _ _ _⟩
def Em(p q:Rat):Int:=D4 (p.num*q.den) (q.num*p.den)
theorem LV(va vb:L)(p q:Rat)(w:H)(ha:Jh w va p)(hb:Jh w vb q)(aj:Sq p)(ak:Sq q):
 Calls M 27 #[va,vb] w λe f=>e=.returned (.int .i64 (Em p q))/\Bl w f:=by
 obtain⟨s,a,l,c,t,b,k,d,rfl⟩:=Jh.form ha;obtain⟨s',a',l',c',t',b',k',d',rfl⟩:=Jh.form hb;have M0:=Wx w s t s' t' a b a' b' l c k d l' c' k' d' p q ha hb;obtain⟨W0,ae⟩:=ex ((w.alloc (G #[E s,C a l c,E t,C b k d] 37)).alloc (G #[E s',C a' l' c',E t',C b' k' d'] 37));have Ql:=Ja ae;rw[ae]at M0;have R:Hid (Mem w W0 [some (w.heap.size,.rat p),some (w.heap.size+1,.rat q)]):=Ja M0;obtain⟨n,hn⟩:=ex (Em p q);have HN:=Ja hn;rw[hn];have HP:=Ja aj;have HQ:=Ja ak;clear M0 ha hb ae aj ak hn;go_enter Tryz.func27,Tryz.ntmps27
 go_upto_region 1 with fail
 rw[Ql.o];clear Ql;obtain⟨X,ai⟩:=ex (decide (p.den=1/\q.den=1):Bool);have S:=Ja ai;clear ai;go_cut [10] λc f=>c=E X/\Hid (Mem w f [some (w.heap.size,.rat p),some (w.heap.size+1,.rat q)])
 case first=>
  obtain⟨s1,a1,l1,c1,t1,b1,k1,d1,n1,r1,i1,j1⟩:=R.o.rat (i:=0) rfl;obtain⟨Qp,Qr,Qs,Qt⟩:=n1.cq;obtain⟨s2,a2,l2,c2,t2,b2,k2,d2,n2,r2,i2,j2⟩:=R.o.rat (i:=1) rfl;obtain⟨Qq,Qo,Qn,Qu⟩:=n2.cq;have j:=Ja (Iw _ p W0 r1);have H2:=Ja λ(V:H) (h:Bl W0 V)=>Iw _ q V (r2.below h);by_cases o:p.den=1
  . rw[BJ o]at j;obtain⟨b2,W⟩:=ex (decide (q.den=1));rw[W]at H2;have Qk:=Ja (show b2=X by rw[<-W,<-S.o];exact B0.2 ⟨λh=>⟨o,h⟩,λh=>h.2⟩);clear W o;go_wp2_with(first
     |(go_at_call 68;refine j.o.mono ?_;clear j;rintro e w1 ⟨rfl,N⟩;obtain⟨Qp,Qr,Qs,Qt⟩:=(n1.below N).cq;obtain⟨Qq,Qo,Qn,Qu⟩:=(n2.below N).cq)
     |(go_at_call 68;refine(H2.o _ N).mono ?_;clear H2;rintro e w2 ⟨rfl,W⟩))
    go_meet
    case rel=>exact⟨by rw[Qk.o],Ja ((R.o.below N).below W)⟩
  . rw[BL o]at j;have Qk:=Ja (show X=false by rw[<-S.o];exact BL λh=>o h.1);clear o;go_wp2_with(go_at_call 68;refine j.o.mono ?_;clear j;rintro e w1 ⟨rfl,N⟩)
    go_meet
    case rel=>exact⟨by rw[Qk.o],Ja (R.o.below N)⟩
 obtain⟨rfl,MM⟩:=hcut;have u:Hid (Mem w wc [some (w.heap.size,.rat p),some (w.heap.size+1,.rat q)]):=MM;clear R MM;cases X with
 |true=>
  have Qj:=Be S.o;have HE:=Ja (show D4 p.num q.num=n by rw[<-HN.o];unfold Em;rw[Qj.1,Qj.2];simp);clear Qj S;obtain⟨s3,a3,l3,c3,t3,b3,k3,d3,n3,r3,i3,j3⟩:=u.o.rat (i:=0) rfl;obtain⟨an,ap⟩:=n3.cp;obtain⟨s4,a4,l4,c4,t4,b4,k4,d4,n4,r4,i4,j4⟩:=u.o.rat (i:=1) rfl;obtain⟨aq,aw⟩:=n4.cp;have j:=Ja (IQ _ _ p.num q.num wc i3 i4);rw[HE.o]at j;go_wp2_with(go_at_call 64;refine j.o.mono ?_;clear j;rintro e w1 ⟨rfl,hq⟩)
  go_ret;exact⟨rfl,Bt u.o.2.2 hq⟩
 |false=>
  clear S;go_upto_region 3 with fail
  obtain⟨s5,a5,l5,c5,t5,b5,k5,d5,P,r5,i5,j5⟩:=u.o.rat (i:=0) rfl;obtain⟨K,v,y,A⟩:=P.cq;obtain⟨s6,a6,l6,c6,t6,b6,k6,d6,Q,r6,i6,j6⟩:=u.o.rat (i:=1) rfl;obtain⟨z,D,x,B⟩:=Q.cq;obtain⟨H3,H4,H8,H9,Qm⟩:=Gb (λ(V:H) (h:Bl wc V)=>Ew _ q V (r6.below h)) (λ(V:H) (h:Bl wc V) (v3:L) (g:Jk V v3 ((q.den:Int)))=>Xh _ _ p.num (q.den:Int) V (i5.below h) g (by have o:=HP.o.num.words;have h2:=HQ.o.den.words;omega)) (λ(V:H) (h:Bl wc V)=>Ew _ p V (r5.below h)) (λ(V:H) (h:Bl wc V) (v8:L) (r:Jk V v8 ((p.den:Int)))=>Xh _ _ q.num (p.den:Int) V (i6.below h) r (by have o:=HQ.o.num.words;have h2:=HP.o.den.words;omega)) λ(V:H) (h:Bl wc V) (v4:L) (m:Jk V v4 (p.num*(q.den:Int))) (v9:L) (T:Jk V v9 (q.num*(p.den:Int)))=>(by have h:=IQ _ _ (p.num*(q.den:Int)) (q.num*(p.den:Int)) V m T;rw[show D4 (p.num*(q.den:Int)) (q.num*(p.den:Int))=n from HN.o]at h;exact h);have hq:Bl wc wc.drew:=(BF _ wc).drew;go_region_held3 (λf=>f.cell? ⟨w.heap.size,0,none⟩=some (E s5)/\f.cell? ⟨w.heap.size,1,none⟩=some (C a5 l5 c5)/\f.cell? ⟨w.heap.size,2,none⟩=some (E t5)/\f.cell? ⟨w.heap.size,3,none⟩=some (C b5 k5 d5)/\f.cell? ⟨w.heap.size+1,0,none⟩=some (E s6)/\f.cell? ⟨w.heap.size+1,1,none⟩=some (C a6 l6 c6)/\f.cell? ⟨w.heap.size+1,2,none⟩=some (E t6)/\f.cell? ⟨w.heap.size+1,3,none⟩=some (C b6 k6 d6)) (first|(with_reducible exact⟨K,v,y,A,z,D,x,B⟩)|(go_keep;done)|(refine⟨?_,?_,?_,?_,?_,?_,?_,?_⟩<;>((repeat rw[Ya O]);first|assumption|(go_keep;done))))
   (first
    |(go_at_call 70;refine(H3.o _ hq ).mono ?_;clear H3;rintro e w3 ⟨v3,rfl,g,am⟩;have hq:=Bt hq am;obtain⟨K,v,y,A⟩:=(P.below hq).cq;obtain⟨z,D,x,B⟩:=(Q.below hq).cq)
    |(go_at_call 69;refine(H4.o _ hq _ g).mono ?_;clear H4;rintro e w4 ⟨v4,rfl,m,ah⟩;have g:=g.below ah;have hq:=Bt hq ah;obtain⟨K,v,y,A⟩:=(P.below hq).cq;obtain⟨z,D,x,B⟩:=(Q.below hq).cq)
    |(go_at_call 70;refine(H8.o _ hq ).mono ?_;clear H8;rintro e w8 ⟨v8,rfl,r,af⟩;have g:=g.below af;have m:=m.below af;have hq:=Bt hq af;obtain⟨K,v,y,A⟩:=(P.below hq).cq;obtain⟨z,D,x,B⟩:=(Q.below hq).cq)
    |(go_at_call 69;refine(H9.o _ hq _ r).mono ?_;clear H9;rintro e w9 ⟨v9,rfl,T,ad⟩;have g:=g.below ad;have m:=m.below ad;have r:=r.below ad;have hq:=Bt hq ad;obtain⟨K,v,y,A⟩:=(P.below hq).cq;obtain⟨z,D,x,B⟩:=(Q.below hq).cq)
    |(go_at_call 64;refine(Qm.o _ hq _ m _ T).mono ?_;clear Qm;rintro e ax ⟨rfl,U⟩;have g:=g.below U;have m:=m.below U;have r:=r.below U;have T:=T.below U;have hq:=Bt hq U;obtain⟨K,v,y,A⟩:=(P.below hq).cq;obtain⟨z,D,x,B⟩:=(Q.below hq).cq))
  all_goals go_wp2_with fail
  go_ret;exact⟨rfl,Bt u.o.2.2 hq⟩
theorem LW(va vb:L)(p q:Rat)(w:H)(S:Jh w va p)(T:Jh w vb q)(ad:Sq p)(ae:Sq q):
 Calls M 26 #[va,vb] w λe f=>∃u,e=.returned u/\Jh f u (p-q)/\Bl w f:=by
 obtain⟨s,a,l,c,t,b,k,d,rfl⟩:=Jh.form S;obtain⟨s',a',l',c',t',b',k',d',rfl⟩:=Jh.form T;have n:=LR w s t s' t' a b a' b' l c k d l' c' k' d' p q S T;obtain⟨W0,R⟩:=ex (((w.alloc (G #[E s,C a l c,E t,C b k d] 37)).alloc (G #[E s',C a' l' c',E t',C b' k' d'] 37)).alloc (G #[E false,C none 0 0,E false,C none 0 0] 37));have Qo:=Ja R;rw[R]at n;have j:Hid (Mem w W0 [some (w.heap.size,.rat p),some (w.heap.size+1,.rat q),some (w.heap.size+1+1,.rat 0)]):=Ja n;have HP:=Ja ad;have HQ:=Ja ae;clear n S T R ad ae;go_enter Tryz.func26,Tryz.ntmps26
 go_upto_region 1 with fail
 rw[Qo.o];clear Qo;obtain⟨s1,a1,l1,c1,t1,b1,k1,d1,U,r1,i1,j1⟩:=j.o.rat (i:=0) rfl;obtain⟨x,z,B,K⟩:=U.cq;obtain⟨s2,a2,l2,c2,t2,b2,k2,d2,W,r2,i2,j2⟩:=j.o.rat (i:=1) rfl;obtain⟨y,r,o,P⟩:=W.cq;obtain⟨s3,a3,l3,c3,t3,b3,k3,d3,m,r3,i3,j3⟩:=j.o.rat (i:=2) rfl;obtain⟨D,A,Q,N⟩:=m.cq;obtain⟨Qq,Qp,Qn,Qm⟩:=m.fq;have X:=Ja λ(V:H) (h:Bl W0 V)=>P4 _ _ 0 q.num V (XW _) (i2.below h) (by have:=Sok.zero.words;omega) (by have:=HQ.o.num.words;omega);have H2:=Ja (λ(V:H) (h:Bl W0 V) (s:Bool) (a:Option Addr) (l c:Nat) (g:Jk V (F #[E s,C a l c]) (0-q.num))=>show Calls M 34 #[F #[E s1,C a1 l1 c1,E t1,C b1 k1 d1],F #[E s,C a l c,E t2,C b2 k2 d2]] V λe f=>∃u,e=.returned u/\Jh f u (p-q)/\Bl V f by
  have h1:=LT _ _ p (-q) V (r1.below h) (Jh.mk (q:=-q) (by rw[Rat.neg_num,<-Int.zero_sub];exact g) (j2.below h)) HP.o HQ.o.neg;rw[<-Rat.sub_eq_add_neg]at h1;exact h1)
 have bf:w.heap.size≠w.heap.size+1+1:=j.o.ne 0 2 rfl rfl DF;have bg:w.heap.size+1≠w.heap.size+1+1:=j.o.ne 1 2 rfl rfl DF;have hq:Bl W0 W0.drew:=(BF _ W0).drew;go_region_held3 (λf=>f.cell? ⟨w.heap.size,0,none⟩=some (E s1)/\f.cell? ⟨w.heap.size,1,none⟩=some (C a1 l1 c1)/\f.cell? ⟨w.heap.size,2,none⟩=some (E t1)/\f.cell? ⟨w.heap.size,3,none⟩=some (C b1 k1 d1)/\f.cell? ⟨w.heap.size+1,0,none⟩=some (E s2)/\f.cell? ⟨w.heap.size+1,1,none⟩=some (C a2 l2 c2)/\f.cell? ⟨w.heap.size+1,2,none⟩=some (E t2)/\f.cell? ⟨w.heap.size+1,3,none⟩=some (C b2 k2 d2)) (first|(with_reducible exact⟨x,z,B,K,y,r,o,P⟩)|(go_keep;done)|(refine⟨?_,?_,?_,?_,?_,?_,?_,?_⟩<;>((repeat rw[Ya O]);first|assumption|(go_keep;done))))
  (first
   |(go_at_call 67;refine(X.o _ hq).mono ?_;clear X;rintro e w1 ⟨u1,rfl,af,an⟩;obtain⟨bh,az,bc,ba,rfl⟩:=Jk.form2 af;have hq:=Bt hq an;obtain⟨x,z,B,K⟩:=(U.below hq).cq;obtain⟨y,r,o,P⟩:=(W.below hq).cq;obtain⟨D,A,Q,N⟩:=(m.below hq).cq;obtain⟨Qq,Qp,Qn,Qm⟩:=(m.below hq).fq)
   |(go_at_call 34;refine(H2.o _ hq _ _ _ _ af).mono ?_;clear H2;rintro e w2 ⟨u2,rfl,ah,ap⟩;obtain⟨ax,ai,aw,ak,ay,aj,aq,am,rfl⟩:=Jh.form ah;have hq:=Bt hq ap;obtain⟨x,z,B,K⟩:=(U.below hq).cq;obtain⟨y,r,o,P⟩:=(W.below hq).cq;obtain⟨D,A,Q,N⟩:=(m.below hq).cq;obtain⟨Qq,Qp,Qn,Qm⟩:=(m.below hq).fq))
 all_goals go_wp2_with fail
 have Qs:=Bt j.o.2.2 hq;have Qr:=j.o.ge 2 rfl;exact BB (v:=F #[E ax,C ai aw ak,E ay,C aj aq am]) (by simp[results,Tryz.results26,go_sem,D,A,Q,N]) rfl ⟨_,rfl,ah.put4 (m.below hq) rfl rfl rfl rfl _ _ _ _,JB Qs Qr _ _ _ _⟩
theorem XX(q:Rat):Em q 0=0↔q=0:=by
 rw[Rat.eq_iff_mul_eq_mul];unfold Em D4;split<;>(try split)<;>omega
theorem Hi:Sq 0:=Sq.of (k:=1) ⟨Sm.zero _,Sm.one _ O⟩ O
theorem Y2(v:L)(q:Rat)(w:H)(h:Jh w v q)(hq:Sq q):
 Calls M 93 #[v] w λe r=>e=.returned (E (decide (q=0)))/\Bl w r:=by
 obtain⟨s,a,l,c,t,b,k,d,rfl⟩:=h.form;have b0:=JM.new w 37 (E s) (C a l c) (E t) (C b k d);have f:Bl w (w.alloc (G #[E s,C a l c,E t,C b k d] 37)):=Ba w _;obtain⟨W0,g⟩:=ex (w.alloc (G #[E s,C a l c,E t,C b k d] 37));rw[g]at b0 f;have o:=Ja g;have i:=Ja (LV _ _ q 0 W0 (h.below f) (XY _) hq Hi);obtain⟨u,x,y,z⟩:=b0.cq;have j:=Ja (XX q);obtain⟨n,m⟩:=ex (Em q 0);rw[m]at i j;clear g m;go_enter Tryz.func93,Tryz.ntmps93
 go_upto_region 1 with fail
 rw[o.o];go_wp2_with(go_at_call 27;refine i.o.mono ?_;rintro e A ⟨rfl,p⟩)
 go_ret;refine⟨?_,Bt f p⟩;show Ending.returned (Value.bool (n==0))=_;have e:(n==0)=decide (q=0):=by rw[Fc];simp[j.o]
 rw[e]
def ZA(c:Nat)(a:Option Addr)(len cap:Nat)(x y z u:Nat->L)(k:Nat)(W:H):Prop:=
 W.cell? ⟨c,0,none⟩=some (C a len cap)/\(k<len->∃b,a=some ⟨b,0,none⟩/\W.cell? ⟨b,(len-1-k)*4,none⟩=some (x (len-1-k))/\W.cell? ⟨b,(len-1-k)*4+1,none⟩=some (y (len-1-k))/\
  W.cell? ⟨b,(len-1-k)*4+2,none⟩=some (z (len-1-k))/\W.cell? ⟨b,(len-1-k)*4+3,none⟩=some (u (len-1-k)))
def Iz(len:Nat)(x y z u:Nat->L)(k:Nat):Array L:=#[.int .i64 ((len:Int)-1-k),F #[x (len-1-k),y (len-1-k),z (len-1-k),u (len-1-k)]]
theorem LX(F:Fence)(n:Nat)(D:F.fn 170)(K:F.round=none)(hn:1<=n)(f:Nat)(a:Option Addr)(len cap:Nat)(x y z u:Nat->L)(ad:len<=1099511627776):
 K7 F n M 170 #[I (some ⟨f,0,none⟩)] len (Iz len x y z u) (ZA f a len cap x y z u):=λl J N W o A j=>by
 have S:=(o 0 W j).1;refine Br Tryz.func170 rfl D ?_ K;simp only[Tryz.ntmps170,As,Af,Ay,Nat.reduceAdd,Nat.reduceSub,Av,Aw,AG,AC,Ar,Au];gi_wp2;gi_loopw [3] (λi wr=>∃k:Nat,k<=len/\i=.int .i64 ((len:Int)-1-k)/\J k wr) λi _=>(intOf i+1).toNat
 case atStart=>exact⟨0,AO _,Z,j⟩
 case round=>
  obtain⟨k,hk,rfl,c⟩:=hrel;obtain⟨R,B⟩:=o k wr c;by_cases d:k<len
  . obtain⟨b,rfl,T,V,X,U⟩:=B d;obtain⟨fn,tmps,assign,body,r,w⟩:=A k wr c d;have g:((len:Int)-1-k)=((len-1-k:Nat):Int):=O
    have Q:len-1-k<len:=O
    dsimp only[Iz]at r;rw[g]at r ⊢;generalize q:len-1-k=m at *;have s:=Hid.o (p:=Hid (len-1-k=m)) q;clear q g;gi_wp2;refine w.mono ?_;rintro e P (⟨rfl,t⟩|⟨rfl,v⟩)
    . gi_wp2;go_roundw
      case rel=>exact⟨k+1,O,by(congr 1;have:=s.o;omega),t⟩
      case measure=>simp[intOf]
    . gi_wp2;refine BB (results_none rfl _ _ _) rfl ?_;exact⟨⟨_,rfl⟩,.inr ⟨k,d,v⟩⟩
  . obtain rfl:k=len:=O
    gi_wp2;go_end0;exact⟨⟨_,rfl⟩,.inl c⟩
theorem LY(F:Fence)(n:Nat)(b:F.fn 130)(c:F.round=none)(a:Option Addr)(len cap:Nat)(w:H):
 CallsIn F n M 130 #[C a len cap] w λe d=>e=.returned (.func (.func 170) #[] #[I (some ⟨w.heap.size,0,none⟩)])/\d=w.alloc (G #[C a len cap] 23):=by
 refine Br Tryz.func130 rfl b ?_ c;simp only[Tryz.ntmps130,As,Af,Ay,Nat.reduceAdd,Nat.reduceSub,Av,Aw,AG,AC,Ar,Au];gi_wp2;go_ret;exact⟨rfl,rfl⟩
def QE:L->Bool|E b=>b|_=>false
def QF:L->Option Addr|C a _ _=>a|_=>none
def QG:L->Nat|C _ _ c=>c|_=>0
theorem RowK.pick{r:Bool}(h:RowK r W (C a l cap) qs):l=qs.length/\l<=cap/\cap<=9223372036854775807/\l<=1099511627776/\∃x y z u:Nat->L,∀j,j<l->D9 r W (F #[x j,y j,z j,u j]) (cf qs j)/\
 ∃b,a=some ⟨b,0,none⟩/\b<W.heap.size/\W.cell? ⟨b,j*4,none⟩=some (x j)/\W.cell? ⟨b,j*4+1,none⟩=some (y j)/\W.cell? ⟨b,j*4+2,none⟩=some (z j)/\W.cell? ⟨b,j*4+3,none⟩=some (u j):=by
 obtain⟨a',s,e,o,p,d,f⟩:=h;cases e;refine⟨rfl,o,p,d,?_⟩;rcases f with f|⟨b,n,q⟩
 . exact⟨λ_=>undef,λ_=>undef,λ_=>undef,λ_=>undef,λj c=>by rw[f]at c;simp at c⟩
 . obtain⟨cs,c1,c2⟩:=q;refine⟨λj=>cs[j*4]?.getD undef,λj=>cs[j*4+1]?.getD undef,λj=>cs[j*4+2]?.getD undef,λj=>cs[j*4+3]?.getD undef,λj c=>?_⟩;obtain⟨x,y,z,u,g,i,k,m,d⟩:=c2 j c;dsimp only;rw[g,i,k,m];exact⟨d,b,n,(Ab.1 c1).1,cell_of c1 g,cell_of c1 i,cell_of c1 k,cell_of c1 m⟩
theorem RowK.forms(h:RowK true W (C a l cap) qs):l=qs.length/\l<=cap/\cap<=9223372036854775807/\l<=1099511627776/\∃(s t:Nat->Bool) (k m:Nat->Option Addr) (ll n o dd:Nat->Nat),∀j,j<l->Jh W (F #[E (s j),C (k j) (ll j) (n j),E (t j),C (m j) (o j) (dd j)]) (cf qs j)/\
 ∃b,a=some ⟨b,0,none⟩/\b<W.heap.size/\W.cell? ⟨b,j*4,none⟩=some (E (s j))/\W.cell? ⟨b,j*4+1,none⟩=some (C (k j) (ll j) (n j))/\W.cell? ⟨b,j*4+2,none⟩=some (E (t j))/\W.cell? ⟨b,j*4+3,none⟩=some (C (m j) (o j) (dd j)):=by
 obtain⟨q,r,v,w,x,y,z,u,B⟩:=h.pick;refine⟨q,r,v,w,λj=>QE (x j),λj=>QE (z j),λj=>QF (y j),λj=>QF (u j),λj=>PG (y j),λj=>QG (y j),λj=>PG (u j),λj=>QG (u j),λj D=>?_⟩;obtain⟨i,b,p,A,c0,c1,c2,c3⟩:=B j D;obtain⟨s,a',l',c',t,K,P,N,e,_⟩:=(show Jh W _ _ from i);simp only[Value.agg.injEq,Array.mk.injEq,List.cons.injEq,and_true]at e;obtain⟨c,d,f,g⟩:=e;rw[c,d,f,g]at i;rw[c]at c0;rw[d]at c1;rw[f]at c2;rw[g]at c3;dsimp only;rw[c,d,f,g];exact⟨i,b,p,A,c0,c1,c2,c3⟩
def QH(w:H)(a:Option Addr)(len cap:Nat)(qs:List Rat)(k:Nat)(W:H):Prop:=
 ((((Boxed W w.heap.size 23 (C a len cap)/\Boxed W (w.heap.size+1) 128 (.func (.func 93) #[] #[]))/\Boxed W (w.heap.size+1+1) 23 (C none 0 0))/\Boxed W (w.heap.size+1+1+1) 23 (C a len cap))/\Bl w W)/\∀j,len-k<=j->j<len->cf qs j=0
def QI(w:H)(a:Option Addr)(len cap:Nat)(qs:List Rat)(c:Code)(k:Nat)(W:H):Prop:=
 (Boxed W (w.heap.size+1+1) 23 (C a (len-1-k+1) cap)/\Bl w W)/\(c=.ret/\cf qs (len-1-k)≠0/\∀j,len-k<=j->j<len->cf qs j=0)
theorem ZB(w:H)(a:Option Addr)(len cap:Nat)(qs:List Rat):OwnFrom (w.heap.size+1+1+1+1) (QH w a len cap qs):=
 BP (BP (BP (BP (BP (Bi (boxed_own _ _ λ_=>C a len cap) _) (Bi (boxed_own _ _ λ_=>.func (.func 93) #[] #[]) _)) (Bi (boxed_own _ _ λ_=>C none 0 0) _)) (Bi (boxed_own _ _ λ_=>C a len cap) _)) (B7 (Aa _) O)) (DE _ _)
theorem ZC(w:H)(a:Option Addr)(len cap:Nat)(qs:List Rat)(c:Code):OwnFrom (w.heap.size+1+1+1+1) (QI w a len cap qs c):=
 BP (BP (Bi (boxed_own _ _ λk=>C a (len-1-k+1) cap) _) (B7 (Aa _) O)) (DE _ _)
theorem ZD(a:Option Addr)(len cap:Nat)(qs:List Rat)(w:H)(h:RowK true w (C a len cap) qs)(hs:Sqs qs):
 Calls M 92 #[C a len cap,.func (.func 93) #[] #[]] w λe y=>∃u,e=.returned u/\(RowK true y u (Jd qs)/\Bl w y)/\(u=C none 0 0/\Jd qs=[]\/u=C a (Jd qs).length cap):=by
 obtain⟨hl,ai,aj,af,s,t,B,N,ll,P,S,dd,hc⟩:=h.forms;obtain⟨HL,HC,HS⟩:=Db hl hc hs;clear hc hl hs;refine(BH (n:=3)).1 ?_;refine BN Tryz.func92 rfl trivial ?_ rfl;simp only[Tryz.ntmps92,As,Af,Ay,Nat.reduceAdd,Nat.reduceSub,Av,Aw,AG,AC,Ar,Au];gi_wp2_with(refine⟨trivial,?_⟩;gi_at_call 130;refine(LY Fence.wide _ trivial rfl _ _ _ _).mono ?_;rintro e y ⟨rfl,rfl⟩)
 have b0:=(((BG w 23 (C a len cap)).alloc (G #[.func (.func 93) #[] #[]] 128)).alloc (G #[C none 0 0] 23)).alloc (G #[C a len cap] 23);have b1:=((BG (w.alloc (G #[C a len cap] 23)) 128 (.func (.func 93) #[] #[])).alloc (G #[C none 0 0] 23)).alloc (G #[C a len cap] 23);have b2:=(BG ((w.alloc (G #[C a len cap] 23)).alloc (G #[.func (.func 93) #[] #[]] 128)) 23 (C none 0 0)).alloc (G #[C a len cap] 23);have b3:=BG (((w.alloc (G #[C a len cap] 23)).alloc (G #[.func (.func 93) #[] #[]] 128)).alloc (G #[C none 0 0] 23)) 23 (C a len cap);simp only[Ax]at b1 b2 b3;have Qd:Bl w ((((w.alloc (G #[C a len cap] 23)).alloc (G #[.func (.func 93) #[] #[]] 128)).alloc (G #[C none 0 0] 23)).alloc (G #[C a len cap] 23)):=(((Ba w _).alloc Z _).alloc si _).alloc si _;have hN:((((w.alloc (G #[C a len cap] 23)).alloc (G #[.func (.func 93) #[] #[]] 128)).alloc (G #[C none 0 0] 23)).alloc (G #[C a len cap] 23)).heap.size=w.heap.size+1+1+1+1:=Z
 refine PK rfl O (gf:=170) (lb:=#[I (some ⟨w.heap.size+1+1+1,0,none⟩)]) rfl trivial (Bg Tryz.func170 (by kernel_rfl) rfl)
  (LX Fence.wide _ trivial rfl O (w.heap.size+1+1+1) a len cap (λj=>E (s j)) (λj=>C (B j) (ll j) (P j)) (λj=>E (t j)) (λj=>C (N j) (S j) (dd j)) af) (λ_=>rfl)
  (QH w a len cap qs) (QI w a len cap qs) (by rw[hN];exact ZB w a len cap qs) (λc=>by rw[hN];exact ZC w a len cap qs c)
  ⟨⟨⟨⟨⟨b0,b1⟩,b2⟩,b3⟩,Qd⟩,λj v Q=>by omega⟩ ?rd
  (λk b=>{ tmps:=#[C a len cap,.func (.func 93) #[] #[],I (some ⟨w.heap.size,0,none⟩),I (some ⟨w.heap.size+1,0,none⟩),I (some ⟨w.heap.size+1+1,0,none⟩),.int .i64 ((len:Int)-1-k),I (some ⟨b,0,none⟩),C a len cap,.func (.func 170) #[] #[I (some ⟨w.heap.size+1+1+1,0,none⟩)],.int .i64 ((len:Int)-1-k),F #[E (s (len-1-k)),C (B (len-1-k)) (ll (len-1-k)) (P (len-1-k)),E (t (len-1-k)),C (N (len-1-k)) (S (len-1-k)) (dd (len-1-k))],undef,undef,undef,undef,undef,undef,undef,undef],defers:=[] })
  (λk=>G #[E (s (len-1-k)),C (B (len-1-k)) (ll (len-1-k)) (P (len-1-k)),E (t (len-1-k)),C (N (len-1-k)) (S (len-1-k)) (dd (len-1-k))] 37 (0,0)) ?assign ?body ?done ?stop
 case rd=>
  rintro k W ⟨⟨⟨_,c3⟩,f⟩,_⟩;refine⟨c3.cell,λhk=>?_⟩;obtain⟨_,b,ea,R,v,Q,h3,h4⟩:=HC.o (len-1-k) O;exact⟨b,ea,(f.cell (p:=⟨b,_,none⟩) R).trans v,(f.cell (p:=⟨b,_,none⟩) R).trans Q,(f.cell (p:=⟨b,_,none⟩) R).trans h3,(f.cell (p:=⟨b,_,none⟩) R).trans h4⟩
 case assign=>
  intro l k W K i;unfold Iz;gi_wp2;exact i
 case body=>
  rintro l k b W ⟨⟨⟨⟨⟨c0,c1⟩,c2⟩,c3⟩,f⟩,o⟩ hk am ah X;have hm:len-1-k<len:=O
  obtain⟨hi,_⟩:=HC.o (len-1-k) hm;have HI:=Ja (Jh.below hi f);have r:=Ja o;have e1:((len:Int)-1-k)=((len-1-k:Nat):Int):=O
  rw[e1];clear e1 o hi;obtain⟨m,ad⟩:=ex (len-1-k);have T:=Ja ad;rw[ad]at X HI hm ⊢;clear ad;have q0:JM W b 37 (E (s m)) (C (B m) (ll m) (P m)) (E (t m)) (C (N m) (S m) (dd m)):=X;obtain⟨k0,k1,k2,k3⟩:=q0.cq;have d0:=c0.cell;have d1:=c1.cell;have d2:=c2.cell;have f2:=c2.frozen;clear q0 X;have z:=Ja (Bf l ((BH (n:=3-1-1-1)).2 (Y2 _ _ W HI.o (HS.o.at m))));by_cases g:cf qs m=0
  . have U:=Ja g;rw[show decide (cf qs m=0)=true from BJ g]at z;clear g;gi_wp2_with(refine⟨trivial,?_⟩;gi_at_call 93;refine z.o.mono ?_;rintro e y ⟨rfl,d⟩)
    refine⟨(XB d).from _,⟨⟨⟨⟨boxed_below c0 d,boxed_below c1 d⟩,boxed_below c2 d⟩,boxed_below c3 d⟩,Bt f d⟩,λj v Q=>?_⟩;by_cases x:j=m
    . rw[x];exact U.o
    . have:=T.o;exact r.o j O Q
  . have U:=Ja g;rw[show decide (cf qs m=0)=false from BL g]at z;clear g;gi_wp2_with(refine⟨trivial,?_⟩;gi_at_call 93;refine z.o.mono ?_;rintro e y ⟨rfl,d⟩;have d0:=(boxed_below c0 d).cell;have d2:=(boxed_below c2 d).cell;have f2:=(boxed_below c2 d).frozen)
    have ae:=Bt f d;refine⟨((XB d).trans (BI _ _ _)).from _,⟨?_,ae.setCell (p:=⟨w.heap.size+1+1,0,none⟩) si _⟩,rfl,by rw[T.o];exact U.o,r.o⟩;rw[T.o];exact(boxed_below c2 d).set _
 case done=>
  rintro D W hD ⟨⟨⟨⟨⟨c0,c1⟩,c2⟩,c3⟩,f⟩,o⟩ i;have d1:=c2.cell;have f1:=c2.frozen;have r:=Ja o;clear o;gi_wp2;have A:(W.setCell ⟨w.heap.size+1+1,0,none⟩ (C none 0 0)).heap[D]?=some (.deferred (some [])):=(BI W ⟨w.heap.size+1+1,0,none⟩ (C none 0 0)).same D _ i rfl;refine⟨Z,.inl ⟨_,_,rfl,BR A,?_⟩⟩;have V:=(c2.set (C none 0 0)).kept (BU _ D (.deferred none)) (λe=>by cases e;rw[show(W.setCell ⟨w.heap.size+1+1,0,none⟩ (C none 0 0)).heap[w.heap.size+1+1]?=_ from c2.set (C none 0 0)]at A;cases A);have q:=V.cell;have e0:Jd qs=[]:=MR λj=>by
   rcases A6 j len with x|x
   . exact r.o j O x
   . exact Ye (by have:=HL.o;omega)
  refine⟨C none 0 0,by simp[results,Tryz.results92,go_sem,q],_,rfl,⟨?_,?_⟩,Or.inl ⟨rfl,e0⟩⟩
  . rw[e0];exact RowK.nil _ _
  . exact(f.setCell (p:=⟨w.heap.size+1+1,0,none⟩) si _).trans (Bz (w:=w) (Aa _) _ D _ _ (by simp at hD;omega) A rfl rfl)
 case stop=>
  rintro D c k W hD hk ⟨⟨c1,f⟩,rfl,g,o⟩ i;have d1:=c1.cell;have r:=Ja (show cf qs (len-1-k)≠0/\∀j,len-k<=j->j<len->cf qs j=0 from⟨g,o⟩);clear o g;gi_wp2;refine⟨Z,.inl ⟨_,_,rfl,BR i,?_⟩⟩;have V:=c1.kept (BU _ D (.deferred none)) (λe=>by cases e;rw[show W.heap[w.heap.size+1+1]?=_ from c1]at i;cases i);have q:=V.cell;have Qc:Bl w (W.putObj D (.deferred none)):=f.trans (Bz (w:=w) (Aa _) _ D _ _ (by simp at hD;omega) i rfl rfl);have ak:=HL.o;have e:Jd qs=qs.take (len-1-k+1):=by
   refine Ss O (Or.inr r.o.1) λj x=>?_;rcases A6 j len with v|v
   . exact r.o.2 j O v
   . exact Ye O
  have el:(qs.take (len-1-k+1)).length=len-1-k+1:=by rw[Al];omega
  refine⟨C a (len-1-k+1) cap,by simp[results,Tryz.results92,go_sem,q],_,rfl,⟨?_,Qc⟩,Or.inr (by rw[e,el])⟩;rw[e];exact(h.below Qc).take O
def Kd(N:Nat)(v:L):Prop:=∀a l c,v=C (some a) l c->N<=a.block
def LZ(N:Nat)(v:L):Prop:=∀a l c,v=F #[C (some a) l c]->N<=a.block
theorem Eo{B:Nat}{c:Nat}(b:Boxed W B 25 (C a l c))(x:L){v:L}(h:RowK true W v qs):RowK true (W.setCell ⟨B,0,none⟩ x) v qs:=
 M3.IW (cs:=#[C a l c]) b (o:=0) rfl rfl true DF x v qs h
theorem Gt(v:L)(qs:List Rat)(w:H)(h:RowK true w v qs)(k:Sqs qs):
 Calls M 39 #[v] w λe q=>∃u,e=.returned u/\Je q u (Jd qs)/\(∀N,Kd N v->LZ N u)/\Bl w q:=by
 obtain⟨a,l,c,rfl⟩:=h.form;have b0:=BG w 25 (C none 0 0);have b:Bl w (w.alloc (G #[C none 0 0] 25)):=Ba w _;obtain⟨W0,g⟩:=ex (w.alloc (G #[C none 0 0] 25));rw[g]at b0 b;have s:=Ja g;have i:=Ja (ZD a l c qs W0 (h.below b) k);have o:=b0.cell;have f0:=b0.frozen;clear g h k;go_enter Tryz.func39,Tryz.ntmps39
 go_upto_region 1 with fail
 rw[s.o];go_wp2_with(go_at_call 92;refine i.o.mono ?_;clear i;rintro e A ⟨u,rfl,⟨n,j⟩,m⟩;obtain⟨x,z,y,rfl⟩:=n.form;have d:=boxed_below b0 j;have o:=d.cell;have f0:=d.frozen;have r:=Ja m;clear m)
 refine BB (v:=F #[C x z y]) (by simp[results,Tryz.results39,go_sem,o]) rfl ⟨_,rfl,⟨_,rfl,Eo d _ n⟩,?_,(Bt b j).setCell (p:=⟨w.heap.size,0,none⟩) (Aa _) _⟩;intro N t a' l' c' e;simp only[Value.agg.injEq,Array.mk.injEq,List.cons.injEq,and_true]at e;rcases r.o with⟨f,_⟩|f
 . rw[f]at e;cases e
 . rw[f]at e;cases e;exact t _ _ _ rfl
theorem JX(v:L)(ps:List Rat)(w:H)(h:Je w v ps):
 Calls M 30 #[v] w λe c=>e=.returned (.int .i64 ((ps.length:Int)-1))/\Bl w c:=by
 obtain⟨u,rfl,b⟩:=h;obtain⟨a,cap,rfl,d,f,g,_⟩:=b.open;clear b;generalize ps.length=n at *;go_enter Tryz.func30,Tryz.ntmps30
 go_wp2;go_ret;exact⟨rfl,Ba _ _⟩
theorem Na(v:L)(qs:List Rat)(i:Int)(w:H)(h:RowK true w v qs):
 Calls M 129 #[v,.int .i64 i] w λe n=>∃u,e=.returned u/\Jh n u (if i<0 then 0 else cf qs i.toNat)/\Bl w n:=by
 obtain⟨a,l,c,rfl⟩:=h.form;obtain⟨hl,R,S,T,s,t,x,z,ll,A,K,dd,g⟩:=h.forms;have p:=Ja hl;have d:=Ja g;clear hl g h;by_cases f:i<0
 . rw[BC f];go_enter Tryz.func129,Tryz.ntmps129
   go_wp2;exact BB (v:=F #[E false,C none 0 0,E false,C none 0 0]) (by simp[results,Tryz.results129,go_sem]) rfl ⟨_,rfl,XY _,(Ba w _).alloc Z _⟩
 . rw[BA f];by_cases B:(l:Int)<=i
   . have q:=Ja (show cf qs i.toNat=0 from Ye (by have:=p.o;omega));rw[q.o];go_enter Tryz.func129,Tryz.ntmps129
     go_wp2;exact BB (v:=F #[E false,C none 0 0,E false,C none 0 0]) (by simp[results,Tryz.results129,go_sem]) rfl ⟨_,rfl,XY _,(Ba w _).alloc Z _⟩
   . obtain⟨m,rfl⟩:∃m:Nat,i=(m:Int):=⟨i.toNat,O⟩;have D:m<l:=O
     obtain⟨j,b,rfl,Q,U,k,V,W⟩:=d.o m D;have o:=Ja j;rw[CT];clear d j B;generalize s m=N at *;generalize t m=P at *;generalize x m=r at *;generalize z m=y at *;generalize ll m=l1 at *;generalize A m=c1 at *;generalize K m=k at *;generalize dd m=d1 at *;go_enter Tryz.func129,Tryz.ntmps129
     go_wp2;exact BB (v:=F #[E N,C r l1 c1,E P,C y k d1]) (by simp[results,Tryz.results129,go_sem]) rfl ⟨_,rfl,o.o.below (Ba w _),Ba w _⟩
theorem Tryz.infoRat:(Tryz.prog.info? 37).map (λi=>(i.zero,i.size,i.bytes))=some (some (F #[E false,C none 0 0,E false,C none 0 0]),4,64):=by kernel_rfl
def Yb(n:Nat):Array L:=madeCells #[E false,C none 0 0,E false,C none 0 0] (n*4)
theorem La{n j:Nat}(b:j<n):(Yb n)[j*4]?=some (E false)/\(Yb n)[j*4+1]?=some (C none 0 0)/\(Yb n)[j*4+2]?=some (E false)/\(Yb n)[j*4+3]?=some (C none 0 0):=by
 unfold Yb madeCells;have h:∀k,k<n*4->((Array.range (n*4)).map λi=>(#[Value.bool false,Value.slice none 0 0,Value.bool false,Value.slice none 0 0]:Array L)[i%4]!)[k]?=some ((#[Value.bool false,Value.slice none 0 0,Value.bool false,Value.slice none 0 0]:Array L)[k%4]!):=λk a=>by
  rw[Array.getElem?_map,Array.getElem?_range];simp[a]
 refine⟨(h _ O).trans ?_,(h _ O).trans ?_,(h _ O).trans ?_,(h _ O).trans ?_⟩
 . rw[show j*4%4=0 from by omega];rfl
 . rw[show(j*4+1)%4=1 from by omega];rfl
 . rw[show(j*4+2)%4=2 from by omega];rfl
 . rw[show(j*4+3)%4=3 from by omega];rfl
theorem I0(n:Nat)(h:n<=2199023255552)(w:H):(Instr.makeSlice 23 (.int .i64 (n:Int)) (.int .i64 (n:Int))).run M w=.ok (C (some ⟨w.heap.size,0,none⟩) n n) (w.alloc (G (Yb n) 37)):=by
 obtain⟨i,d,b⟩:=Option.map_eq_some_iff.1 Tryz.infoRat;simp only[Prod.mk.injEq]at b;obtain⟨f,e,c⟩:=b;have a:=run_make (P:=M) w 23 37 i _ Tryz.underlying23 d f .i64 .i64 n n O (Int.le_refl _) (by rw[c];omega) O;simp only[CT,e]at a;exact a
theorem Nb(n:Nat)(w:H):Dl true (w.alloc (G (Yb n) 37)) w.heap.size (List.replicate n 0):=by
 refine⟨Yb n,BE w _,λj a=>?_⟩;rw[AA]at a;obtain⟨b,c,d,e⟩:=La a;exact⟨_,_,_,_,b,c,d,e,by rw[J0];exact XY _⟩
theorem ZE(a b:Option Addr)(la ca lb cb:Nat)(ps qs:List Rat)(w:H)(x:RowK true w (C a la ca) ps)(y:RowK true w (C b lb cb) qs)(U:Sqs ps)(W:Sqs qs):
 Calls M 140 #[C a la ca,C b lb cb,.func (.func 26) #[] #[]] w λe w'=>∃v c,e=.returned v/\RowK true w' v c/\(∀j,cf c j=cf ps j-cf qs j)/\Kd w.heap.size v/\Bl w w':=by
 obtain⟨S,ae,ah,ap,_⟩:=x.forms;obtain⟨T,af,ai,aq,_⟩:=y.forms;obtain⟨n,hn⟩:∃n:Nat,max (la:Int) (lb:Int)=(n:Int):=⟨max la lb,O⟩;have ay:n<=1099511627776:=O
 obtain⟨HN,HA,HB,HP,HQ,Qp,Qq⟩:=LF (show la<=n/\lb<=n from by omega) x y U W S T;have Qo:=I0 n O w;have o:=Nb n w;have s:Bl w (w.alloc (G (Yb n) 37)):=Ba w _;obtain⟨W0,P⟩:=ex (w.alloc (G (Yb n) 37));rw[P]at o s Qo;have Qr:=Ja o;have Qn:=Ja s;clear o s P x y U W S T ae ah af ai;go_enter Tryz.func140,Tryz.ntmps140
 go_wp2;go_loopw [17] (λi wr=>∃(k:Nat) (c:List Rat),k<=n/\i=.int .i64 (k:Int)/\Hid (c.length=n/\(∀j,j<k->cf c j=cf ps j-cf qs j)/\Dl true wr w.heap.size c/\Bl w wr)) λi _=>n-(intOf i).toNat
 case atStart=>exact⟨0,_,AO _,rfl,Ja ⟨AA,λj l=>by omega,Qr.o,Qn.o⟩⟩
 case round=>
  obtain⟨k,c,hk,rfl,d⟩:=hrel;by_cases aw:k<n
  . have ax:(k:Int)<(n:Int):=O
    have q:=Ja (Na _ ps (k:Int) wr (HA.o.below d.o.2.2.2));have r:=Ja λ(V:H) (h:Bl wr V)=>Na _ qs (k:Int) V ((HB.o.below d.o.2.2.2).below h);rw[BA O,CT]at q;rw[show(if(k:Int)<0 then(0:Rat)else cf qs ((k:Int)).toNat)=cf qs k from by rw[BA O,CT]]at r;have D:=Ja λ(V:H) (u v:L) (hu:Jh V u (cf ps k)) (hv:Jh V v (cf qs k))=>LW u v (cf ps k) (cf qs k) V hu hv (HP.o.at k) (HQ.o.at k);have p:=Ja (show k<c.length from by have:=d.o.1;omega);go_wp2_with(first
     |(go_at_call 129;refine q.o.mono ?_;clear q;rintro e w1 ⟨u1,rfl,g,Q⟩;have m:=Q)
     |(go_at_call 129;refine(r.o _ m).mono ?_;clear r;rintro e w2 ⟨u2,rfl,X,z⟩;have g:=g.below z;have N:=Bt m z;clear m)
     |(go_at_call 26;refine(D.o _ _ _ g X).mono ?_;clear D;rintro e w3 ⟨u3,rfl,ad,R⟩;have K:=Bt N R;clear N g X Q z R;have f:=d.o.2.2.1.below K;obtain⟨x0,y0,z0,t0,k0,k1,k2,k3,_⟩:=f.at p.o;have f0:=f.frozen (k*4);have f1:=f.frozen (k*4+1);have f2:=f.frozen (k*4+2);have f3:=f.frozen (k*4+3);obtain⟨bc,aj,ba,am,bf,ak,az,an,rfl⟩:=Jh.form ad))
    go_roundw
    case rel=>
     refine⟨k+1,c.set k (cf ps k-cf qs k),O,by go_num,Ja ⟨by rw[CJ];exact d.o.1,λj l=>?_,f.set p.o ad,P3 (Bt d.o.2.2.2 K) (Aa _) _ _ _ _⟩⟩;rw[XS _ _ _ _ p.o];by_cases A:j=k
     . rw[BC A,A]
     . rw[BA A];exact d.o.2.1 j O
    case measure=>simp[intOf];omega
  . have Qm:k=n:=O
    subst Qm;go_wp2;go_ret;have t:=d.o;have B:=t.2.2.1.row (n:=k) (cap:=k) O (Aa _) O O;rw[Ad O]at B;refine⟨_,c,rfl,B,λj=>?_,λa' l' c' e=>by cases e;exact Aa _,t.2.2.2⟩;rcases A6 j k with l|l
    . exact t.2.1 j l
    . have:=HN.o;have h1:=Qp.o;have h2:=Qq.o;rw[Ye O,Ye O,Ye O];grind
theorem QJ(x y:L)(ps qs:List Rat)(w:H)(f:Je w x ps)(g:Je w y qs)(r:Sqs ps)(s:Sqs qs)(t:Sqs (JD ps qs)):
 Calls M 90 #[x,y] w λe z=>∃u,e=.returned u/\Je z u (JD ps qs)/\LZ w.heap.size u/\Bl w z:=by
 obtain⟨u,rfl,f⟩:=f;obtain⟨v,rfl,g⟩:=g;obtain⟨a,la,ca,rfl⟩:=f.form;obtain⟨b,lb,cb,rfl⟩:=g.form;obtain⟨W0,d⟩:=ex (((w.alloc (G #[C a la ca] 25)).alloc (G #[C b lb cb] 25)).alloc (G #[C none 0 0] 25));have b0:Boxed W0 w.heap.size 25 (C a la ca):=by rw[<-d];exact((BG w _ _).alloc _).alloc _
 have P:Boxed W0 (w.heap.size+1) 25 (C b lb cb):=by rw[<-d];have:=(BG (w.alloc (G #[C a la ca] 25)) 25 (C b lb cb)).alloc (G #[C none 0 0] 25);simpa using this
 have Q:Boxed W0 (w.heap.size+1+1) 25 (C none 0 0):=by rw[<-d];have:=BG ((w.alloc (G #[C a la ca] 25)).alloc (G #[C b lb cb] 25)) 25 (C none 0 0);simpa using this
 have k:Bl w W0:=by rw[<-d];exact((Ba w _).alloc Z _).alloc si _
 obtain⟨o,q,K,D⟩:=Dr (ZE a b la ca lb cb ps qs W0 (f.below k) (g.below k) r s) (λ(V:H) (v:L) (c:List Rat) (h:RowK true V v c) (hs:Sqs c)=>Gt v c V h hs) t d;have k0:=b0.cell;have k1:=P.cell;clear d f g r s t;go_enter Tryz.func90,Tryz.ntmps90
 go_upto_region 1 with fail
 rw[D.o];go_wp2_with(first
  |(go_at_call 140;refine o.o.mono ?_;clear o;rintro e w1 ⟨v1,c,rfl,ad,n,W,T⟩;have B:Sqs c:=Sqs.of (λi=>by rw[n i,<-MZ];exact K.o.at i);have A:=Ja n;clear n)
  |(go_at_call 39;refine(q.o _ _ c ad B).mono ?_;clear q;rintro e w2 ⟨u2,rfl,m,X,U⟩;obtain⟨N,l9,R,rfl⟩:=m.form;have hq:=Bt T U;have l:=boxed_below Q hq;have k2:=l.cell;have f2:=l.frozen))
 have S:Jd c=JD ps qs:=by
  rw[<-Yh];exact Hz λj=>by rw[A.o j,MZ]
 rw[S]at m;refine BB (v:=F #[C N l9 R]) (by simp[results,Tryz.results90,go_sem,k2]) rfl ⟨_,rfl,⟨_,rfl,Eo l _ m.row⟩,?_,(Bt k hq).setCell (p:=⟨w.heap.size+1+1,0,none⟩) si _⟩;intro a' l' c' e;have:=X W0.heap.size W a' l' c' e;have h2:=k.size;omega
