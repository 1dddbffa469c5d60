import Derived.Test.YtcahejkcdcjjgaaGreatDoorT26
import Derived.Deep.OwnRows
open Go.Value renaming slice->C,bool->E,pointer->H,agg->F
open Go.Obj renaming cells->G
open Go renaming World->I,Value->J
open Go.Proofs.Tryz renaming prog->L
set_option maxRecDepth 100000
set_option maxHeartbeats 16000000
namespace Go.Proofs.YtcahejkcdcjjgaaGreatDoor
open Go.RowKit Go.Shelf
attribute [local go_sem] Oper.semAt_some
variable{qs:List Rat}{cap l:Nat}{a:Option Addr}{W:I}
theorem UR(p q:Rat)(d:Sq p)(c:Sq q)(a b x y:Int)(e:((Int.gcd p.num (q.den:Int):Nat):Int)=a)(f:((Int.gcd q.num (p.den:Int):Nat):Int)=b)(g:p.num/a=x)(i:q.num/b=y):
 DZ a/\a≠0/\DZ b/\b≠0/\DZ x/\DZ y/\(p*q).num=x*y/\((p*q).den:Int)=p.den/b*(q.den/a):=by
 have hl:=RZ p q a b e.symm f.symm;have j:a≠0:=by rw[<-e];have:=Hj (x:=p.num) (y:=q.den) (by have:=q.den_nz;omega);omega
 have k:b≠0:=by rw[<-f];have:=Hj (x:=q.num) (y:=p.den) (by have:=p.den_nz;omega);omega
 refine⟨by rw[<-e];exact d.num.gcd c.den,j,by rw[<-f];exact c.num.gcd d.den,k,by rw[<-g];exact d.num.div,by rw[<-i];exact c.num.div,?_,hl.2⟩;rw[hl.1,g,i]
theorem MH(va vb:J)(p q:Rat)(w:I)(ha:Ji w va p)(hb:Ji w vb q)(cl:Sq p)(bn:Sq q):
 Calls L 41 #[va,vb] w λe X=>∃u,e=.returned u/\Ji X u (p*q)/\Bl w X:=by
 obtain⟨s,a,l,c,t,b,k,d,rfl⟩:=Ji.form ha;obtain⟨s',a',l',c',t',b',k',d',rfl⟩:=Ji.form hb;have M0:=MG w s t s' t' a b a' b' l c k d l' c' k' d' p q ha hb;obtain⟨W0,bi⟩:=ex (((w.alloc (G #[E s,C a l c,E t,C b k d] 38)).alloc (G #[E s',C a' l' c',E t',C b' k' d'] 38)).alloc (G #[E false,C none 0 0,E false,C none 0 0] 38));have Uc:=Ja bi;rw[bi]at M0;have M1:Hid (Mem w W0 [some (w.heap.size,.rat (p)),some (w.heap.size+1,.rat (q)),some (w.heap.size+1+1,.rat (0))]):=Ja M0;have Uh:Tryz.prog.follows .mixedOrders=true:=by kernel_rfl
 have HP:=Ja cl;have HQ:=Ja bn;clear M0 ha hb bi cl bn;go_enter Tryz.func41,Tryz.ntmps41
 go_upto_region 1 with fail
 rw[Uc.o];clear Uc;obtain⟨bb,bm⟩:=ex (decide (p.den=1/\q.den=1):Bool);have Qx:=Ja bm;clear bm;go_cut [13] (λc X=>c=E bb/\Hid (Mem w X [some (w.heap.size,.rat (p)),some (w.heap.size+1,.rat (q)),some (w.heap.size+1+1,.rat (0))]))
 case first=>
  obtain⟨s1,a1,l1,c1,t1,b1,k1,d1,n1,r1,i1,j1⟩:=M1.o.rat (i:=0) rfl;obtain⟨Uu,Ut,Us,Uk⟩:=n1.cq;obtain⟨s2,a2,l2,c2,t2,b2,k2,d2,n2,r2,i2,j2⟩:=M1.o.rat (i:=1) rfl;obtain⟨Ul,Uv,Un,Ux⟩:=n2.cq;have H1:=Ja (Xr _ p W0 r1);have H2:=Ja (λ(V:I) (h:Bl W0 V)=>Xr _ q V (r2.below h));by_cases Q:p.den=1
  . rw[BJ Q]at H1;obtain⟨b2,an⟩:=ex (decide (q.den=1));rw[an]at H2;have Qy:=Ja (show b2=bb by rw[<-an,<-Qx.o];exact decide_eq_decide.2 ⟨λh=>⟨Q,h⟩,λh=>h.2⟩);clear an Q;go_wp2_with(first
     |(go_at_call 59;refine H1.o.mono ?_;clear H1;rintro e w1 ⟨rfl,bd⟩;obtain⟨Uu,Ut,Us,Uk⟩:=(n1.below bd).cq;obtain⟨Ul,Uv,Un,Ux⟩:=(n2.below bd).cq)
     |(go_at_call 59;refine(H2.o _ bd).mono ?_;clear H2;rintro e w2 ⟨rfl,an⟩))
    go_meet
    case rel=>exact⟨by rw[Qy.o],Ja ((M1.o.below bd).below an)⟩
  . rw[BF Q]at H1;have Qy:=Ja (show bb=false by rw[<-Qx.o];exact BF (λh=>Q h.1));clear Q;go_wp2_with(go_at_call 59;refine H1.o.mono ?_;clear H1;rintro e w1 ⟨rfl,bd⟩)
    go_meet
    case rel=>exact⟨by rw[Qy.o],Ja (M1.o.below bd)⟩
 obtain⟨rfl,z⟩:=hcut;have M2:Hid (Mem w wc [some (w.heap.size,.rat (p)),some (w.heap.size+1,.rat (q)),some (w.heap.size+1+1,.rat (0))]):=z;clear M1 z;cases bb with
 |true=>
  have Qz:=Bg Qx.o;have HW:=Ja (UP Qz.1 Qz.2);clear Qz Qx;obtain⟨s3,a3,l3,c3,t3,b3,k3,d3,n3,r3,i3,j3⟩:=M2.o.rat (i:=0) rfl;obtain⟨ib,fx,fu,fr⟩:=n3.cq;obtain⟨s4,a4,l4,c4,t4,b4,k4,d4,n4,r4,i4,j4⟩:=M2.o.rat (i:=1) rfl;obtain⟨gz,gb,gj,fs⟩:=n4.cq;obtain⟨s5,a5,l5,c5,t5,b5,k5,d5,n5,r5,i5,j5⟩:=M2.o.rat (i:=2) rfl;obtain⟨Uf,Ud,Ui,Uj⟩:=n5.cq;obtain⟨Uq,Ur,Uo,Um⟩:=n5.fq;go_wp2_with(go_at_call 85;refine(XY _ _ p.num q.num _ i3 i4 (by have Q:=HP.o.num.words;have h2:=HQ.o.num.words;omega)).mono ?_;rintro e w1 ⟨u,rfl,hu,f⟩;obtain⟨cg,ck,bz,bt,rfl⟩:=Jk.form2 hu;obtain⟨Uf,Ud,Ui,Uj⟩:=(n5.below f).cq;obtain⟨Uq,Ur,Uo,Um⟩:=(n5.below f).fq)
  have hr:Ji w1 (F #[E cg,C ck bz bt,E false,C none 0 0]) (p*q):=Ji.mk (by rw[HW.o.1];exact hu) (by rw[KO.2 HW.o.2];exact EK _);have Ua:=Bt M2.o.2.2 f;exact BA (v:=F #[E cg,C ck bz bt,E false,C none 0 0]) (by simp[results,Tryz.results41,go_sem,Uf,Ud,Ui,Uj]) rfl ⟨_,rfl,hr.put4 (n5.below f) rfl rfl rfl rfl _ _ _ _,Jp Ua om _ _ _ _⟩
 |false=>
  clear Qx;obtain⟨dn,bu⟩:=ex (((Int.gcd p.num (q.den:Int):Nat):Int):Int);have Ug:=Ja bu;clear bu;obtain⟨up,ce⟩:=ex (((Int.gcd q.num (p.den:Int):Nat):Int):Int);have Ub:=Ja ce;clear ce;obtain⟨x,hx⟩:=ex (p.num/dn:Int);have HX:=Ja hx;clear hx;obtain⟨y,hy⟩:=ex (q.num/up:Int);have HY:=Ja hy;clear hy;obtain⟨S1,S2,S3,S4,S5,S6,S7,S8⟩:=UR p q HP.o HQ.o dn up x y Ug.o Ub.o HX.o HY.o;obtain⟨T1,T2,T3,T4,T5,T6,T7,T8⟩:=GC S1 S2 S3 S4 S5 S6 S7 S8;clear S1 S2 S3 S4 S5 S6 S7 S8;go_upto_region 3 with fail
  refine Jn Uh [[],[0],[],[2],[1,3,3],[],[5],[],[7,4],[6,8,8],[],[],[10,4,9,0,1,2,3,4,10,11],[11,9,12,0,1,2,3,4,5,6,7,8,9,10,11,12]] (by kernel_rfl) DR
   (λD aj V=>∃(ta tb tc td te tf tg ti tj tk tv tw:J) (bc az:Option (Nat × Dat)),aj={ tmps:=#[F #[E s,C a l c,E t,C b k d],F #[E s',C a' l' c',E t',C b' k' d'],H (some ⟨w.heap.size,0,none⟩),H (some ⟨w.heap.size+1,0,none⟩),H (some ⟨w.heap.size+1+1,0,none⟩),tv,tw,undef,u8,u9,u10,u11,u12,E false,u14,u15,u16,u17,u18,u19,ta,tb,tc,td,te,tf,tg,ti,tj,tk,u30,u31,u32,u33,u34,u35,u36,u37,u38,u39,u40,u41,u42,u43,u44,u45,u46,u47,u48,u49],defers:=[] }/\Hid ((D 0=true->ta=H (some ⟨w.heap.size,0,none⟩))/\(D 1=true->Has V tb (.int (Rat.num (p))))/\(D 2=true->Has V tc (.rat (q)))/\(D 3=true->Has V td (.int ((q.den:Int))))/\(D 4=true->Has V te (.int (dn)))/\(D 5=true->tf=H (some ⟨w.heap.size+1,0,none⟩))/\(D 6=true->Has V tg (.int (Rat.num (q))))/\(D 7=true->Has V ti (.rat (p)))/\(D 8=true->Has V tj (.int ((p.den:Int))))/\(D 9=true->Has V tk (.int (up)))/\((D 10=false->bc=none)/\(D 10=true->D 12=false->∃B:Nat,tv=H (some ⟨B,0,none⟩)/\bc=some (B,.int 0))/\(D 12=true->∃B:Nat,tv=H (some ⟨B,0,none⟩)/\bc=some (B,.int (dn))))/\((D 11=false->az=none)/\(D 11=true->D 13=false->∃B:Nat,tw=H (some ⟨B,0,none⟩)/\az=some (B,.int 0))/\(D 13=true->∃B:Nat,tw=H (some ⟨B,0,none⟩)/\az=some (B,.int (up)))))/\Hid (Mem w V [some (w.heap.size,.rat (p)),some (w.heap.size+1,.rat (q)),some (w.heap.size+1+1,.rat (0)),bc,az]))
   ⟨_,_,_,_,_,_,_,_,_,_,_,_,none,none,rfl,Ja ⟨DO,DO,DO,DO,DO,DO,DO,DO,DO,DO,DO,DO⟩,Ja (((M2.o).none).none).drew⟩ ?step6 ?fin6
  case step6=>
   rintro D aj V i ds bg hi o af ⟨ta,tb,tc,td,te,tf,tg,ti,tj,tk,tv,tw,bc,az,rfl,m,z⟩;have Up:i<14:=(Ad.1 hi).1;obtain rfl|rfl|rfl|rfl|rfl|rfl|rfl|rfl|rfl|rfl|rfl|rfl|rfl|rfl:=FJ i om
   all_goals
    simp only[Ah,Ae,Ak]at hi;subst hi
   . clear o;refine Za ?_;exact⟨_,_,_,_,_,_,_,_,_,_,_,_,_,_,rfl,(Di m),Ja (z.o)⟩
   . obtain rfl:=(m.o.1 (o 0 DO));clear o;obtain⟨s,a,l,c,t,b,k,d,n,r,i,j⟩:=z.o.rat (i:=0) rfl;obtain⟨e0,e1,e2,e3⟩:=n.cq;refine Za ?_;exact⟨_,_,_,_,_,_,_,_,_,_,_,_,_,_,rfl,(Dv (Di m) λ_=>i),Ja (z.o)⟩
   . clear o;obtain⟨s,a,l,c,t,b,k,d,n,r,i,j⟩:=z.o.rat (i:=1) rfl;obtain⟨e0,e1,e2,e3⟩:=n.cq;refine Za ?_;exact⟨_,_,_,_,_,_,_,_,_,_,_,_,_,_,rfl,(Df m λ_=>r),Ja (z.o)⟩
   . have W:=(m.o.2.2.1 (o 2 DO));have HC:=Ja (FO _ q V W);clear o W;refine Jb rfl rfl λK hK=>?_;go_simp;go_wp2_with(go_at_call 82;refine HC.o.mono ?_;rintro e w5 ⟨v5,rfl,ad,g⟩)
     obtain⟨A,M,O,_,R,N,P,S,U,Y,ae⟩:=m.o;exact⟨_,_,_,_,_,_,_,_,_,_,_,_,_,_,rfl,Ja ⟨A,λh=>(M h).below g,λh=>(O h).below g,λ_=>ad,λh=>(R h).below g,N,λh=>(P h).below g,λh=>(S h).below g,λh=>(U h).below g,λh=>(Y h).below g,ae⟩,Ja (z.o.below g)⟩
   . have W:=(m.o.2.1 (o 1 DO));have Q:=(m.o.2.2.2.1 (o 3 DO));have HC:=Ja ((by have h:=Id _ _ p.num (q.den:Int) V W Q (by have:=HP.o.num.words;omega) (by have:=HQ.o.den.words;omega);rw[Ug.o]at h;exact h));clear o W Q;refine Jb rfl rfl λK hK=>?_;go_simp;go_wp2_with(go_at_call 83;refine HC.o.mono ?_;rintro e w5 ⟨v5,rfl,ad,g⟩)
     obtain⟨A,M,O,T,_,N,P,S,U,Y,ae⟩:=m.o;exact⟨_,_,_,_,_,_,_,_,_,_,_,_,_,_,rfl,Ja ⟨A,λh=>(M h).below g,λh=>(O h).below g,λh=>(T h).below g,λ_=>ad,N,λh=>(P h).below g,λh=>(S h).below g,λh=>(U h).below g,λh=>(Y h).below g,ae⟩,Ja (z.o.below g)⟩
   . clear o;refine Za ?_;exact⟨_,_,_,_,_,_,_,_,_,_,_,_,_,_,rfl,(D0 m),Ja (z.o)⟩
   . obtain rfl:=((Dk m) (o 5 DO));clear o;obtain⟨s,a,l,c,t,b,k,d,n,r,i,j⟩:=z.o.rat (i:=1) rfl;obtain⟨e0,e1,e2,e3⟩:=n.cq;refine Za ?_;exact⟨_,_,_,_,_,_,_,_,_,_,_,_,_,_,rfl,(D4 (D0 m) λ_=>i),Ja (z.o)⟩
   . clear o;obtain⟨s,a,l,c,t,b,k,d,n,r,i,j⟩:=z.o.rat (i:=0) rfl;obtain⟨e0,e1,e2,e3⟩:=n.cq;refine Za ?_;exact⟨_,_,_,_,_,_,_,_,_,_,_,_,_,_,rfl,(ED m λ_=>r),Ja (z.o)⟩
   . have W:=((Dq m) (o 7 DO));have HC:=Ja (FO _ p V W);clear o W;refine Jb rfl rfl λK hK=>?_;go_simp;go_wp2_with(go_at_call 82;refine HC.o.mono ?_;rintro e w5 ⟨v5,rfl,ad,g⟩)
     obtain⟨A,M,O,T,R,N,P,S,_,Y,ae⟩:=m.o;exact⟨_,_,_,_,_,_,_,_,_,_,_,_,_,_,rfl,Ja ⟨A,λh=>(M h).below g,λh=>(O h).below g,λh=>(T h).below g,λh=>(R h).below g,N,λh=>(P h).below g,λh=>(S h).below g,λ_=>ad,λh=>(Y h).below g,ae⟩,Ja (z.o.below g)⟩
   . have W:=((Dn m) (o 6 DO));have Q:=((Ds m) (o 8 DO));have HC:=Ja ((by have h:=Id _ _ q.num (p.den:Int) V W Q (by have:=HQ.o.num.words;omega) (by have:=HP.o.den.words;omega);rw[Ub.o]at h;exact h));clear o W Q;refine Jb rfl rfl λK hK=>?_;go_simp;go_wp2_with(go_at_call 83;refine HC.o.mono ?_;rintro e w5 ⟨v5,rfl,ad,g⟩)
     obtain⟨A,M,O,T,R,N,P,S,U,_,ae⟩:=m.o;exact⟨_,_,_,_,_,_,_,_,_,_,_,_,_,_,rfl,Ja ⟨A,λh=>(M h).below g,λh=>(O h).below g,λh=>(T h).below g,λh=>(R h).below g,N,λh=>(P h).below g,λh=>(S h).below g,λh=>(U h).below g,λ_=>ad,ae⟩,Ja (z.o.below g)⟩
   . have hf:D 12=false:=DQ bg af;obtain rfl:=m.o.2.2.2.2.2.2.2.2.2.2.1.1 af;clear o;refine Za ?_;obtain⟨A,M,O,T,R,N,P,S,U,Y,_,bj⟩:=m.o;exact⟨_,_,_,_,_,_,_,_,_,_,_,_,_,_,rfl,Ja ⟨A,λh=>(M h).alloc _,λh=>(O h).alloc _,λh=>(T h).alloc _,λh=>(R h).alloc _,N,λh=>(P h).alloc _,λh=>(S h).alloc _,λh=>(U h).alloc _,λh=>(Y h).alloc _,⟨λh=>by simp at h,λ_ _=>⟨_,rfl,rfl⟩,λh=>by simp[hf]at h⟩,bj⟩,Ja (z.o.fill (i:=3) rfl (.int 0) (EK _))⟩
   . have hf:D 13=false:=DQ bg af;obtain rfl:=Eg m af;clear o;refine Za ?_;obtain⟨A,M,O,T,R,N,P,S,U,Y,ae,_⟩:=m.o;exact⟨_,_,_,_,_,_,_,_,_,_,_,_,_,_,rfl,Ja ⟨A,λh=>(M h).alloc _,λh=>(O h).alloc _,λh=>(T h).alloc _,λh=>(R h).alloc _,N,λh=>(P h).alloc _,λh=>(S h).alloc _,λh=>(U h).alloc _,λh=>(Y h).alloc _,ae,⟨λh=>by simp at h,λ_ _=>⟨_,rfl,rfl⟩,λh=>by simp[hf]at h⟩⟩,Ja (z.o.fill (i:=4) rfl (.int 0) (EK _))⟩
   . obtain⟨B,rfl,rfl⟩:=m.o.2.2.2.2.2.2.2.2.2.2.1.2.1 (o 10 DO) af;have Qw:=o 10 DO;have hv:=(m.o.2.2.2.2.1 (o 4 DO));obtain⟨s1,a1,l1,c1,rfl⟩:=Jk.form2 (show Jk V _ _ from hv);obtain⟨s,a,l,c,n,i⟩:=z.o.int (i:=3) rfl;have e0:=n.c0;have f0:=n.f0;have e1:=n.c1;have f1:=n.f1;clear o;refine Za ?_;obtain⟨A,M,O,T,R,N,P,S,U,Y,_,bj⟩:=m.o;exact⟨_,_,_,_,_,_,_,_,_,_,_,_,_,_,rfl,Ja ⟨A,λh=>(M h).set2 n rfl rfl _ _,λh=>(O h).set2 n rfl rfl _ _,λh=>(T h).set2 n rfl rfl _ _,λh=>(R h).set2 n rfl rfl _ _,N,λh=>(P h).set2 n rfl rfl _ _,λh=>(S h).set2 n rfl rfl _ _,λh=>(U h).set2 n rfl rfl _ _,λh=>(Y h).set2 n rfl rfl _ _,⟨λh=>by simp[Qw]at h,λ_ h=>by simp at h,λ_=>⟨B,rfl,rfl⟩⟩,bj⟩,Ja (z.o.putInt (i:=3) rfl hv)⟩
   . obtain⟨B,rfl,rfl⟩:=E9 m (o 11 DO) af;have Qw:=o 11 DO;have hv:=((Dt m) (o 9 DO));obtain⟨s1,a1,l1,c1,rfl⟩:=Jk.form2 (show Jk V _ _ from hv);obtain⟨s,a,l,c,n,i⟩:=z.o.int (i:=4) rfl;have e0:=n.c0;have f0:=n.f0;have e1:=n.c1;have f1:=n.f1;clear o;refine Za ?_;obtain⟨A,M,O,T,R,N,P,S,U,Y,ae,_⟩:=m.o;exact⟨_,_,_,_,_,_,_,_,_,_,_,_,_,_,rfl,Ja ⟨A,λh=>(M h).set2 n rfl rfl _ _,λh=>(O h).set2 n rfl rfl _ _,λh=>(T h).set2 n rfl rfl _ _,λh=>(R h).set2 n rfl rfl _ _,N,λh=>(P h).set2 n rfl rfl _ _,λh=>(S h).set2 n rfl rfl _ _,λh=>(U h).set2 n rfl rfl _ _,λh=>(Y h).set2 n rfl rfl _ _,ae,⟨λh=>by simp[Qw]at h,λ_ h=>by simp at h,λ_=>⟨B,rfl,rfl⟩⟩⟩,Ja (z.o.putInt (i:=4) rfl hv)⟩
  rintro D aj V7 ay ⟨ta,tb,tc,td,te,tf,tg,ti,tj,tk,tv,tw,bc,az,rfl,m,z⟩;obtain⟨B8,rfl,rfl⟩:=m.o.2.2.2.2.2.2.2.2.2.2.1.2.2 (ay 12 DR);obtain⟨B9,rfl,rfl⟩:=m.o.2.2.2.2.2.2.2.2.2.2.2.2.2 (ay 13 DR);clear m ay M2;have M3:Hid (Mem w V7 [some (w.heap.size,.rat (p)),some (w.heap.size+1,.rat (q)),some (w.heap.size+1+1,.rat (0)),some (B8,.int (dn)),some (B9,.int (up))]):=z;clear z;go_upto_region 4 with fail
  refine Jn Uh [[],[0],[],[1,2],[],[4],[],[5,6,3],[3,7,7],[],[9,8,8,0,1,2,3,4,5,6,7,8,9]] (by kernel_rfl) DR
   (λD aj V=>∃(tl tm tn tp tq tr ts tt tu tx:J) (x9:Option (Nat × Dat)),aj={ tmps:=#[F #[E s,C a l c,E t,C b k d],F #[E s',C a' l' c',E t',C b' k' d'],H (some ⟨w.heap.size,0,none⟩),H (some ⟨w.heap.size+1,0,none⟩),H (some ⟨w.heap.size+1+1,0,none⟩),H (some ⟨B8,0,none⟩),H (some ⟨B9,0,none⟩),tx,u8,u9,u10,u11,u12,E false,u14,u15,u16,u17,u18,u19,ta,tb,tc,td,te,tf,tg,ti,tj,tk,tl,tm,tn,tp,tq,tr,ts,tt,tu,u39,u40,u41,u42,u43,u44,u45,u46,u47,u48,u49],defers:=[] }/\Hid ((D 0=true->tl=H (some ⟨w.heap.size,0,none⟩))/\(D 1=true->Has V tm (.int (Rat.num (p))))/\(D 2=true->Has V tn (.int (dn)))/\(D 3=true->Has V tp (.int (x)))/\(D 4=true->tq=H (some ⟨w.heap.size+1,0,none⟩))/\(D 5=true->Has V tr (.int (Rat.num (q))))/\(D 6=true->Has V ts (.int (up)))/\(D 7=true->Has V tt (.int (y)))/\(D 8=true->Has V tu (.int (x*y)))/\((D 9=false->x9=none)/\(D 9=true->D 10=false->∃B:Nat,tx=H (some ⟨B,0,none⟩)/\x9=some (B,.int 0))/\(D 10=true->∃B:Nat,tx=H (some ⟨B,0,none⟩)/\x9=some (B,.int (x*y)))))/\Hid (Mem w V [some (w.heap.size,.rat (p)),some (w.heap.size+1,.rat (q)),some (w.heap.size+1+1,.rat (0)),some (B8,.int (dn)),some (B9,.int (up)),x9]))
   ⟨_,_,_,_,_,_,_,_,_,_,none,rfl,Ja ⟨DO,DO,DO,DO,DO,DO,DO,DO,DO,DO⟩,Ja ((M3.o).none).drew⟩ ?step10 ?fin10
  case step10=>
   rintro D aj V i ds bg hi o af ⟨tl,tm,tn,tp,tq,tr,ts,tt,tu,tx,x9,rfl,m,z⟩;have Up:i<11:=(Ad.1 hi).1;obtain rfl|rfl|rfl|rfl|rfl|rfl|rfl|rfl|rfl|rfl|rfl:=Ef i om
   all_goals
    simp only[Ah,Ae,Ak]at hi;subst hi
   . clear o;refine Za ?_;exact⟨_,_,_,_,_,_,_,_,_,_,_,rfl,(Di m),Ja (z.o)⟩
   . obtain rfl:=(m.o.1 (o 0 DO));clear o;obtain⟨s,a,l,c,t,b,k,d,n,r,i,j⟩:=z.o.rat (i:=0) rfl;obtain⟨e0,e1,e2,e3⟩:=n.cq;refine Za ?_;exact⟨_,_,_,_,_,_,_,_,_,_,_,rfl,(Dv (Di m) λ_=>i),Ja (z.o)⟩
   . clear o;obtain⟨s,a,l,c,n,i⟩:=z.o.int (i:=3) rfl;obtain⟨e0,e1⟩:=n.cp;refine Za ?_;exact⟨_,_,_,_,_,_,_,_,_,_,_,rfl,(Df m λ_=>i),Ja (z.o)⟩
   . have W:=(m.o.2.1 (o 1 DO));have Q:=(m.o.2.2.1 (o 2 DO));have HC:=Ja ((by have h:=X3 _ _ p.num dn V W Q T2.o HP.o.num T1.o;rw[HX.o]at h;exact h));clear o W Q;refine Jb rfl rfl λK hK=>?_;go_simp;go_wp2_with(go_at_call 84;refine HC.o.mono ?_;rintro e w5 ⟨v5,rfl,ad,g⟩)
     obtain⟨A,M,O,_,R,N,P,S,U,Y⟩:=m.o;exact⟨_,_,_,_,_,_,_,_,_,_,_,rfl,Ja ⟨A,λh=>(M h).below g,λh=>(O h).below g,λ_=>ad,R,λh=>(N h).below g,λh=>(P h).below g,λh=>(S h).below g,λh=>(U h).below g,Y⟩,Ja (z.o.below g)⟩
   . clear o;refine Za ?_;exact⟨_,_,_,_,_,_,_,_,_,_,_,rfl,(Dx m),Ja (z.o)⟩
   . obtain rfl:=(m.o.2.2.2.2.1 (o 4 DO));clear o;obtain⟨s,a,l,c,t,b,k,d,n,r,i,j⟩:=z.o.rat (i:=1) rfl;obtain⟨e0,e1,e2,e3⟩:=n.cq;refine Za ?_;exact⟨_,_,_,_,_,_,_,_,_,_,_,rfl,(D0 (Dx m) λ_=>i),Ja (z.o)⟩
   . clear o;obtain⟨s,a,l,c,n,i⟩:=z.o.int (i:=4) rfl;obtain⟨e0,e1⟩:=n.cp;refine Za ?_;exact⟨_,_,_,_,_,_,_,_,_,_,_,rfl,(D4 m λ_=>i),Ja (z.o)⟩
   . have W:=((Dk m) (o 5 DO));have Q:=((Dn m) (o 6 DO));have HC:=Ja ((by have h:=X3 _ _ q.num up V W Q T4.o HQ.o.num T3.o;rw[HY.o]at h;exact h));clear o W Q;refine Jb rfl rfl λK hK=>?_;go_simp;go_wp2_with(go_at_call 84;refine HC.o.mono ?_;rintro e w5 ⟨v5,rfl,ad,g⟩)
     obtain⟨A,M,O,T,R,N,P,_,U,Y⟩:=m.o;exact⟨_,_,_,_,_,_,_,_,_,_,_,rfl,Ja ⟨A,λh=>(M h).below g,λh=>(O h).below g,λh=>(T h).below g,R,λh=>(N h).below g,λh=>(P h).below g,λ_=>ad,λh=>(U h).below g,Y⟩,Ja (z.o.below g)⟩
   . have W:=(m.o.2.2.2.1 (o 3 DO));have Q:=((Dq m) (o 7 DO));have HC:=Ja (XY _ _ x y V W Q (by have Q:=T5.o.words;have h2:=T6.o.words;omega));clear o W Q;refine Jb rfl rfl λK hK=>?_;go_simp;go_wp2_with(go_at_call 85;refine HC.o.mono ?_;rintro e w5 ⟨v5,rfl,ad,g⟩)
     obtain⟨A,M,O,T,R,N,P,S,_,Y⟩:=m.o;exact⟨_,_,_,_,_,_,_,_,_,_,_,rfl,Ja ⟨A,λh=>(M h).below g,λh=>(O h).below g,λh=>(T h).below g,R,λh=>(N h).below g,λh=>(P h).below g,λh=>(S h).below g,λ_=>ad,Y⟩,Ja (z.o.below g)⟩
   . have hf:D 10=false:=DQ bg af;obtain rfl:=Dt m af;clear o;refine Za ?_;obtain⟨A,M,O,T,R,N,P,S,U,_⟩:=m.o;exact⟨_,_,_,_,_,_,_,_,_,_,_,rfl,Ja ⟨A,λh=>(M h).alloc _,λh=>(O h).alloc _,λh=>(T h).alloc _,R,λh=>(N h).alloc _,λh=>(P h).alloc _,λh=>(S h).alloc _,λh=>(U h).alloc _,⟨λh=>by simp at h,λ_ _=>⟨_,rfl,rfl⟩,λh=>by simp[hf]at h⟩⟩,Ja (z.o.fill (i:=5) rfl (.int 0) (EK _))⟩
   . obtain⟨B,rfl,rfl⟩:=Do m (o 9 DO) af;have Qw:=o 9 DO;have hv:=((Ds m) (o 8 DO));obtain⟨s1,a1,l1,c1,rfl⟩:=Jk.form2 (show Jk V _ _ from hv);obtain⟨s,a,l,c,n,i⟩:=z.o.int (i:=5) rfl;have e0:=n.c0;have f0:=n.f0;have e1:=n.c1;have f1:=n.f1;clear o;refine Za ?_;obtain⟨A,M,O,T,R,N,P,S,U,_⟩:=m.o;exact⟨_,_,_,_,_,_,_,_,_,_,_,rfl,Ja ⟨A,λh=>(M h).set2 n rfl rfl _ _,λh=>(O h).set2 n rfl rfl _ _,λh=>(T h).set2 n rfl rfl _ _,R,λh=>(N h).set2 n rfl rfl _ _,λh=>(P h).set2 n rfl rfl _ _,λh=>(S h).set2 n rfl rfl _ _,λh=>(U h).set2 n rfl rfl _ _,⟨λh=>by simp[Qw]at h,λ_ h=>by simp at h,λ_=>⟨B,rfl,rfl⟩⟩⟩,Ja (z.o.putInt (i:=5) rfl hv)⟩
  rintro D aj ah ay ⟨tl,tm,tn,tp,tq,tr,ts,tt,tu,tx,x9,rfl,m,z⟩;obtain⟨B12,rfl,rfl⟩:=m.o.2.2.2.2.2.2.2.2.2.2.2 (ay 10 DR);clear m ay M3;have M4:Hid (Mem w ah [some (w.heap.size,.rat (p)),some (w.heap.size+1,.rat (q)),some (w.heap.size+1+1,.rat (0)),some (B8,.int (dn)),some (B9,.int (up)),some (B12,.int (x*y))]):=z;clear z;go_upto_region 5 with fail
  obtain⟨f8,fm,fe,ei,ai,fc⟩:=M4.o.int (i:=5) rfl;obtain⟨Qp,Qm⟩:=ai.cp;obtain⟨eh,f7,dt,du,eb,ed,cw,dw,av,cz,ga,gt⟩:=M4.o.rat (i:=0) rfl;obtain⟨Qq,Qn,Qj,Qg⟩:=av.cq;obtain⟨et,ff,cn,cy,aq,en⟩:=M4.o.int (i:=4) rfl;obtain⟨Qr,Qk⟩:=aq.cp;obtain⟨fl,fk,fj,ef,fi,eq,fd,ew,ak,dz,fy,gl⟩:=M4.o.rat (i:=1) rfl;obtain⟨Qh,Qf,Qd,Qi⟩:=ak.cq;obtain⟨dx,dj,co,fa,ap,fh⟩:=M4.o.int (i:=3) rfl;obtain⟨Qb,Qa⟩:=ap.cp;obtain⟨fv,gc,go,ia,gg,gp,gy,gw,Z,gk,gh,ft⟩:=M4.o.rat (i:=2) rfl;obtain⟨Qo,Qc,Qe,Ql⟩:=Z.cq;obtain⟨Qu,Qv,Qt,Qs⟩:=Z.fq;obtain⟨H2,H4,H6,H8,H9,Ue⟩:=IU (λ(V:I) (h:Bl ah V)=>FO _ p V (cz.below h)) (λ(V:I) (h:Bl ah V) (v2:J) (g2:Jk V v2 ((p.den:Int)))=>X3 _ _ (p.den:Int) up V g2 (en.below h) T4.o HP.o.den T3.o) (λ(V:I) (h:Bl ah V)=>FO _ q V (dz.below h)) (λ(V:I) (h:Bl ah V) (v6:J) (g6:Jk V v6 ((q.den:Int)))=>X3 _ _ (q.den:Int) dn V g6 (fh.below h) T2.o HQ.o.den T1.o) (λ(V:I) (h:Bl ah V) (v4:J) (g4:Jk V v4 ((p.den:Int)/up)) (v8:J) (g8:Jk V v8 ((q.den:Int)/dn))=>XY _ _ ((p.den:Int)/up) ((q.den:Int)/dn) V g4 g8 (by have Q:=(DZ.div (y:=up) HP.o.den).words;have h2:=(DZ.div (y:=dn) HQ.o.den).words;omega)) (λ(V:I) (h:Bl ah V) (v9:J) (g9:Jk V v9 ((p.den:Int)/up*((q.den:Int)/dn)))=>Kg _ _ (p*q) V (by rw[T7.o];exact(fc.below h)) (by rw[T8.o];exact g9));have gn:B12≠w.heap.size+1+1:=M4.o.ne 5 2 rfl rfl DR;have ic:w.heap.size≠w.heap.size+1+1:=M4.o.ne 0 2 rfl rfl DR;have fw:B9≠w.heap.size+1+1:=M4.o.ne 4 2 rfl rfl DR;have gi:w.heap.size+1≠w.heap.size+1+1:=M4.o.ne 1 2 rfl rfl DR;have fo:B8≠w.heap.size+1+1:=M4.o.ne 3 2 rfl rfl DR;have f:Bl ah ah.drew:=(BB _ ah).drew;go_region_held3 (λX=>X.cell? ⟨B12,0,none⟩=some (E f8)/\X.cell? ⟨B12,1,none⟩=some (C fm fe ei)/\X.cell? ⟨w.heap.size,0,none⟩=some (E eh)/\X.cell? ⟨w.heap.size,1,none⟩=some (C f7 dt du)/\X.cell? ⟨w.heap.size,2,none⟩=some (E eb)/\X.cell? ⟨w.heap.size,3,none⟩=some (C ed cw dw)/\X.cell? ⟨B9,0,none⟩=some (E et)/\X.cell? ⟨B9,1,none⟩=some (C ff cn cy)/\X.cell? ⟨w.heap.size+1,0,none⟩=some (E fl)/\X.cell? ⟨w.heap.size+1,1,none⟩=some (C fk fj ef)/\X.cell? ⟨w.heap.size+1,2,none⟩=some (E fi)/\X.cell? ⟨w.heap.size+1,3,none⟩=some (C eq fd ew)/\X.cell? ⟨B8,0,none⟩=some (E dx)/\X.cell? ⟨B8,1,none⟩=some (C dj co fa)) (first|(with_reducible exact⟨Qp,Qm,Qq,Qn,Qj,Qg,Qr,Qk,Qh,Qf,Qd,Qi,Qb,Qa⟩)|(go_keep;done)|(refine⟨?_,?_,?_,?_,?_,?_,?_,?_,?_,?_,?_,?_,?_,?_⟩<;>((repeat rw[JH om]);first|assumption|(go_keep;done))))
   (first
    |(go_at_call 82;refine(H2.o _ f ).mono ?_;clear H2;rintro e w2 ⟨v2,rfl,g2,an⟩;have f:=Bt f an;obtain⟨Qp,Qm⟩:=(ai.below f).cp;obtain⟨Qq,Qn,Qj,Qg⟩:=(av.below f).cq;obtain⟨Qr,Qk⟩:=(aq.below f).cp;obtain⟨Qh,Qf,Qd,Qi⟩:=(ak.below f).cq;obtain⟨Qb,Qa⟩:=(ap.below f).cp;obtain⟨Qo,Qc,Qe,Ql⟩:=(Z.below f).cq;obtain⟨Qu,Qv,Qt,Qs⟩:=(Z.below f).fq)
    |(go_at_call 84;refine(H4.o _ f _ g2).mono ?_;clear H4;rintro e w4 ⟨v4,rfl,g4,ci⟩;have g2:=g2.below ci;have f:=Bt f ci;obtain⟨Qp,Qm⟩:=(ai.below f).cp;obtain⟨Qq,Qn,Qj,Qg⟩:=(av.below f).cq;obtain⟨Qr,Qk⟩:=(aq.below f).cp;obtain⟨Qh,Qf,Qd,Qi⟩:=(ak.below f).cq;obtain⟨Qb,Qa⟩:=(ap.below f).cp;obtain⟨Qo,Qc,Qe,Ql⟩:=(Z.below f).cq;obtain⟨Qu,Qv,Qt,Qs⟩:=(Z.below f).fq)
    |(go_at_call 82;refine(H6.o _ f ).mono ?_;clear H6;rintro e w6 ⟨v6,rfl,g6,bk⟩;have g2:=g2.below bk;have g4:=g4.below bk;have f:=Bt f bk;obtain⟨Qp,Qm⟩:=(ai.below f).cp;obtain⟨Qq,Qn,Qj,Qg⟩:=(av.below f).cq;obtain⟨Qr,Qk⟩:=(aq.below f).cp;obtain⟨Qh,Qf,Qd,Qi⟩:=(ak.below f).cq;obtain⟨Qb,Qa⟩:=(ap.below f).cp;obtain⟨Qo,Qc,Qe,Ql⟩:=(Z.below f).cq;obtain⟨Qu,Qv,Qt,Qs⟩:=(Z.below f).fq)
    |(go_at_call 84;refine(H8.o _ f _ g6).mono ?_;clear H8;rintro e w8 ⟨v8,rfl,g8,bh⟩;have g2:=g2.below bh;have g4:=g4.below bh;have g6:=g6.below bh;have f:=Bt f bh;obtain⟨Qp,Qm⟩:=(ai.below f).cp;obtain⟨Qq,Qn,Qj,Qg⟩:=(av.below f).cq;obtain⟨Qr,Qk⟩:=(aq.below f).cp;obtain⟨Qh,Qf,Qd,Qi⟩:=(ak.below f).cq;obtain⟨Qb,Qa⟩:=(ap.below f).cp;obtain⟨Qo,Qc,Qe,Ql⟩:=(Z.below f).cq;obtain⟨Qu,Qv,Qt,Qs⟩:=(Z.below f).fq)
    |(go_at_call 85;refine(H9.o _ f _ g4 _ g8).mono ?_;clear H9;rintro e w9 ⟨v9,rfl,g9,bf⟩;have g2:=g2.below bf;have g4:=g4.below bf;have g6:=g6.below bf;have g8:=g8.below bf;have f:=Bt f bf;obtain⟨Qp,Qm⟩:=(ai.below f).cp;obtain⟨Qq,Qn,Qj,Qg⟩:=(av.below f).cq;obtain⟨Qr,Qk⟩:=(aq.below f).cp;obtain⟨Qh,Qf,Qd,Qi⟩:=(ak.below f).cq;obtain⟨Qb,Qa⟩:=(ap.below f).cp;obtain⟨Qo,Qc,Qe,Ql⟩:=(Z.below f).cq;obtain⟨Qu,Qv,Qt,Qs⟩:=(Z.below f).fq)
    |(go_at_call 86;refine(Ue.o _ f _ g9).mono ?_;clear Ue;rintro e gu ⟨gr,rfl,cj,aw⟩;obtain⟨dh,ct,er,di,de,fb,fg,dp,rfl⟩:=Ji.form cj;have g2:=g2.below aw;have g4:=g4.below aw;have g6:=g6.below aw;have g8:=g8.below aw;have g9:=g9.below aw;have f:=Bt f aw;obtain⟨Qp,Qm⟩:=(ai.below f).cp;obtain⟨Qq,Qn,Qj,Qg⟩:=(av.below f).cq;obtain⟨Qr,Qk⟩:=(aq.below f).cp;obtain⟨Qh,Qf,Qd,Qi⟩:=(ak.below f).cq;obtain⟨Qb,Qa⟩:=(ap.below f).cp;obtain⟨Qo,Qc,Qe,Ql⟩:=(Z.below f).cq;obtain⟨Qu,Qv,Qt,Qs⟩:=(Z.below f).fq))
  all_goals go_wp2_with fail
  have Ua:=Bt M4.o.2.2 f;have Uw:=M4.o.ge 2 rfl;exact BA (v:=F #[E dh,C ct er di,E de,C fb fg dp]) (by simp[results,Tryz.results41,go_sem,Qo,Qc,Qe,Ql]) rfl ⟨_,rfl,cj.put4 (Z.below f) rfl rfl rfl rfl _ _ _ _,Jp Ua Uw _ _ _ _⟩
theorem US(T S:J)(x y:Int)(w:I)(B:Jk w T x)(q:Jk w S y)(R:DZ x)(X:DZ y):
 Calls L 107 #[T,S] w λe w'=>∃u,e=.returned (.tuple #[u,E (decide (y≠0))])/\Ji w' u (Rat.divInt x y)/\Bl w w':=by
 have HX:=Ja R;have HY:=Ja X;clear R X;obtain⟨s,a,Z,U,rfl⟩:=Jk.form2 B;obtain⟨t,b,lb,cb,rfl⟩:=Jk.form2 q;have O:=MF w s t a b Z U lb cb _ _ B q;obtain⟨W0,A⟩:=ex (((w.alloc (G #[E s,C a Z U] 36)).alloc (G #[E t,C b lb cb] 36)).alloc (G #[E false,C none 0 0,E false,C none 0 0] 38));have W:=Ja A;rw[A]at O;have g:Hid (Mem w W0 [some (w.heap.size,.int (x)),some (w.heap.size+1,.int (y)),some (w.heap.size+1+1,.rat (0))]):=Ja O;clear O B q A;obtain⟨s1,a1,l1,c1,P,i1⟩:=g.o.int (i:=0) rfl;obtain⟨Ql,Qo⟩:=P.cp;obtain⟨s2,a2,l2,c2,n2,Q⟩:=g.o.int (i:=1) rfl;obtain⟨Qk,Qn⟩:=n2.cp;obtain⟨s3,a3,l3,c3,t3,b3,k3,d3,f,r3,i3,j3⟩:=g.o.rat (i:=2) rfl;obtain⟨j,k,m,l⟩:=f.cq;obtain⟨M,r,D,z⟩:=f.fq;have o:=Ja (Ok _ y W0 Q);have n:=Ja (λ(V:I) (h:Bl W0 V) (d:y≠0)=>Om _ _ x y V (i1.below h) (Q.below h) d HX.o HY.o);by_cases d:y=0
 . rw[BJ d]at o;have K:=Ja (BF (p:=y≠0) (λh=>h d));rw[K.o];have HE:=Ja (show Rat.divInt x y=0 by rw[d,Rat.divInt_zero]);clear d n;go_enter Tryz.func107,Tryz.ntmps107
   go_upto_region 1 with fail
   rw[W.o];go_wp2_with(go_at_call 100;refine o.o.mono ?_;rintro e Y ⟨rfl,c⟩;obtain⟨j,k,m,l⟩:=(f.below c).cq;obtain⟨M,r,D,z⟩:=(f.below c).fq)
   have hr:Ji Y (F #[E false,C none 0 0,E false,C none 0 0]) (Rat.divInt x y):=by rw[HE.o];exact EO _
   have N:=Bt g.o.2.2 c;exact BA (v:=.tuple #[F #[E false,C none 0 0,E false,C none 0 0],E false]) (by simp[results,Tryz.results107,go_sem,j,k,m,l]) rfl ⟨_,rfl,hr.put4 (f.below c) rfl rfl rfl rfl _ _ _ _,Jp N om _ _ _ _⟩
 . rw[BF d]at o;have K:=Ja (BJ (p:=y≠0) d);rw[K.o];have n:=Ja (λV h=>n.o V h d);clear d;go_enter Tryz.func107,Tryz.ntmps107
   go_upto_region 1 with fail
   rw[W.o];go_wp2_with(first
    |(go_at_call 100;refine o.o.mono ?_;rintro e Y ⟨rfl,c⟩;obtain⟨Ql,Qo⟩:=(P.below c).cp;obtain⟨Qk,Qn⟩:=(n2.below c).cp;obtain⟨j,k,m,l⟩:=(f.below c).cq;obtain⟨M,r,D,z⟩:=(f.below c).fq)
    |(go_at_call 104;refine(n.o _ c).mono ?_;clear n;rintro e w2 ⟨u2,rfl,ad,ah⟩;obtain⟨ap,ai,af,aq,ak,aj,an,ae,rfl⟩:=Ji.form ad;have c:=Bt c ah;obtain⟨j,k,m,l⟩:=(f.below c).cq;obtain⟨M,r,D,z⟩:=(f.below c).fq))
   have N:=Bt g.o.2.2 c;have Qm:=g.o.ge 2 rfl;exact BA (v:=.tuple #[F #[E ap,C ai af aq,E ak,C aj an ae],E true]) (by simp[results,Tryz.results107,go_sem,j,k,m,l]) rfl ⟨_,rfl,ad.put4 (f.below c) rfl rfl rfl rfl _ _ _ _,Jp N Qm _ _ _ _⟩
def Hl(p q:Rat):Int:=EJ (p.num*q.den) (q.num*p.den)
theorem UT(va vb:J)(p q:Rat)(w:I)(ha:Ji w va p)(Y:Ji w vb q)(ai:Sq p)(af:Sq q):
 Calls L 42 #[va,vb] w λe g=>e=.returned (.int .i64 (Hl p q))/\Bl w g:=by
 obtain⟨s,a,l,c,t,b,k,d,rfl⟩:=Ji.form ha;obtain⟨s',a',l',c',t',b',k',d',rfl⟩:=Ji.form Y;have M0:=UM w s t s' t' a b a' b' l c k d l' c' k' d' p q ha Y;obtain⟨W0,Z⟩:=ex ((w.alloc (G #[E s,C a l c,E t,C b k d] 38)).alloc (G #[E s',C a' l' c',E t',C b' k' d'] 38));have Ql:=Ja Z;rw[Z]at M0;have Q:Hid (Mem w W0 [some (w.heap.size,.rat (p)),some (w.heap.size+1,.rat (q))]):=Ja M0;obtain⟨n,hn⟩:=ex (Hl p q);have HN:=Ja hn;rw[hn];have HP:=Ja ai;have HQ:=Ja af;clear M0 ha Y Z ai af hn;go_enter Tryz.func42,Tryz.ntmps42
 go_upto_region 1 with fail
 rw[Ql.o];clear Ql;obtain⟨X,ae⟩:=ex (decide (p.den=1/\q.den=1):Bool);have T:=Ja ae;clear ae;go_cut [10] (λc g=>c=E X/\Hid (Mem w g [some (w.heap.size,.rat (p)),some (w.heap.size+1,.rat (q))]))
 case first=>
  obtain⟨s1,a1,l1,c1,t1,b1,k1,d1,n1,r1,i1,j1⟩:=Q.o.rat (i:=0) rfl;obtain⟨Qs,Qr,Qq,Qn⟩:=n1.cq;obtain⟨s2,a2,l2,c2,t2,b2,k2,d2,n2,r2,i2,j2⟩:=Q.o.rat (i:=1) rfl;obtain⟨Qo,Qt,Qp,Qu⟩:=n2.cq;have m:=Ja (Xr _ p W0 r1);have H2:=Ja (λ(V:I) (h:Bl W0 V)=>Xr _ q V (r2.below h));by_cases r:p.den=1
  . rw[BJ r]at m;obtain⟨b2,R⟩:=ex (decide (q.den=1));rw[R]at H2;have Qj:=Ja (show b2=X by rw[<-R,<-T.o];exact decide_eq_decide.2 ⟨λh=>⟨r,h⟩,λh=>h.2⟩);clear R r;go_wp2_with(first
     |(go_at_call 59;refine m.o.mono ?_;clear m;rintro e w1 ⟨rfl,O⟩;obtain⟨Qs,Qr,Qq,Qn⟩:=(n1.below O).cq;obtain⟨Qo,Qt,Qp,Qu⟩:=(n2.below O).cq)
     |(go_at_call 59;refine(H2.o _ O).mono ?_;clear H2;rintro e w2 ⟨rfl,R⟩))
    go_meet
    case rel=>exact⟨by rw[Qj.o],Ja ((Q.o.below O).below R)⟩
  . rw[BF r]at m;have Qj:=Ja (show X=false by rw[<-T.o];exact BF (λh=>r h.1));clear r;go_wp2_with(go_at_call 59;refine m.o.mono ?_;clear m;rintro e w1 ⟨rfl,O⟩)
    go_meet
    case rel=>exact⟨by rw[Qj.o],Ja (Q.o.below O)⟩
 obtain⟨rfl,MM⟩:=hcut;have y:Hid (Mem w wc [some (w.heap.size,.rat (p)),some (w.heap.size+1,.rat (q))]):=MM;clear Q MM;cases X with
 |true=>
  have Qk:=Bg T.o;have HE:=Ja (show EJ p.num q.num=n by rw[<-HN.o];unfold Hl;rw[Qk.1,Qk.2];simp);clear Qk T;obtain⟨s3,a3,l3,c3,t3,b3,k3,d3,n3,r3,i3,j3⟩:=y.o.rat (i:=0) rfl;obtain⟨bc,aw,aq,ak⟩:=n3.cq;obtain⟨s4,a4,l4,c4,t4,b4,k4,d4,n4,r4,i4,j4⟩:=y.o.rat (i:=1) rfl;obtain⟨az,ay,ap,an⟩:=n4.cq;have m:=Ja (Gd _ _ p.num q.num wc i3 i4);rw[HE.o]at m;go_wp2_with(go_at_call 87;refine m.o.mono ?_;clear m;rintro e w1 ⟨rfl,f⟩)
  go_ret;exact⟨rfl,Bt y.o.2.2 f⟩
 |false=>
  clear T;go_upto_region 3 with fail
  obtain⟨s5,a5,l5,c5,t5,b5,k5,d5,M,r5,i5,j5⟩:=y.o.rat (i:=0) rfl;obtain⟨D,x,A,P⟩:=M.cq;obtain⟨s6,a6,l6,c6,t6,b6,k6,d6,v,r6,i6,j6⟩:=y.o.rat (i:=1) rfl;obtain⟨z,K,N,B⟩:=v.cq;obtain⟨H3,H4,H8,H9,Qm⟩:=GB (λ(V:I) (h:Bl wc V)=>FO _ q V (r6.below h)) (λ(V:I) (h:Bl wc V) (v3:J) (j:Jk V v3 ((q.den:Int)))=>XY _ _ p.num (q.den:Int) V (i5.below h) j (by have r:=HP.o.num.words;have h2:=HQ.o.den.words;omega)) (λ(V:I) (h:Bl wc V)=>FO _ p V (r5.below h)) (λ(V:I) (h:Bl wc V) (v8:J) (u:Jk V v8 ((p.den:Int)))=>XY _ _ q.num (p.den:Int) V (i6.below h) u (by have r:=HQ.o.num.words;have h2:=HP.o.den.words;omega)) (λ(V:I) (h:Bl wc V) (v4:J) (o:Jk V v4 (p.num*(q.den:Int))) (v9:J) (U:Jk V v9 (q.num*(p.den:Int)))=>(by have h:=Gd _ _ (p.num*(q.den:Int)) (q.num*(p.den:Int)) V o U;rw[show EJ (p.num*(q.den:Int)) (q.num*(p.den:Int))=n from HN.o]at h;exact h));have f:Bl wc wc.drew:=(BB _ wc).drew;go_region_held3 (λg=>g.cell? ⟨w.heap.size,0,none⟩=some (E s5)/\g.cell? ⟨w.heap.size,1,none⟩=some (C a5 l5 c5)/\g.cell? ⟨w.heap.size,2,none⟩=some (E t5)/\g.cell? ⟨w.heap.size,3,none⟩=some (C b5 k5 d5)/\g.cell? ⟨w.heap.size+1,0,none⟩=some (E s6)/\g.cell? ⟨w.heap.size+1,1,none⟩=some (C a6 l6 c6)/\g.cell? ⟨w.heap.size+1,2,none⟩=some (E t6)/\g.cell? ⟨w.heap.size+1,3,none⟩=some (C b6 k6 d6)) (first|(with_reducible exact⟨D,x,A,P,z,K,N,B⟩)|(go_keep;done)|(refine⟨?_,?_,?_,?_,?_,?_,?_,?_⟩<;>((repeat rw[JH om]);first|assumption|(go_keep;done))))
   (first
    |(go_at_call 82;refine(H3.o _ f ).mono ?_;clear H3;rintro e w3 ⟨v3,rfl,j,aj⟩;have f:=Bt f aj;obtain⟨D,x,A,P⟩:=(M.below f).cq;obtain⟨z,K,N,B⟩:=(v.below f).cq)
    |(go_at_call 85;refine(H4.o _ f _ j).mono ?_;clear H4;rintro e w4 ⟨v4,rfl,o,ah⟩;have j:=j.below ah;have f:=Bt f ah;obtain⟨D,x,A,P⟩:=(M.below f).cq;obtain⟨z,K,N,B⟩:=(v.below f).cq)
    |(go_at_call 82;refine(H8.o _ f ).mono ?_;clear H8;rintro e w8 ⟨v8,rfl,u,ad⟩;have j:=j.below ad;have o:=o.below ad;have f:=Bt f ad;obtain⟨D,x,A,P⟩:=(M.below f).cq;obtain⟨z,K,N,B⟩:=(v.below f).cq)
    |(go_at_call 85;refine(H9.o _ f _ u).mono ?_;clear H9;rintro e w9 ⟨v9,rfl,U,W⟩;have j:=j.below W;have o:=o.below W;have u:=u.below W;have f:=Bt f W;obtain⟨D,x,A,P⟩:=(M.below f).cq;obtain⟨z,K,N,B⟩:=(v.below f).cq)
    |(go_at_call 87;refine(Qm.o _ f _ o _ U).mono ?_;clear Qm;rintro e av ⟨rfl,S⟩;have j:=j.below S;have o:=o.below S;have u:=u.below S;have U:=U.below S;have f:=Bt f S;obtain⟨D,x,A,P⟩:=(M.below f).cq;obtain⟨z,K,N,B⟩:=(v.below f).cq))
  all_goals go_wp2_with fail
  go_ret;exact⟨rfl,Bt y.o.2.2 f⟩
theorem On(va vb:J)(p q:Rat)(w:I)(D:Ji w va p)(x:Ji w vb q)(ae:Sq p)(ad:Sq q):
 Calls L 43 #[va,vb] w λe j=>∃u,e=.returned u/\Ji j u (p-q)/\Bl w j:=by
 obtain⟨s,a,l,c,t,b,k,d,rfl⟩:=Ji.form D;obtain⟨s',Z,l',c',t',b',k',d',rfl⟩:=Ji.form x;have U:=MG w s t s' t' a b Z b' l c k d l' c' k' d' p q D x;obtain⟨W0,A⟩:=ex (((w.alloc (G #[E s,C a l c,E t,C b k d] 38)).alloc (G #[E s',C Z l' c',E t',C b' k' d'] 38)).alloc (G #[E false,C none 0 0,E false,C none 0 0] 38));have Qo:=Ja A;rw[A]at U;have m:Hid (Mem w W0 [some (w.heap.size,.rat (p)),some (w.heap.size+1,.rat (q)),some (w.heap.size+1+1,.rat (0))]):=Ja U;have bj:Tryz.prog.follows .mixedOrders=true:=by kernel_rfl
 have HP:=Ja ae;have HQ:=Ja ad;clear U D x A ae ad;go_enter Tryz.func43,Tryz.ntmps43
 go_upto_region 1 with fail
 rw[Qo.o];clear Qo;obtain⟨s1,a1,l1,c1,t1,b1,k1,d1,r,r1,i1,j1⟩:=m.o.rat (i:=0) rfl;obtain⟨R,Q,N,M⟩:=r.cq;obtain⟨s2,a2,l2,c2,t2,W,k2,d2,S,r2,i2,j2⟩:=m.o.rat (i:=1) rfl;obtain⟨O,z,o,K⟩:=S.cq;obtain⟨s3,a3,l3,c3,t3,b3,k3,d3,n,r3,i3,j3⟩:=m.o.rat (i:=2) rfl;obtain⟨T,P,y,B⟩:=n.cq;obtain⟨Qn,X,Qp,Qq⟩:=n.fq;have Y:=Ja (λ(V:I) (h:Bl W0 V)=>OZ _ _ 0 q.num V (EK _) (i2.below h) (by have:=DZ.zero.words;omega) (by have:=HQ.o.num.words;omega));have H2:=Ja (λ(V:I) (h:Bl W0 V) (s:Bool) (a:Option Addr) (l c:Nat) (g:Jk V (F #[E s,C a l c]) (0-q.num))=>show Calls L 40 #[F #[E s1,C a1 l1 c1,E t1,C b1 k1 d1],F #[E s,C a l c,E t2,C W k2 d2]] V λe j=>∃u,e=.returned u/\Ji j u (p-q)/\Bl V j by
  have h1:=Hk _ _ p (-q) V (r1.below h) (Ji.mk (q:=-q) (by rw[Rat.neg_num,<-Int.zero_sub];exact g) (j2.below h)) HP.o HQ.o.neg;rw[<-Rat.sub_eq_add_neg]at h1;exact h1)
 have bh:w.heap.size≠w.heap.size+1+1:=m.o.ne 0 2 rfl rfl DR;have bf:w.heap.size+1≠w.heap.size+1+1:=m.o.ne 1 2 rfl rfl DR;have f:Bl W0 W0.drew:=(BB _ W0).drew;go_region_held3 (λj=>j.cell? ⟨w.heap.size,0,none⟩=some (E s1)/\j.cell? ⟨w.heap.size,1,none⟩=some (C a1 l1 c1)/\j.cell? ⟨w.heap.size,2,none⟩=some (E t1)/\j.cell? ⟨w.heap.size,3,none⟩=some (C b1 k1 d1)/\j.cell? ⟨w.heap.size+1,0,none⟩=some (E s2)/\j.cell? ⟨w.heap.size+1,1,none⟩=some (C a2 l2 c2)/\j.cell? ⟨w.heap.size+1,2,none⟩=some (E t2)/\j.cell? ⟨w.heap.size+1,3,none⟩=some (C W k2 d2)) (first|(with_reducible exact⟨R,Q,N,M,O,z,o,K⟩)|(go_keep;done)|(refine⟨?_,?_,?_,?_,?_,?_,?_,?_⟩<;>((repeat rw[JH om]);first|assumption|(go_keep;done))))
  (first
   |(go_at_call 88;refine(Y.o _ f).mono ?_;clear Y;rintro e w1 ⟨u1,rfl,af,aq⟩;obtain⟨bi,bg,bd,bc,rfl⟩:=Jk.form2 af;have f:=Bt f aq;obtain⟨R,Q,N,M⟩:=(r.below f).cq;obtain⟨O,z,o,K⟩:=(S.below f).cq;obtain⟨T,P,y,B⟩:=(n.below f).cq;obtain⟨Qn,X,Qp,Qq⟩:=(n.below f).fq)
   |(go_at_call 40;refine(H2.o _ f _ _ _ _ af).mono ?_;clear H2;rintro e w2 ⟨u2,rfl,ah,ak⟩;obtain⟨ay,an,aj,az,av,ap,aw,ai,rfl⟩:=Ji.form ah;have f:=Bt f ak;obtain⟨R,Q,N,M⟩:=(r.below f).cq;obtain⟨O,z,o,K⟩:=(S.below f).cq;obtain⟨T,P,y,B⟩:=(n.below f).cq;obtain⟨Qn,X,Qp,Qq⟩:=(n.below f).fq))
 all_goals go_wp2_with fail
 have Qr:=Bt m.o.2.2 f;have Qs:=m.o.ge 2 rfl;exact BA (v:=F #[E ay,C an aj az,E av,C ap aw ai]) (by simp[results,Tryz.results43,go_sem,T,P,y,B]) rfl ⟨_,rfl,ah.put4 (n.below f) rfl rfl rfl rfl _ _ _ _,Jp Qr Qs _ _ _ _⟩
theorem UU(q:Rat):Hl q 0=0↔q=0:=by
 rw[Rat.eq_iff_mul_eq_mul];unfold Hl EJ;split<;>(try split)<;>omega
theorem GJ:Sq 0:=Sq.of (k:=1) ⟨Sm.zero _,Sm.one _ om⟩ om
theorem Oo(v:J)(q:Rat)(w:I)(h:Ji w v q)(p:Sq q):
 Calls L 51 #[v] w λe r=>e=.returned (E (decide (q=0)))/\Bl w r:=by
 obtain⟨s,a,l,c,t,b,k,d,rfl⟩:=h.form;have b0:=JE.new w 38 (E s) (C a l c) (E t) (C b k d);have f:Bl w (w.alloc (G #[E s,C a l c,E t,C b k d] 38)):=Ba w _;obtain⟨W0,g⟩:=ex (w.alloc (G #[E s,C a l c,E t,C b k d] 38));rw[g]at b0 f;have o:=Ja g;have m:=Ja (UT _ _ q 0 W0 (h.below f) (EO _) p GJ);obtain⟨x,A,y,B⟩:=b0.cq;have i:=Ja (UU q);obtain⟨n,j⟩:=ex (Hl q 0);rw[j]at m i;clear g j;go_enter Tryz.func51,Tryz.ntmps51
 go_upto_region 1 with fail
 rw[o.o];go_wp2_with(go_at_call 42;refine m.o.mono ?_;rintro e z ⟨rfl,u⟩)
 go_ret;refine⟨?_,Bt f u⟩;show Ending.returned (Value.bool (n==0))=_;have e:(n==0)=decide (q=0):=by rw[Cn];simp[i.o]
 rw[e]
def UV(c:Nat)(a:Option Addr)(len cap:Nat)(x y z u:Nat->J)(k:Nat)(W:I):Prop:=
 W.cell? ⟨c,0,none⟩=some (C a len cap)/\(k<len->∃b,a=some ⟨b,0,none⟩/\W.cell? ⟨b,(len-1-k)*4,none⟩=some (x (len-1-k))/\W.cell? ⟨b,(len-1-k)*4+1,none⟩=some (y (len-1-k))/\
  W.cell? ⟨b,(len-1-k)*4+2,none⟩=some (z (len-1-k))/\W.cell? ⟨b,(len-1-k)*4+3,none⟩=some (u (len-1-k)))
def Ie(len:Nat)(x y z u:Nat->J)(k:Nat):Array J:=#[.int .i64 ((len:Int)-1-k),F #[x (len-1-k),y (len-1-k),z (len-1-k),u (len-1-k)]]
theorem MI(F:Fence)(n:Nat)(D:F.fn 94)(s:F.round=none)(U:1<=n)(f:Nat)(a:Option Addr)(len cap:Nat)(x y z u:Nat->J)(O:len<=1099511627776):
 Hd F n L 94 #[H (some ⟨f,0,none⟩)] len (Ie len x y z u) (UV f a len cap x y z u):=λl M X W o K j=>by
 have N:=(o 0 W j).1;refine Bw Tryz.func94 rfl D ?_ s;simp only[Tryz.ntmps94,An,Aj,AU,Nat.reduceAdd,Nat.reduceSub,AF,AG,AY,AK,Ap,Ax];gi_wp2;gi_loopw [3] (λi wr=>∃k:Nat,k<=len/\i=.int .i64 ((len:Int)-1-k)/\M k wr) (λi _=>(intOf i+1).toNat)
 case atStart=>exact⟨0,AX _,DO,j⟩
 case round=>
  obtain⟨k,T,rfl,d⟩:=hrel;obtain⟨R,A⟩:=o k wr d;by_cases c:k<len
  . obtain⟨b,rfl,P,Q,Z,Y⟩:=A c;obtain⟨fn,tmps,assign,body,r,t⟩:=K k wr d c;have g:((len:Int)-1-k)=((len-1-k:Nat):Int):=om
    have S:len-1-k<len:=om
    dsimp only[Ie]at r;rw[g]at r ⊢;generalize q:len-1-k=m at *;have v:=Hid.o (p:=Hid (len-1-k=m)) q;clear q g;gi_wp2;refine t.mono ?_;rintro e V (⟨rfl,B⟩|⟨rfl,w⟩)
    . gi_wp2;go_roundw
      case rel=>exact⟨k+1,om,by(congr 1;have:=v.o;omega),B⟩
      case measure=>simp[intOf]
    . gi_wp2;refine BA (results_none rfl _ _ _) rfl ?_;exact⟨⟨_,rfl⟩,.inr ⟨k,c,w⟩⟩
  . obtain rfl:k=len:=om
    gi_wp2;go_end0;exact⟨⟨_,rfl⟩,.inl d⟩
theorem MJ(F:Fence)(n:Nat)(b:F.fn 50)(c:F.round=none)(a:Option Addr)(len cap:Nat)(w:I):
 CallsIn F n L 50 #[C a len cap] w λe d=>e=.returned (.func (.func 94) #[] #[H (some ⟨w.heap.size,0,none⟩)])/\d=w.alloc (G #[C a len cap] 23):=by
 refine Bw Tryz.func50 rfl b ?_ c;simp only[Tryz.ntmps50,An,Aj,AU,Nat.reduceAdd,Nat.reduceSub,AF,AG,AY,AK,Ap,Ax];gi_wp2;go_ret;exact⟨rfl,rfl⟩
def Ki:J->Bool|E b=>b|_=>false
def Gj:J->Option Addr|C a _ _=>a|_=>none
def Gk:J->Nat|C _ _ c=>c|_=>0
theorem RowK.pick{r:Bool}(h:RowK r W (C a l cap) qs):l=qs.length/\l<=cap/\cap<=9223372036854775807/\l<=1099511627776/\∃x y z u:Nat->J,∀j,j<l->Dz r W (F #[x j,y j,z j,u j]) (cf qs j)/\
 ∃b,a=some ⟨b,0,none⟩/\b<W.heap.size/\W.cell? ⟨b,j*4,none⟩=some (x j)/\W.cell? ⟨b,j*4+1,none⟩=some (y j)/\W.cell? ⟨b,j*4+2,none⟩=some (z j)/\W.cell? ⟨b,j*4+3,none⟩=some (u j):=by
 obtain⟨s,t,e,o,p,d,f⟩:=h;cases e;refine⟨rfl,o,p,d,?_⟩;rcases f with f|⟨b,q,n⟩
 . exact⟨λ_=>undef,λ_=>undef,λ_=>undef,λ_=>undef,λj c=>by rw[f]at c;simp at c⟩
 . obtain⟨cs,c1,c2⟩:=n;refine⟨λj=>cs[j*4]?.getD undef,λj=>cs[j*4+1]?.getD undef,λj=>cs[j*4+2]?.getD undef,λj=>cs[j*4+3]?.getD undef,λj c=>?_⟩;obtain⟨x,y,z,u,i,g,k,m,d⟩:=c2 j c;dsimp only;rw[i,g,k,m];exact⟨d,b,q,(Ac.1 c1).1,cell_of c1 i,cell_of c1 g,cell_of c1 k,cell_of c1 m⟩
theorem RowK.forms(h:RowK true W (C a l cap) qs):l=qs.length/\l<=cap/\cap<=9223372036854775807/\l<=1099511627776/\∃(s t:Nat->Bool) (k n:Nat->Option Addr) (m o p dd:Nat->Nat),∀j,j<l->Ji W (F #[E (s j),C (k j) (m j) (o j),E (t j),C (n j) (p j) (dd j)]) (cf qs j)/\
 ∃b,a=some ⟨b,0,none⟩/\b<W.heap.size/\W.cell? ⟨b,j*4,none⟩=some (E (s j))/\W.cell? ⟨b,j*4+1,none⟩=some (C (k j) (m j) (o j))/\W.cell? ⟨b,j*4+2,none⟩=some (E (t j))/\W.cell? ⟨b,j*4+3,none⟩=some (C (n j) (p j) (dd j)):=by
 obtain⟨B,K,r,A,x,y,z,u,v⟩:=h.pick;refine⟨B,K,r,A,λj=>Ki (x j),λj=>Ki (z j),λj=>Gj (y j),λj=>Gj (u j),λj=>lenV (y j),λj=>Gk (y j),λj=>lenV (u j),λj=>Gk (u j),λj q=>?_⟩;obtain⟨f,b,D,w,c0,c1,c2,c3⟩:=v j q;obtain⟨s,M,Q,c',t,N,P,O,e,_⟩:=(show Ji W _ _ from f);simp only[Value.agg.injEq,Fz,C7,and_true]at e;obtain⟨g,c,d,i⟩:=e;rw[g,c,d,i]at f;rw[g]at c0;rw[c]at c1;rw[d]at c2;rw[i]at c3;dsimp only;rw[g,c,d,i];exact⟨f,b,D,w,c0,c1,c2,c3⟩
def Op(w:I)(a:Option Addr)(len cap:Nat)(qs:List Rat)(k:Nat)(W:I):Prop:=
 ((((Boxed W w.heap.size 23 (C a len cap)/\Boxed W (w.heap.size+1) 93 (.func (.func 51) #[] #[]))/\Boxed W (w.heap.size+1+1) 23 (C none 0 0))/\Boxed W (w.heap.size+1+1+1) 23 (C a len cap))/\Bl w W)/\∀j,len-k<=j->j<len->cf qs j=0
def Oq(w:I)(a:Option Addr)(len cap:Nat)(qs:List Rat)(c:Code)(k:Nat)(W:I):Prop:=
 (Boxed W (w.heap.size+1+1) 23 (C a (len-1-k+1) cap)/\Bl w W)/\(c=.ret/\cf qs (len-1-k)≠0/\∀j,len-k<=j->j<len->cf qs j=0)
theorem UW(w:I)(a:Option Addr)(len cap:Nat)(qs:List Rat):OwnFrom (w.heap.size+1+1+1+1) (Op w a len cap qs):=
 BO (BO (BO (BO (BO (Bj (boxed_own _ _ (λ_=>C a len cap)) _) (Bj (boxed_own _ _ (λ_=>.func (.func 51) #[] #[])) _)) (Bj (boxed_own _ _ (λ_=>C none 0 0)) _)) (Bj (boxed_own _ _ (λ_=>C a len cap)) _)) (Bu (Aa _) om)) (DK _ _)
theorem UX(w:I)(a:Option Addr)(len cap:Nat)(qs:List Rat)(c:Code):OwnFrom (w.heap.size+1+1+1+1) (Oq w a len cap qs c):=
 BO (BO (Bj (boxed_own _ _ (λk=>C a (len-1-k+1) cap)) _) (Bu (Aa _) om)) (DK _ _)
theorem UY(a:Option Addr)(len cap:Nat)(qs:List Rat)(w:I)(h:RowK true w (C a len cap) qs)(hs:Dc qs):
 Calls L 106 #[C a len cap,.func (.func 51) #[] #[]] w λe y=>∃u,e=.returned u/\(RowK true y u (Jh qs)/\Bl w y)/\(u=C none 0 0/\Jh qs=[]\/u=C a (Jh qs).length cap):=by
 obtain⟨hl,ak,aj,ae,s,t,N,Q,O,B,R,dd,hc⟩:=h.forms;obtain⟨HL,HC,HS⟩:=Dm hl hc hs;clear hc hl hs;refine(BL (n:=3)).1 ?_;refine BW Tryz.func106 rfl trivial ?_ rfl;simp only[Tryz.ntmps106,An,Aj,AU,Nat.reduceAdd,Nat.reduceSub,AF,AG,AY,AK,Ap,Ax];gi_wp2_with(refine⟨trivial,?_⟩;gi_at_call 50;refine(MJ Fence.wide _ trivial rfl _ _ _ _).mono ?_;rintro e y ⟨rfl,rfl⟩)
 have b0:=(((BK w 23 (C a len cap)).alloc (G #[.func (.func 51) #[] #[]] 93)).alloc (G #[C none 0 0] 23)).alloc (G #[C a len cap] 23);have b1:=((BK (w.alloc (G #[C a len cap] 23)) 93 (.func (.func 51) #[] #[])).alloc (G #[C none 0 0] 23)).alloc (G #[C a len cap] 23);have Z:=(BK ((w.alloc (G #[C a len cap] 23)).alloc (G #[.func (.func 51) #[] #[]] 93)) 23 (C none 0 0)).alloc (G #[C a len cap] 23);have b3:=BK (((w.alloc (G #[C a len cap] 23)).alloc (G #[.func (.func 51) #[] #[]] 93)).alloc (G #[C none 0 0] 23)) 23 (C a len cap);simp only[A1]at b1 Z b3;have Qe:Bl w ((((w.alloc (G #[C a len cap] 23)).alloc (G #[.func (.func 51) #[] #[]] 93)).alloc (G #[C none 0 0] 23)).alloc (G #[C a len cap] 23)):=(((Ba w _).alloc DO _).alloc si _).alloc si _;have hN:((((w.alloc (G #[C a len cap] 23)).alloc (G #[.func (.func 51) #[] #[]] 93)).alloc (G #[C none 0 0] 23)).alloc (G #[C a len cap] 23)).heap.size=w.heap.size+1+1+1+1:=DO
 refine KI rfl om (gf:=94) (lb:=#[H (some ⟨w.heap.size+1+1+1,0,none⟩)]) rfl trivial (DF Tryz.func94 (by kernel_rfl) rfl)
  (MI Fence.wide _ trivial rfl om (w.heap.size+1+1+1) a len cap (λj=>E (s j)) (λj=>C (N j) (O j) (B j)) (λj=>E (t j)) (λj=>C (Q j) (R j) (dd j)) ae) (λ_=>rfl)
  (Op w a len cap qs) (Oq w a len cap qs) (by rw[hN];exact UW w a len cap qs) (λc=>by rw[hN];exact UX w a len cap qs c)
  ⟨⟨⟨⟨⟨b0,b1⟩,Z⟩,b3⟩,Qe⟩,λj v M=>by omega⟩ ?rd
  (λk b=>{ tmps:=#[C a len cap,.func (.func 51) #[] #[],H (some ⟨w.heap.size,0,none⟩),H (some ⟨w.heap.size+1,0,none⟩),H (some ⟨w.heap.size+1+1,0,none⟩),.int .i64 ((len:Int)-1-k),H (some ⟨b,0,none⟩),C a len cap,.func (.func 94) #[] #[H (some ⟨w.heap.size+1+1+1,0,none⟩)],.int .i64 ((len:Int)-1-k),F #[E (s (len-1-k)),C (N (len-1-k)) (O (len-1-k)) (B (len-1-k)),E (t (len-1-k)),C (Q (len-1-k)) (R (len-1-k)) (dd (len-1-k))],undef,undef,undef,undef,undef,undef,undef,undef],defers:=[] })
  (λk=>G #[E (s (len-1-k)),C (N (len-1-k)) (O (len-1-k)) (B (len-1-k)),E (t (len-1-k)),C (Q (len-1-k)) (R (len-1-k)) (dd (len-1-k))] 38 (0,0)) ?assign ?body ?done ?stop
 case rd=>
  rintro k W ⟨⟨⟨_,c3⟩,f⟩,_⟩;refine⟨c3.cell,λhk=>?_⟩;obtain⟨_,b,ea,A,v,M,h3,h4⟩:=HC.o (len-1-k) om;exact⟨b,ea,(f.cell (p:=⟨b,_,none⟩) A).trans v,(f.cell (p:=⟨b,_,none⟩) A).trans M,(f.cell (p:=⟨b,_,none⟩) A).trans h3,(f.cell (p:=⟨b,_,none⟩) A).trans h4⟩
 case assign=>
  intro l k W K o;unfold Ie;gi_wp2;exact o
 case body=>
  rintro l k b W ⟨⟨⟨⟨⟨c0,c1⟩,c2⟩,c3⟩,f⟩,i⟩ hk ai ah X;have hm:len-1-k<len:=om
  obtain⟨hi,_⟩:=HC.o (len-1-k) hm;have HI:=Ja (Ji.below hi f);have r:=Ja i;have e1:((len:Int)-1-k)=((len-1-k:Nat):Int):=om
  rw[e1];have Qd:=Ja (show len-1-k=len-1-k from rfl);clear e1 i hi;obtain⟨m,V⟩:=ex (len-1-k);have U:=Ja V;rw[V]at X HI hm ⊢;clear V Qd;have q0:JE W b 38 (E (s m)) (C (N m) (O m) (B m)) (E (t m)) (C (Q m) (R m) (dd m)):=X;obtain⟨k0,k1,k2,k3⟩:=q0.cq;have d0:=c0.cell;have d1:=c1.cell;have d2:=c2.cell;have f2:=c2.frozen;clear q0 X;have P:=Ja (BX l ((BL (n:=3-1-1-1)).2 (Oo _ _ W HI.o (HS.o.at m))));by_cases g:cf qs m=0
  . have S:=Ja g;rw[show decide (cf qs m=0)=true from BJ g]at P;clear g;gi_wp2_with(refine⟨trivial,?_⟩;gi_at_call 51;refine P.o.mono ?_;rintro e y ⟨rfl,d⟩)
    refine⟨(Yc d).from _,⟨⟨⟨⟨boxed_below c0 d,boxed_below c1 d⟩,boxed_below c2 d⟩,boxed_below c3 d⟩,Bt f d⟩,λj v M=>?_⟩;by_cases x:j=m
    . rw[x];exact S.o
    . have:=U.o;exact r.o j om M
  . have S:=Ja g;rw[show decide (cf qs m=0)=false from BF g]at P;clear g;gi_wp2_with(refine⟨trivial,?_⟩;gi_at_call 51;refine P.o.mono ?_;rintro e y ⟨rfl,d⟩;have d0:=(boxed_below c0 d).cell;have d2:=(boxed_below c2 d).cell;have f2:=(boxed_below c2 d).frozen)
    have ad:=Bt f d;refine⟨((Yc d).trans (BN _ _ _)).from _,⟨?_,ad.setCell (p:=⟨w.heap.size+1+1,0,none⟩) si _⟩,rfl,by rw[U.o];exact S.o,r.o⟩;rw[U.o];exact(boxed_below c2 d).set _
 case done=>
  rintro D W T ⟨⟨⟨⟨⟨c0,c1⟩,c2⟩,c3⟩,f⟩,i⟩ o;have d1:=c2.cell;have f1:=c2.frozen;have r:=Ja i;clear i;gi_wp2;have z:(W.setCell ⟨w.heap.size+1+1,0,none⟩ (C none 0 0)).heap[D]?=some (.deferred (some [])):=(BN W ⟨w.heap.size+1+1,0,none⟩ (C none 0 0)).same D _ o rfl;refine⟨DO,.inl ⟨_,_,rfl,Bc z,?_⟩⟩;have Y:=(c2.set (C none 0 0)).kept (BZ _ D (.deferred none)) (λe=>by cases e;rw[show(W.setCell ⟨w.heap.size+1+1,0,none⟩ (C none 0 0)).heap[w.heap.size+1+1]?=_ from c2.set (C none 0 0)]at z;cases z);have q:=Y.cell;have e0:Jh qs=[]:=Iy λj=>by
   rcases AB j len with x|x
   . exact r.o j om x
   . exact J4 (by have:=HL.o;omega)
  refine⟨C none 0 0,by simp[results,Tryz.results106,go_sem,q],_,rfl,⟨?_,?_⟩,Or.inl ⟨rfl,e0⟩⟩
  . rw[e0];exact RowK.nil _ _
  . exact(f.setCell (p:=⟨w.heap.size+1+1,0,none⟩) si _).trans (DM (w:=w) (Aa _) _ D _ _ (by simp at T;omega) z rfl rfl)
 case stop=>
  rintro D c k W T hk ⟨⟨c1,f⟩,rfl,g,i⟩ o;have d1:=c1.cell;have r:=Ja (show cf qs (len-1-k)≠0/\∀j,len-k<=j->j<len->cf qs j=0 from⟨g,i⟩);clear i g;gi_wp2;refine⟨DO,.inl ⟨_,_,rfl,Bc o,?_⟩⟩;have Y:=c1.kept (BZ _ D (.deferred none)) (λe=>by cases e;rw[show W.heap[w.heap.size+1+1]?=_ from c1]at o;cases o);have q:=Y.cell;have Qc:Bl w (W.putObj D (.deferred none)):=f.trans (DM (w:=w) (Aa _) _ D _ _ (by simp at T;omega) o rfl rfl);have af:=HL.o;have e:Jh qs=qs.take (len-1-k+1):=by
   refine Mu om (Or.inr r.o.1) λj x=>?_;rcases AB j len with v|v
   . exact r.o.2 j om v
   . exact J4 om
  have el:(qs.take (len-1-k+1)).length=len-1-k+1:=by rw[Ai];omega
  refine⟨C a (len-1-k+1) cap,by simp[results,Tryz.results106,go_sem,q],_,rfl,⟨?_,Qc⟩,Or.inr (by rw[e,el])⟩;rw[e];exact(h.below Qc).take om
def MK(b:Nat)(v:J):Prop:=∀a l c,v=C (some a) l c->b<=a.block
def Kj(b:Nat)(v:J):Prop:=∀a l c,v=F #[C (some a) l c]->b<=a.block
theorem Ei{B:Nat}{c:Nat}(b:Boxed W B 25 (C a l c))(x:J){v:J}(h:RowK true W v qs):RowK true (W.setCell ⟨B,0,none⟩ x) v qs:=
 M3.XZ (cs:=#[C a l c]) b (o:=0) rfl rfl true DR x v qs h
theorem Gl(v:J)(qs:List Rat)(w:I)(h:RowK true w v qs)(hs:Dc qs):
 Calls L 65 #[v] w λe o=>∃u,e=.returned u/\JC o u (Jh qs)/\(∀d,MK d v->Kj d u)/\Bl w o:=by
 obtain⟨a,l,c,rfl⟩:=h.form;have b0:=BK w 25 (C none 0 0);have g:Bl w (w.alloc (G #[C none 0 0] 25)):=Ba w _;obtain⟨W0,i⟩:=ex (w.alloc (G #[C none 0 0] 25));rw[i]at b0 g;have t:=Ja i;have k:=Ja (UY a l c qs W0 (h.below g) hs);have n:=b0.cell;have f0:=b0.frozen;clear i h hs;go_enter Tryz.func65,Tryz.ntmps65
 go_upto_region 1 with fail
 rw[t.o];go_wp2_with(go_at_call 106;refine k.o.mono ?_;clear k;rintro e B ⟨u,rfl,⟨j,q⟩,m⟩;obtain⟨y,s,x,rfl⟩:=j.form;have f:=boxed_below b0 q;have n:=f.cell;have f0:=f.frozen;have r:=Ja m;clear m)
 refine BA (v:=F #[C y s x]) (by simp[results,Tryz.results65,go_sem,n]) rfl ⟨_,rfl,⟨_,rfl,Ei f _ j⟩,?_,(Bt g q).setCell (p:=⟨w.heap.size,0,none⟩) (Aa _) _⟩;intro d z A D c' e;simp only[Value.agg.injEq,Fz,C7,and_true]at e;rcases r.o with⟨b,_⟩|b
 . rw[b]at e;cases e
 . rw[b]at e;cases e;exact z _ _ _ rfl
theorem Ot(v:J)(ps:List Rat)(w:I)(h:JC w v ps):
 Calls L 15 #[v] w λe c=>e=.returned (.int .i64 ((ps.length:Int)-1))/\Bl w c:=by
 obtain⟨u,rfl,b⟩:=h;obtain⟨a,cap,rfl,d,g,f,_⟩:=b.open;clear b;generalize ps.length=n at *;go_enter Tryz.func15,Tryz.ntmps15
 go_wp2;go_ret;exact⟨rfl,Ba _ _⟩
theorem Ou(v:J)(qs:List Rat)(i:Int)(w:I)(h:RowK true w v qs):
 Calls L 49 #[v,.int .i64 i] w λe n=>∃u,e=.returned u/\Ji n u (if i<0 then 0 else cf qs i.toNat)/\Bl w n:=by
 obtain⟨a,l,c,rfl⟩:=h.form;obtain⟨hl,W,T,U,s,t,p,O,r,N,P,dd,d⟩:=h.forms;have q:=Ja hl;have f:=Ja d;clear hl d h;by_cases k:i<0
 . rw[BI k];go_enter Tryz.func49,Tryz.ntmps49
   go_wp2;exact BA (v:=F #[E false,C none 0 0,E false,C none 0 0]) (by simp[results,Tryz.results49,go_sem]) rfl ⟨_,rfl,EO _,(Ba w _).alloc DO _⟩
 . rw[BE k];by_cases z:(l:Int)<=i
   . have A:=Ja (show cf qs i.toNat=0 from J4 (by have:=q.o;omega));rw[A.o];go_enter Tryz.func49,Tryz.ntmps49
     go_wp2;exact BA (v:=F #[E false,C none 0 0,E false,C none 0 0]) (by simp[results,Tryz.results49,go_sem]) rfl ⟨_,rfl,EO _,(Ba w _).alloc DO _⟩
   . obtain⟨m,rfl⟩:∃m:Nat,i=(m:Int):=⟨i.toNat,om⟩;have K:m<l:=om
     obtain⟨j,b,rfl,Q,V,g,R,S⟩:=f.o m K;have y:=Ja j;rw[Cv];clear f j z;generalize s m=D at *;generalize t m=x at *;generalize p m=M at *;generalize O m=B at *;generalize r m=o at *;generalize N m=c1 at *;generalize P m=g at *;generalize dd m=d1 at *;go_enter Tryz.func49,Tryz.ntmps49
     go_wp2;exact BA (v:=F #[E D,C M o c1,E x,C B g d1]) (by simp[results,Tryz.results49,go_sem]) rfl ⟨_,rfl,y.o.below (Ba w _),Ba w _⟩
theorem Tryz.infoRat:(Tryz.prog.info? 38).map (λi=>(i.zero,i.size,i.bytes))=some (some (F #[E false,C none 0 0,E false,C none 0 0]),4,64):=by kernel_rfl
def Xa(n:Nat):Array J:=madeCells #[E false,C none 0 0,E false,C none 0 0] (n*4)
theorem ML{n j:Nat}(b:j<n):(Xa n)[j*4]?=some (E false)/\(Xa n)[j*4+1]?=some (C none 0 0)/\(Xa n)[j*4+2]?=some (E false)/\(Xa n)[j*4+3]?=some (C none 0 0):=by
 unfold Xa madeCells;have h:∀k,k<n*4->((Array.range (n*4)).map (λi=>(#[Value.bool false,Value.slice none 0 0,Value.bool false,Value.slice none 0 0]:Array J)[i%4]!))[k]?=some ((#[Value.bool false,Value.slice none 0 0,Value.bool false,Value.slice none 0 0]:Array J)[k%4]!):=λk a=>by
  rw[Array.getElem?_map,Array.getElem?_range];simp[a]
 refine⟨(h _ om).trans ?_,(h _ om).trans ?_,(h _ om).trans ?_,(h _ om).trans ?_⟩
 . rw[show j*4%4=0 from by omega];rfl
 . rw[show(j*4+1)%4=1 from by omega];rfl
 . rw[show(j*4+2)%4=2 from by omega];rfl
 . rw[show(j*4+3)%4=3 from by omega];rfl
theorem Kk(n:Nat)(h:n<=2199023255552)(w:I):(Instr.makeSlice 23 (.int .i64 (n:Int)) (.int .i64 (n:Int))).run L w=.ok (C (some ⟨w.heap.size,0,none⟩) n n) (w.alloc (G (Xa n) 38)):=by
 obtain⟨i,d,a⟩:=Ff.1 Tryz.infoRat;simp only[Prod.mk.injEq]at a;obtain⟨c,hs,e⟩:=a;have b:=run_make (P:=L) w 23 38 i _ Tryz.underlying23 d c .i64 .i64 n n om (Int.le_refl _) (by rw[e];omega) om;simp only[Cv,hs]at b;exact b
theorem MN(n:Nat)(w:I):Dp true (w.alloc (G (Xa n) 38)) w.heap.size (List.replicate n 0):=by
 refine⟨Xa n,BC w _,λj a=>?_⟩;rw[Ar]at a;obtain⟨b,c,e,d⟩:=ML a;exact⟨_,_,_,_,b,c,e,d,by rw[J3];exact EO _⟩
theorem UZ(a b:Option Addr)(g O lb W:Nat)(ps qs:List Rat)(w:I)(t:RowK true w (C a g O) ps)(p:RowK true w (C b lb W) qs)(P:Dc ps)(R:Dc qs):
 Calls L 67 #[C a g O,C b lb W,.func (.func 40) #[] #[]] w λe Y=>∃v c,e=.returned v/\RowK true Y v c/\(∀j,cf c j=cf ps j+cf qs j)/\MK w.heap.size v/\Bl w Y:=by
 obtain⟨S,ah,af,bg,_⟩:=t.forms;obtain⟨K,ai,ae,aj,_⟩:=p.forms;obtain⟨n,hn⟩:∃n:Nat,max (g:Int) (lb:Int)=(n:Int):=⟨max g lb,om⟩;have aq:n<=1099511627776:=om
 obtain⟨HN,HA,HB,HP,HQ,Qr,Qq⟩:=KT (show g<=n/\lb<=n from by omega) t p P R S K;have Qm:=Kk n om w;have x:=MN n w;have B:Bl w (w.alloc (G (Xa n) 38)):=Ba w _;obtain⟨W0,M⟩:=ex (w.alloc (G (Xa n) 38));rw[M]at x B Qm;have Qn:=Ja x;have Qp:=Ja B;clear x B M t p P R S K ah af ai ae;go_enter Tryz.func67,Tryz.ntmps67
 go_wp2;go_loopw [17] (λi wr=>∃(k:Nat) (c:List Rat),k<=n/\i=.int .i64 (k:Int)/\Hid (c.length=n/\(∀j,j<k->cf c j=cf ps j+cf qs j)/\Dp true wr w.heap.size c/\Bl w wr)) (λi _=>n-(intOf i).toNat)
 case atStart=>exact⟨0,_,AX _,rfl,Ja ⟨Ar,λj l=>by omega,Qn.o,Qp.o⟩⟩
 case round=>
  obtain⟨k,c,hk,rfl,d⟩:=hrel;by_cases bc:k<n
  . have aw:(k:Int)<(n:Int):=om
    have q:=Ja (Ou _ ps (k:Int) wr (HA.o.below d.o.2.2.2));have r:=Ja (λ(V:I) (h:Bl wr V)=>Ou _ qs (k:Int) V ((HB.o.below d.o.2.2.2).below h));rw[BE om,Cv]at q;rw[show(if(k:Int)<0 then(0:Rat)else cf qs ((k:Int)).toNat)=cf qs k from by rw[BE om,Cv]]at r;have Z:=Ja (λ(V:I) (u v:J) (hu:Ji V u (cf ps k)) (hv:Ji V v (cf qs k))=>Hk u v (cf ps k) (cf qs k) V hu hv (HP.o.at k) (HQ.o.at k));have o:=Ja (show k<c.length from by have:=d.o.1;omega);go_wp2_with(first
     |(go_at_call 49;refine q.o.mono ?_;clear q;rintro e w1 ⟨u1,rfl,m,ad⟩;have z:=ad)
     |(go_at_call 49;refine(r.o _ z).mono ?_;clear r;rintro e w2 ⟨u2,rfl,X,s⟩;have m:=m.below s;have N:=Bt z s;clear z)
     |(go_at_call 40;refine(Z.o _ _ _ m X).mono ?_;clear Z;rintro e w3 ⟨u3,rfl,U,D⟩;have T:=Bt N D;clear N m X ad s D;have f:=d.o.2.2.1.below T;obtain⟨x0,y0,z0,t0,k0,k1,k2,k3,_⟩:=f.at o.o;have f0:=f.frozen (k*4);have f1:=f.frozen (k*4+1);have f2:=f.frozen (k*4+2);have f3:=f.frozen (k*4+3);obtain⟨bd,ap,an,bf,ay,av,az,ak,rfl⟩:=Ji.form U))
    go_roundw
    case rel=>
     refine⟨k+1,c.set k (cf ps k+cf qs k),om,by go_num,Ja ⟨by rw[Ct];exact d.o.1,λj l=>?_,f.set o.o U,OY (Bt d.o.2.2.2 T) (Aa _) _ _ _ _⟩⟩;rw[X1 _ _ _ _ o.o];by_cases y:j=k
     . rw[BI y,y]
     . rw[BE y];exact d.o.2.1 j om
    case measure=>simp[intOf];omega
  . have Qo:k=n:=om
    subst Qo;go_wp2;go_ret;have A:=d.o;have Q:=A.2.2.1.row (n:=k) (cap:=k) om (Aa _) om om;rw[Ab om]at Q;refine⟨_,c,rfl,Q,λj=>?_,λa' l' c' e=>by cases e;exact Aa _,A.2.2.2⟩;rcases AB j k with l|l
    . exact A.2.1 j l
    . have:=HN.o;have h1:=Qr.o;have h2:=Qq.o;rw[J4 om,J4 om,J4 om];grind
theorem U0(z x:J)(ps qs:List Rat)(w:I)(l:JC w z ps)(f:JC w x qs)(B:Dc ps)(t:Dc qs)(A:Dc (EP ps qs)):
 Calls L 26 #[z,x] w λe K=>∃u,e=.returned u/\JC K u (EP ps qs)/\Kj w.heap.size u/\Bl w K:=by
 obtain⟨u,rfl,l⟩:=l;obtain⟨v,rfl,f⟩:=f;obtain⟨a,g,m,rfl⟩:=l.form;obtain⟨b,lb,k,rfl⟩:=f.form;obtain⟨W0,d⟩:=ex (((w.alloc (G #[C a g m] 25)).alloc (G #[C b lb k] 25)).alloc (G #[C none 0 0] 25));have b0:Boxed W0 w.heap.size 25 (C a g m):=by rw[<-d];exact((BK w _ _).alloc _).alloc _
 have b1:Boxed W0 (w.heap.size+1) 25 (C b lb k):=by rw[<-d];have:=(BK (w.alloc (G #[C a g m] 25)) 25 (C b lb k)).alloc (G #[C none 0 0] 25);simpa using this
 have M:Boxed W0 (w.heap.size+1+1) 25 (C none 0 0):=by rw[<-d];have:=BK ((w.alloc (G #[C a g m] 25)).alloc (G #[C b lb k] 25)) 25 (C none 0 0);simpa using this
 have n:Bl w W0:=by rw[<-d];exact((Ba w _).alloc DO _).alloc si _
 obtain⟨D,y,Y,N⟩:=D3 (UZ a b g m lb k ps qs W0 (l.below n) (f.below n) B t) (λ(V:I) (v:J) (c:List Rat) (h:RowK true V v c) (hs:Dc c)=>Gl v c V h hs) A d;have k0:=b0.cell;have k1:=b1.cell;clear d l f B t A;go_enter Tryz.func26,Tryz.ntmps26
 go_upto_region 1 with fail
 rw[N.o];go_wp2_with(first
  |(go_at_call 67;refine D.o.mono ?_;clear D;rintro e w1 ⟨v1,c,rfl,T,q,P,ae⟩;have O:Dc c:=Dc.of (λi=>by rw[q i,<-I6];exact Y.o.at i);have R:=Ja q;clear q)
  |(go_at_call 65;refine(y.o _ _ c T O).mono ?_;clear y;rintro e w2 ⟨u2,rfl,o,S,ad⟩;obtain⟨U,Z,X,rfl⟩:=o.form;have s:=Bt ae ad;have r:=boxed_below M s;have k2:=r.cell;have f2:=r.frozen))
 have e0:Jh c=EP ps qs:=by
  rw[<-I5];exact YD λj=>by rw[R.o j,I6]
 rw[e0]at o;refine BA (v:=F #[C U Z X]) (by simp[results,Tryz.results26,go_sem,k2]) rfl ⟨_,rfl,⟨_,rfl,Ei r _ o.row⟩,?_,(Bt n s).setCell (p:=⟨w.heap.size+1+1,0,none⟩) si _⟩;intro Q W c' e;have:=S W0.heap.size P Q W c' e;have h2:=n.size;omega
