import Derived.Test.YteldjhhjnchdeaaGreatDoorT26
import Derived.Deep.OwnRows
open Go.Value renaming slice->C,bool->E,pointer->I,agg->F
open Go.Obj renaming cells->G
open Go renaming World->H,Value->J
open Go.Proofs.Tryz renaming prog->L
set_option maxRecDepth 100000
set_option maxHeartbeats 16000000
namespace Go.Proofs.YteldjhhjnchdeaaGreatDoor
open Go.RowKit Go.Shelf
attribute [local go_sem] Oper.semAt_some
variable{qs:List Rat}{cap l:Nat}{a:Option Addr}{W:H}
theorem Zg(p q:Rat)(hp:Sq p)(hq:Sq q)(b a x y:Int)(c:((Int.gcd p.num (q.den:Int):Nat):Int)=b)(d:((Int.gcd q.num (p.den:Int):Nat):Int)=a)(f:p.num/b=x)(e:q.num/a=y):
 Da b/\b≠0/\Da a/\a≠0/\Da x/\Da y/\(p*q).num=x*y/\((p*q).den:Int)=p.den/a*(q.den/b):=by
 have hl:=UV p q b a c.symm d.symm;have g:b≠0:=by rw[<-c];have:=I9 (x:=p.num) (y:=q.den) (by have:=q.den_nz;omega);omega
 have i:a≠0:=by rw[<-d];have:=I9 (x:=q.num) (y:=p.den) (by have:=p.den_nz;omega);omega
 refine⟨by rw[<-c];exact hp.num.gcd hq.den,g,by rw[<-d];exact hq.num.gcd hp.den,i,by rw[<-f];exact hp.num.div,by rw[<-e];exact hq.num.div,?_,hl.2⟩;rw[hl.1,f,e]
theorem Kx(va vb:J)(p q:Rat)(w:H)(ha:Jj w va p)(hb:Jj w vb q)(cn:Sq p)(bt:Sq q):
 Calls L 52 #[va,vb] w λe W=>∃u,e=.returned u/\Jj W u (p*q)/\Bl w W:=by
 obtain⟨s,a,l,c,t,b,k,d,rfl⟩:=Jj.form ha;obtain⟨s',a',l',c',t',b',k',d',rfl⟩:=Jj.form hb;have M0:=L9 w s t s' t' a b a' b' l c k d l' c' k' d' p q ha hb;obtain⟨W0,bm⟩:=ex (((w.alloc (G #[E s,C a l c,E t,C b k d] 65)).alloc (G #[E s',C a' l' c',E t',C b' k' d'] 65)).alloc (G #[E false,C none 0 0,E false,C none 0 0] 65));have Ug:=Ja bm;rw[bm]at M0;have M1:Hid (Mem w W0 [some (w.heap.size,.rat (p)),some (w.heap.size+1,.rat (q)),some (w.heap.size+1+1,.rat (0))]):=Ja M0;have Uj:Tryz.prog.follows .mixedOrders=true:=by kernel_rfl
 have HP:=Ja cn;have HQ:=Ja bt;clear M0 ha hb bm cn bt;go_enter Tryz.func52,Tryz.ntmps52
 go_upto_region 1 with fail
 rw[Ug.o];clear Ug;obtain⟨bb,cl⟩:=ex (decide (p.den=1/\q.den=1):Bool);have Qx:=Ja cl;clear cl;go_cut [13] (λc W=>c=E bb/\Hid (Mem w W [some (w.heap.size,.rat (p)),some (w.heap.size+1,.rat (q)),some (w.heap.size+1+1,.rat (0))]))
 case first=>
  obtain⟨s1,a1,l1,c1,t1,b1,k1,d1,n1,r1,i1,j1⟩:=M1.o.rat (i:=0) rfl;obtain⟨Um,Uo,Uw,Uq⟩:=n1.cq;obtain⟨s2,a2,l2,c2,t2,b2,k2,d2,n2,r2,i2,j2⟩:=M1.o.rat (i:=1) rfl;obtain⟨Un,Ul,Up,Uv⟩:=n2.cq;have H1:=Ja (XK _ p W0 r1);have H2:=Ja (λ(V:H) (h:Bl W0 V)=>XK _ q V (r2.below h));by_cases P:p.den=1
  . rw[BK P]at H1;obtain⟨b2,ak⟩:=ex (decide (q.den=1));rw[ak]at H2;have Qz:=Ja (show b2=bb by rw[<-ak,<-Qx.o];exact DL.2 ⟨λh=>⟨P,h⟩,λh=>h.2⟩);clear ak P;go_wp2_with(first
     |(go_at_call 89;refine H1.o.mono ?_;clear H1;rintro e w1 ⟨rfl,az⟩;obtain⟨Um,Uo,Uw,Uq⟩:=(n1.below az).cq;obtain⟨Un,Ul,Up,Uv⟩:=(n2.below az).cq)
     |(go_at_call 89;refine(H2.o _ az).mono ?_;clear H2;rintro e w2 ⟨rfl,ak⟩))
    go_meet
    case rel=>exact⟨by rw[Qz.o],Ja ((M1.o.below az).below ak)⟩
  . rw[BI P]at H1;have Qz:=Ja (show bb=false by rw[<-Qx.o];exact BI (λh=>P h.1));clear P;go_wp2_with(go_at_call 89;refine H1.o.mono ?_;clear H1;rintro e w1 ⟨rfl,az⟩)
    go_meet
    case rel=>exact⟨by rw[Qz.o],Ja (M1.o.below az)⟩
 obtain⟨rfl,o⟩:=hcut;have M2:Hid (Mem w wc [some (w.heap.size,.rat (p)),some (w.heap.size+1,.rat (q)),some (w.heap.size+1+1,.rat (0))]):=o;clear M1 o;cases bb with
 |true=>
  have Qy:=Bf Qx.o;have HW:=Ja (Ze Qy.1 Qy.2);clear Qy Qx;obtain⟨s3,a3,l3,c3,t3,b3,k3,d3,n3,r3,i3,j3⟩:=M2.o.rat (i:=0) rfl;obtain⟨gl,ga⟩:=n3.cp;obtain⟨s4,a4,l4,c4,t4,b4,k4,d4,n4,r4,i4,j4⟩:=M2.o.rat (i:=1) rfl;obtain⟨gr,gi⟩:=n4.cp;obtain⟨s5,a5,l5,c5,t5,b5,k5,d5,n5,r5,i5,j5⟩:=M2.o.rat (i:=2) rfl;obtain⟨Uf,Ud,Uh,Ue⟩:=n5.cq;obtain⟨Ur,Ut,Us,Uk⟩:=n5.fq;go_wp2_with(go_at_call 85;refine(Xi _ _ p.num q.num _ i3 i4 (by have P:=HP.o.num.words;have h2:=HQ.o.num.words;omega)).mono ?_;rintro e w1 ⟨u,rfl,hu,hq⟩;obtain⟨bn,cj,co,bu,rfl⟩:=Jl.form2 hu;obtain⟨Uf,Ud,Uh,Ue⟩:=(n5.below hq).cq;obtain⟨Ur,Ut,Us,Uk⟩:=(n5.below hq).fq)
  have hr:Jj w1 (F #[E bn,C cj co bu,E false,C none 0 0]) (p*q):=Jj.mk (by rw[HW.o.1];exact hu) (by rw[Ll.2 HW.o.2];exact EP _);have Ua:=Bt M2.o.2.2 hq;exact BA (v:=F #[E bn,C cj co bu,E false,C none 0 0]) (by simp[results,Tryz.results52,go_sem,Uf,Ud,Uh,Ue]) rfl ⟨_,rfl,hr.put4 (n5.below hq) rfl rfl rfl rfl _ _ _ _,Jt Ua om _ _ _ _⟩
 |false=>
  clear Qx;obtain⟨Z,ck⟩:=ex (((Int.gcd p.num (q.den:Int):Nat):Int):Int);have Ui:=Ja ck;clear ck;obtain⟨up,cg⟩:=ex (((Int.gcd q.num (p.den:Int):Nat):Int):Int);have Uc:=Ja cg;clear cg;obtain⟨x,hx⟩:=ex (p.num/Z:Int);have HX:=Ja hx;clear hx;obtain⟨y,hy⟩:=ex (q.num/up:Int);have HY:=Ja hy;clear hy;obtain⟨S1,S2,S3,S4,S5,S6,S7,S8⟩:=Zg p q HP.o HQ.o Z up x y Ui.o Uc.o HX.o HY.o;obtain⟨T1,T2,T3,T4,T5,T6,T7,T8⟩:=Gy S1 S2 S3 S4 S5 S6 S7 S8;clear S1 S2 S3 S4 S5 S6 S7 S8;go_upto_region 3 with fail
  refine Jk Uj [[],[0],[],[2],[1,3,3],[],[5],[],[7,4],[6,8,8],[],[],[10,4,9,0,1,2,3,4,10,11],[11,9,12,0,1,2,3,4,5,6,7,8,9,10,11,12]] (by kernel_rfl) DS
   (λD am V=>∃(ta tb tc td te tf tg ti tj tk tv tw:J) (bc ay:Option (Nat × Dat)),am={ tmps:=#[F #[E s,C a l c,E t,C b k d],F #[E s',C a' l' c',E t',C b' k' d'],I (some ⟨w.heap.size,0,none⟩),I (some ⟨w.heap.size+1,0,none⟩),I (some ⟨w.heap.size+1+1,0,none⟩),tv,tw,undef,u8,u9,u10,u11,u12,E false,u14,u15,u16,u17,u18,u19,ta,tb,tc,td,te,tf,tg,ti,tj,tk,u30,u31,u32,u33,u34,u35,u36,u37,u38,u39,u40,u41,u42,u43,u44,u45,u46,u47,u48,u49],defers:=[] }/\Hid ((D 0=true->ta=I (some ⟨w.heap.size,0,none⟩))/\(D 1=true->Has V tb (.int (Rat.num (p))))/\(D 2=true->Has V tc (.rat (q)))/\(D 3=true->Has V td (.int ((q.den:Int))))/\(D 4=true->Has V te (.int (Z)))/\(D 5=true->tf=I (some ⟨w.heap.size+1,0,none⟩))/\(D 6=true->Has V tg (.int (Rat.num (q))))/\(D 7=true->Has V ti (.rat (p)))/\(D 8=true->Has V tj (.int ((p.den:Int))))/\(D 9=true->Has V tk (.int (up)))/\((D 10=false->bc=none)/\(D 10=true->D 12=false->∃B:Nat,tv=I (some ⟨B,0,none⟩)/\bc=some (B,.int 0))/\(D 12=true->∃B:Nat,tv=I (some ⟨B,0,none⟩)/\bc=some (B,.int (Z))))/\((D 11=false->ay=none)/\(D 11=true->D 13=false->∃B:Nat,tw=I (some ⟨B,0,none⟩)/\ay=some (B,.int 0))/\(D 13=true->∃B:Nat,tw=I (some ⟨B,0,none⟩)/\ay=some (B,.int (up)))))/\Hid (Mem w V [some (w.heap.size,.rat (p)),some (w.heap.size+1,.rat (q)),some (w.heap.size+1+1,.rat (0)),bc,ay]))
   ⟨_,_,_,_,_,_,_,_,_,_,_,_,none,none,rfl,Ja ⟨DQ,DQ,DQ,DQ,DQ,DQ,DQ,DQ,DQ,DQ,DQ,DQ⟩,Ja (((M2.o).none).none).drew⟩ ?step6 ?fin6
  case step6=>
   rintro D am V i ds bi hi m af ⟨ta,tb,tc,td,te,tf,tg,ti,tj,tk,tv,tw,bc,ay,rfl,g,o⟩;have Uu:i<14:=(Ac.1 hi).1;obtain rfl|rfl|rfl|rfl|rfl|rfl|rfl|rfl|rfl|rfl|rfl|rfl|rfl|rfl:=F2 i om
   all_goals
    simp only[Af,Ae,Ag]at hi;subst hi
   . clear m;refine Za ?_;exact⟨_,_,_,_,_,_,_,_,_,_,_,_,_,_,rfl,(Dh g),Ja (o.o)⟩
   . obtain rfl:=(g.o.1 (m 0 DQ));clear m;obtain⟨s,a,l,c,t,b,k,d,n,r,i,j⟩:=o.o.rat (i:=0) rfl;obtain⟨e0,e1,e2,e3⟩:=n.cq;refine Za ?_;exact⟨_,_,_,_,_,_,_,_,_,_,_,_,_,_,rfl,(Dp (Dh g) λ_=>i),Ja (o.o)⟩
   . clear m;obtain⟨s,a,l,c,t,b,k,d,n,r,i,j⟩:=o.o.rat (i:=1) rfl;obtain⟨e0,e1,e2,e3⟩:=n.cq;refine Za ?_;exact⟨_,_,_,_,_,_,_,_,_,_,_,_,_,_,rfl,(Dg g λ_=>r),Ja (o.o)⟩
   . have U:=(g.o.2.2.1 (m 2 DQ));have HC:=Ja (GA _ q V U);clear m U;refine Jb rfl rfl λK hK=>?_;go_simp;go_wp2_with(go_at_call 86;refine HC.o.mono ?_;rintro e w5 ⟨v5,rfl,ad,f⟩)
     obtain⟨A,M,O,_,R,z,N,Q,T,X,ae⟩:=g.o;exact⟨_,_,_,_,_,_,_,_,_,_,_,_,_,_,rfl,Ja ⟨A,λh=>(M h).below f,λh=>(O h).below f,λ_=>ad,λh=>(R h).below f,z,λh=>(N h).below f,λh=>(Q h).below f,λh=>(T h).below f,λh=>(X h).below f,ae⟩,Ja (o.o.below f)⟩
   . have U:=(g.o.2.1 (m 1 DQ));have P:=(g.o.2.2.2.1 (m 3 DQ));have HC:=Ja ((by have h:=Io _ _ p.num (q.den:Int) V U P (by have:=HP.o.num.words;omega) (by have:=HQ.o.den.words;omega);rw[Ui.o]at h;exact h));clear m U P;refine Jb rfl rfl λK hK=>?_;go_simp;go_wp2_with(go_at_call 90;refine HC.o.mono ?_;rintro e w5 ⟨v5,rfl,ad,f⟩)
     obtain⟨A,M,O,S,_,z,N,Q,T,X,ae⟩:=g.o;exact⟨_,_,_,_,_,_,_,_,_,_,_,_,_,_,rfl,Ja ⟨A,λh=>(M h).below f,λh=>(O h).below f,λh=>(S h).below f,λ_=>ad,z,λh=>(N h).below f,λh=>(Q h).below f,λh=>(T h).below f,λh=>(X h).below f,ae⟩,Ja (o.o.below f)⟩
   . clear m;refine Za ?_;exact⟨_,_,_,_,_,_,_,_,_,_,_,_,_,_,rfl,(D0 g),Ja (o.o)⟩
   . obtain rfl:=((Ds g) (m 5 DQ));clear m;obtain⟨s,a,l,c,t,b,k,d,n,r,i,j⟩:=o.o.rat (i:=1) rfl;obtain⟨e0,e1,e2,e3⟩:=n.cq;refine Za ?_;exact⟨_,_,_,_,_,_,_,_,_,_,_,_,_,_,rfl,(Dw (D0 g) λ_=>i),Ja (o.o)⟩
   . clear m;obtain⟨s,a,l,c,t,b,k,d,n,r,i,j⟩:=o.o.rat (i:=0) rfl;obtain⟨e0,e1,e2,e3⟩:=n.cq;refine Za ?_;exact⟨_,_,_,_,_,_,_,_,_,_,_,_,_,_,rfl,(EB g λ_=>r),Ja (o.o)⟩
   . have U:=((D9 g) (m 7 DQ));have HC:=Ja (GA _ p V U);clear m U;refine Jb rfl rfl λK hK=>?_;go_simp;go_wp2_with(go_at_call 86;refine HC.o.mono ?_;rintro e w5 ⟨v5,rfl,ad,f⟩)
     obtain⟨A,M,O,S,R,z,N,Q,_,X,ae⟩:=g.o;exact⟨_,_,_,_,_,_,_,_,_,_,_,_,_,_,rfl,Ja ⟨A,λh=>(M h).below f,λh=>(O h).below f,λh=>(S h).below f,λh=>(R h).below f,z,λh=>(N h).below f,λh=>(Q h).below f,λ_=>ad,λh=>(X h).below f,ae⟩,Ja (o.o.below f)⟩
   . have U:=((Dy g) (m 6 DQ));have P:=((EF g) (m 8 DQ));have HC:=Ja ((by have h:=Io _ _ q.num (p.den:Int) V U P (by have:=HQ.o.num.words;omega) (by have:=HP.o.den.words;omega);rw[Uc.o]at h;exact h));clear m U P;refine Jb rfl rfl λK hK=>?_;go_simp;go_wp2_with(go_at_call 90;refine HC.o.mono ?_;rintro e w5 ⟨v5,rfl,ad,f⟩)
     obtain⟨A,M,O,S,R,z,N,Q,T,_,ae⟩:=g.o;exact⟨_,_,_,_,_,_,_,_,_,_,_,_,_,_,rfl,Ja ⟨A,λh=>(M h).below f,λh=>(O h).below f,λh=>(S h).below f,λh=>(R h).below f,z,λh=>(N h).below f,λh=>(Q h).below f,λh=>(T h).below f,λ_=>ad,ae⟩,Ja (o.o.below f)⟩
   . have hf:D 12=false:=DU bi af;obtain rfl:=g.o.2.2.2.2.2.2.2.2.2.2.1.1 af;clear m;refine Za ?_;obtain⟨A,M,O,S,R,z,N,Q,T,X,_,bk⟩:=g.o;exact⟨_,_,_,_,_,_,_,_,_,_,_,_,_,_,rfl,Ja ⟨A,λh=>(M h).alloc _,λh=>(O h).alloc _,λh=>(S h).alloc _,λh=>(R h).alloc _,z,λh=>(N h).alloc _,λh=>(Q h).alloc _,λh=>(T h).alloc _,λh=>(X h).alloc _,⟨λh=>by simp at h,λ_ _=>⟨_,rfl,rfl⟩,λh=>by simp[hf]at h⟩,bk⟩,Ja (o.o.fill (i:=3) rfl (.int 0) (EP _))⟩
   . have hf:D 13=false:=DU bi af;obtain rfl:=Ee g af;clear m;refine Za ?_;obtain⟨A,M,O,S,R,z,N,Q,T,X,ae,_⟩:=g.o;exact⟨_,_,_,_,_,_,_,_,_,_,_,_,_,_,rfl,Ja ⟨A,λh=>(M h).alloc _,λh=>(O h).alloc _,λh=>(S h).alloc _,λh=>(R h).alloc _,z,λh=>(N h).alloc _,λh=>(Q h).alloc _,λh=>(T h).alloc _,λh=>(X h).alloc _,ae,⟨λh=>by simp at h,λ_ _=>⟨_,rfl,rfl⟩,λh=>by simp[hf]at h⟩⟩,Ja (o.o.fill (i:=4) rfl (.int 0) (EP _))⟩
   . obtain⟨B,rfl,rfl⟩:=g.o.2.2.2.2.2.2.2.2.2.2.1.2.1 (m 10 DQ) af;have Qw:=m 10 DQ;have hv:=(g.o.2.2.2.2.1 (m 4 DQ));obtain⟨s1,a1,l1,c1,rfl⟩:=Jl.form2 (show Jl V _ _ from hv);obtain⟨s,a,l,c,n,i⟩:=o.o.int (i:=3) rfl;have e0:=n.c0;have f0:=n.f0;have e1:=n.c1;have f1:=n.f1;clear m;refine Za ?_;obtain⟨A,M,O,S,R,z,N,Q,T,X,_,bk⟩:=g.o;exact⟨_,_,_,_,_,_,_,_,_,_,_,_,_,_,rfl,Ja ⟨A,λh=>(M h).set2 n rfl rfl _ _,λh=>(O h).set2 n rfl rfl _ _,λh=>(S h).set2 n rfl rfl _ _,λh=>(R h).set2 n rfl rfl _ _,z,λh=>(N h).set2 n rfl rfl _ _,λh=>(Q h).set2 n rfl rfl _ _,λh=>(T h).set2 n rfl rfl _ _,λh=>(X h).set2 n rfl rfl _ _,⟨λh=>by simp[Qw]at h,λ_ h=>by simp at h,λ_=>⟨B,rfl,rfl⟩⟩,bk⟩,Ja (o.o.putInt (i:=3) rfl hv)⟩
   . obtain⟨B,rfl,rfl⟩:=Ej g (m 11 DQ) af;have Qw:=m 11 DQ;have hv:=((EU g) (m 9 DQ));obtain⟨s1,a1,l1,c1,rfl⟩:=Jl.form2 (show Jl V _ _ from hv);obtain⟨s,a,l,c,n,i⟩:=o.o.int (i:=4) rfl;have e0:=n.c0;have f0:=n.f0;have e1:=n.c1;have f1:=n.f1;clear m;refine Za ?_;obtain⟨A,M,O,S,R,z,N,Q,T,X,ae,_⟩:=g.o;exact⟨_,_,_,_,_,_,_,_,_,_,_,_,_,_,rfl,Ja ⟨A,λh=>(M h).set2 n rfl rfl _ _,λh=>(O h).set2 n rfl rfl _ _,λh=>(S h).set2 n rfl rfl _ _,λh=>(R h).set2 n rfl rfl _ _,z,λh=>(N h).set2 n rfl rfl _ _,λh=>(Q h).set2 n rfl rfl _ _,λh=>(T h).set2 n rfl rfl _ _,λh=>(X h).set2 n rfl rfl _ _,ae,⟨λh=>by simp[Qw]at h,λ_ h=>by simp at h,λ_=>⟨B,rfl,rfl⟩⟩⟩,Ja (o.o.putInt (i:=4) rfl hv)⟩
  rintro D am V7 aw ⟨ta,tb,tc,td,te,tf,tg,ti,tj,tk,tv,tw,bc,ay,rfl,g,o⟩;obtain⟨B8,rfl,rfl⟩:=g.o.2.2.2.2.2.2.2.2.2.2.1.2.2 (aw 12 DS);obtain⟨B9,rfl,rfl⟩:=g.o.2.2.2.2.2.2.2.2.2.2.2.2.2 (aw 13 DS);clear g aw M2;have M3:Hid (Mem w V7 [some (w.heap.size,.rat (p)),some (w.heap.size+1,.rat (q)),some (w.heap.size+1+1,.rat (0)),some (B8,.int (Z)),some (B9,.int (up))]):=o;clear o;go_upto_region 4 with fail
  refine Jk Uj [[],[0],[],[1,2],[],[4],[],[5,6,3],[3,7,7],[],[9,8,8,0,1,2,3,4,5,6,7,8,9]] (by kernel_rfl) DS
   (λD am V=>∃(tl tm tn tp tq tr ts tt tu tx:J) (x9:Option (Nat × Dat)),am={ tmps:=#[F #[E s,C a l c,E t,C b k d],F #[E s',C a' l' c',E t',C b' k' d'],I (some ⟨w.heap.size,0,none⟩),I (some ⟨w.heap.size+1,0,none⟩),I (some ⟨w.heap.size+1+1,0,none⟩),I (some ⟨B8,0,none⟩),I (some ⟨B9,0,none⟩),tx,u8,u9,u10,u11,u12,E false,u14,u15,u16,u17,u18,u19,ta,tb,tc,td,te,tf,tg,ti,tj,tk,tl,tm,tn,tp,tq,tr,ts,tt,tu,u39,u40,u41,u42,u43,u44,u45,u46,u47,u48,u49],defers:=[] }/\Hid ((D 0=true->tl=I (some ⟨w.heap.size,0,none⟩))/\(D 1=true->Has V tm (.int (Rat.num (p))))/\(D 2=true->Has V tn (.int (Z)))/\(D 3=true->Has V tp (.int (x)))/\(D 4=true->tq=I (some ⟨w.heap.size+1,0,none⟩))/\(D 5=true->Has V tr (.int (Rat.num (q))))/\(D 6=true->Has V ts (.int (up)))/\(D 7=true->Has V tt (.int (y)))/\(D 8=true->Has V tu (.int (x*y)))/\((D 9=false->x9=none)/\(D 9=true->D 10=false->∃B:Nat,tx=I (some ⟨B,0,none⟩)/\x9=some (B,.int 0))/\(D 10=true->∃B:Nat,tx=I (some ⟨B,0,none⟩)/\x9=some (B,.int (x*y)))))/\Hid (Mem w V [some (w.heap.size,.rat (p)),some (w.heap.size+1,.rat (q)),some (w.heap.size+1+1,.rat (0)),some (B8,.int (Z)),some (B9,.int (up)),x9]))
   ⟨_,_,_,_,_,_,_,_,_,_,none,rfl,Ja ⟨DQ,DQ,DQ,DQ,DQ,DQ,DQ,DQ,DQ,DQ⟩,Ja ((M3.o).none).drew⟩ ?step10 ?fin10
  case step10=>
   rintro D am V i ds bi hi m af ⟨tl,tm,tn,tp,tq,tr,ts,tt,tu,tx,x9,rfl,g,o⟩;have Uu:i<11:=(Ac.1 hi).1;obtain rfl|rfl|rfl|rfl|rfl|rfl|rfl|rfl|rfl|rfl|rfl:=Ex i om
   all_goals
    simp only[Af,Ae,Ag]at hi;subst hi
   . clear m;refine Za ?_;exact⟨_,_,_,_,_,_,_,_,_,_,_,rfl,(Dh g),Ja (o.o)⟩
   . obtain rfl:=(g.o.1 (m 0 DQ));clear m;obtain⟨s,a,l,c,t,b,k,d,n,r,i,j⟩:=o.o.rat (i:=0) rfl;obtain⟨e0,e1,e2,e3⟩:=n.cq;refine Za ?_;exact⟨_,_,_,_,_,_,_,_,_,_,_,rfl,(Dp (Dh g) λ_=>i),Ja (o.o)⟩
   . clear m;obtain⟨s,a,l,c,n,i⟩:=o.o.int (i:=3) rfl;obtain⟨e0,e1⟩:=n.cp;refine Za ?_;exact⟨_,_,_,_,_,_,_,_,_,_,_,rfl,(Dg g λ_=>i),Ja (o.o)⟩
   . have U:=(g.o.2.1 (m 1 DQ));have P:=(g.o.2.2.1 (m 2 DQ));have HC:=Ja ((by have h:=GZ _ _ p.num Z V U P T2.o HP.o.num T1.o;rw[HX.o]at h;exact h));clear m U P;refine Jb rfl rfl λK hK=>?_;go_simp;go_wp2_with(go_at_call 91;refine HC.o.mono ?_;rintro e w5 ⟨v5,rfl,ad,f⟩)
     obtain⟨A,M,O,_,R,z,N,Q,T,X⟩:=g.o;exact⟨_,_,_,_,_,_,_,_,_,_,_,rfl,Ja ⟨A,λh=>(M h).below f,λh=>(O h).below f,λ_=>ad,R,λh=>(z h).below f,λh=>(N h).below f,λh=>(Q h).below f,λh=>(T h).below f,X⟩,Ja (o.o.below f)⟩
   . clear m;refine Za ?_;exact⟨_,_,_,_,_,_,_,_,_,_,_,rfl,(Dx g),Ja (o.o)⟩
   . obtain rfl:=(g.o.2.2.2.2.1 (m 4 DQ));clear m;obtain⟨s,a,l,c,t,b,k,d,n,r,i,j⟩:=o.o.rat (i:=1) rfl;obtain⟨e0,e1,e2,e3⟩:=n.cq;refine Za ?_;exact⟨_,_,_,_,_,_,_,_,_,_,_,rfl,(D0 (Dx g) λ_=>i),Ja (o.o)⟩
   . clear m;obtain⟨s,a,l,c,n,i⟩:=o.o.int (i:=4) rfl;obtain⟨e0,e1⟩:=n.cp;refine Za ?_;exact⟨_,_,_,_,_,_,_,_,_,_,_,rfl,(Dw g λ_=>i),Ja (o.o)⟩
   . have U:=((Ds g) (m 5 DQ));have P:=((Dy g) (m 6 DQ));have HC:=Ja ((by have h:=GZ _ _ q.num up V U P T4.o HQ.o.num T3.o;rw[HY.o]at h;exact h));clear m U P;refine Jb rfl rfl λK hK=>?_;go_simp;go_wp2_with(go_at_call 91;refine HC.o.mono ?_;rintro e w5 ⟨v5,rfl,ad,f⟩)
     obtain⟨A,M,O,S,R,z,N,_,T,X⟩:=g.o;exact⟨_,_,_,_,_,_,_,_,_,_,_,rfl,Ja ⟨A,λh=>(M h).below f,λh=>(O h).below f,λh=>(S h).below f,R,λh=>(z h).below f,λh=>(N h).below f,λ_=>ad,λh=>(T h).below f,X⟩,Ja (o.o.below f)⟩
   . have U:=(g.o.2.2.2.1 (m 3 DQ));have P:=((D9 g) (m 7 DQ));have HC:=Ja (Xi _ _ x y V U P (by have P:=T5.o.words;have h2:=T6.o.words;omega));clear m U P;refine Jb rfl rfl λK hK=>?_;go_simp;go_wp2_with(go_at_call 85;refine HC.o.mono ?_;rintro e w5 ⟨v5,rfl,ad,f⟩)
     obtain⟨A,M,O,S,R,z,N,Q,_,X⟩:=g.o;exact⟨_,_,_,_,_,_,_,_,_,_,_,rfl,Ja ⟨A,λh=>(M h).below f,λh=>(O h).below f,λh=>(S h).below f,R,λh=>(z h).below f,λh=>(N h).below f,λh=>(Q h).below f,λ_=>ad,X⟩,Ja (o.o.below f)⟩
   . have hf:D 10=false:=DU bi af;obtain rfl:=EU g af;clear m;refine Za ?_;obtain⟨A,M,O,S,R,z,N,Q,T,_⟩:=g.o;exact⟨_,_,_,_,_,_,_,_,_,_,_,rfl,Ja ⟨A,λh=>(M h).alloc _,λh=>(O h).alloc _,λh=>(S h).alloc _,R,λh=>(z h).alloc _,λh=>(N h).alloc _,λh=>(Q h).alloc _,λh=>(T h).alloc _,⟨λh=>by simp at h,λ_ _=>⟨_,rfl,rfl⟩,λh=>by simp[hf]at h⟩⟩,Ja (o.o.fill (i:=5) rfl (.int 0) (EP _))⟩
   . obtain⟨B,rfl,rfl⟩:=EJ g (m 9 DQ) af;have Qw:=m 9 DQ;have hv:=((EF g) (m 8 DQ));obtain⟨s1,a1,l1,c1,rfl⟩:=Jl.form2 (show Jl V _ _ from hv);obtain⟨s,a,l,c,n,i⟩:=o.o.int (i:=5) rfl;have e0:=n.c0;have f0:=n.f0;have e1:=n.c1;have f1:=n.f1;clear m;refine Za ?_;obtain⟨A,M,O,S,R,z,N,Q,T,_⟩:=g.o;exact⟨_,_,_,_,_,_,_,_,_,_,_,rfl,Ja ⟨A,λh=>(M h).set2 n rfl rfl _ _,λh=>(O h).set2 n rfl rfl _ _,λh=>(S h).set2 n rfl rfl _ _,R,λh=>(z h).set2 n rfl rfl _ _,λh=>(N h).set2 n rfl rfl _ _,λh=>(Q h).set2 n rfl rfl _ _,λh=>(T h).set2 n rfl rfl _ _,⟨λh=>by simp[Qw]at h,λ_ h=>by simp at h,λ_=>⟨B,rfl,rfl⟩⟩⟩,Ja (o.o.putInt (i:=5) rfl hv)⟩
  rintro D am ah aw ⟨tl,tm,tn,tp,tq,tr,ts,tt,tu,tx,x9,rfl,g,o⟩;obtain⟨B12,rfl,rfl⟩:=g.o.2.2.2.2.2.2.2.2.2.2.2 (aw 10 DS);clear g aw M3;have M4:Hid (Mem w ah [some (w.heap.size,.rat (p)),some (w.heap.size+1,.rat (q)),some (w.heap.size+1+1,.rat (0)),some (B8,.int (Z)),some (B9,.int (up)),some (B12,.int (x*y))]):=o;clear o;go_upto_region 5 with fail
  obtain⟨fl,fe,eh,et,aj,fo⟩:=M4.o.int (i:=5) rfl;obtain⟨Qf,Qr⟩:=aj.cp;obtain⟨f6,du,fk,dw,fd,fs,f7,fv,ap,dp,ij,fx⟩:=M4.o.rat (i:=0) rfl;obtain⟨Ql,Qg,Qi,Qk⟩:=ap.cq;obtain⟨dh,fu,di,f9,ai,fa⟩:=M4.o.int (i:=4) rfl;obtain⟨Qp,Qe⟩:=ai.cp;obtain⟨ef,dj,ct,fb,fg,dz,dt,ei,aq,ed,gw,gy⟩:=M4.o.rat (i:=1) rfl;obtain⟨Qm,Qn,Qo,Qh⟩:=aq.cq;obtain⟨fw,fi,fh,fc,an,fr⟩:=M4.o.int (i:=3) rfl;obtain⟨Qb,Qq⟩:=an.cp;obtain⟨gg,gh,fy,gb,gz,gu,ig,gp,Y,go,ia,gv⟩:=M4.o.rat (i:=2) rfl;obtain⟨Qa,Qj,Qc,Qd⟩:=Y.cq;obtain⟨Qt,Qs,Qv,Qu⟩:=Y.fq;obtain⟨H2,H4,H6,H8,H9,Ub⟩:=I4 (λ(V:H) (h:Bl ah V)=>GA _ p V (dp.below h)) (λ(V:H) (h:Bl ah V) (v2:J) (g2:Jl V v2 ((p.den:Int)))=>GZ _ _ (p.den:Int) up V g2 (fa.below h) T4.o HP.o.den T3.o) (λ(V:H) (h:Bl ah V)=>GA _ q V (ed.below h)) (λ(V:H) (h:Bl ah V) (v6:J) (g6:Jl V v6 ((q.den:Int)))=>GZ _ _ (q.den:Int) Z V g6 (fr.below h) T2.o HQ.o.den T1.o) (λ(V:H) (h:Bl ah V) (v4:J) (g4:Jl V v4 ((p.den:Int)/up)) (v8:J) (g8:Jl V v8 ((q.den:Int)/Z))=>Xi _ _ ((p.den:Int)/up) ((q.den:Int)/Z) V g4 g8 (by have P:=(Da.div (y:=up) HP.o.den).words;have h2:=(Da.div (y:=Z) HQ.o.den).words;omega)) (λ(V:H) (h:Bl ah V) (v9:J) (g9:Jl V v9 ((p.den:Int)/up*((q.den:Int)/Z)))=>L8 _ _ (p*q) V (by rw[T7.o];exact(fo.below h)) (by rw[T8.o];exact g9));have gk:B12≠w.heap.size+1+1:=M4.o.ne 5 2 rfl rfl DS;have ie:w.heap.size≠w.heap.size+1+1:=M4.o.ne 0 2 rfl rfl DS;have ii:B9≠w.heap.size+1+1:=M4.o.ne 4 2 rfl rfl DS;have ib:w.heap.size+1≠w.heap.size+1+1:=M4.o.ne 1 2 rfl rfl DS;have ic:B8≠w.heap.size+1+1:=M4.o.ne 3 2 rfl rfl DS;have hq:Bl ah ah.drew:=(BB _ ah).drew;go_region_held3 (λW=>W.cell? ⟨B12,0,none⟩=some (E fl)/\W.cell? ⟨B12,1,none⟩=some (C fe eh et)/\W.cell? ⟨w.heap.size,0,none⟩=some (E f6)/\W.cell? ⟨w.heap.size,1,none⟩=some (C du fk dw)/\W.cell? ⟨w.heap.size,2,none⟩=some (E fd)/\W.cell? ⟨w.heap.size,3,none⟩=some (C fs f7 fv)/\W.cell? ⟨B9,0,none⟩=some (E dh)/\W.cell? ⟨B9,1,none⟩=some (C fu di f9)/\W.cell? ⟨w.heap.size+1,0,none⟩=some (E ef)/\W.cell? ⟨w.heap.size+1,1,none⟩=some (C dj ct fb)/\W.cell? ⟨w.heap.size+1,2,none⟩=some (E fg)/\W.cell? ⟨w.heap.size+1,3,none⟩=some (C dz dt ei)/\W.cell? ⟨B8,0,none⟩=some (E fw)/\W.cell? ⟨B8,1,none⟩=some (C fi fh fc)) (first|(with_reducible exact⟨Qf,Qr,Ql,Qg,Qi,Qk,Qp,Qe,Qm,Qn,Qo,Qh,Qb,Qq⟩)|(go_keep;done)|(refine⟨?_,?_,?_,?_,?_,?_,?_,?_,?_,?_,?_,?_,?_,?_⟩<;>((repeat rw[JH om]);first|assumption|(go_keep;done))))
   (first
    |(go_at_call 86;refine(H2.o _ hq ).mono ?_;clear H2;rintro e w2 ⟨v2,rfl,g2,ak⟩;have hq:=Bt hq ak;obtain⟨Qf,Qr⟩:=(aj.below hq).cp;obtain⟨Ql,Qg,Qi,Qk⟩:=(ap.below hq).cq;obtain⟨Qp,Qe⟩:=(ai.below hq).cp;obtain⟨Qm,Qn,Qo,Qh⟩:=(aq.below hq).cq;obtain⟨Qb,Qq⟩:=(an.below hq).cp;obtain⟨Qa,Qj,Qc,Qd⟩:=(Y.below hq).cq;obtain⟨Qt,Qs,Qv,Qu⟩:=(Y.below hq).fq)
    |(go_at_call 91;refine(H4.o _ hq _ g2).mono ?_;clear H4;rintro e w4 ⟨v4,rfl,g4,ce⟩;have g2:=g2.below ce;have hq:=Bt hq ce;obtain⟨Qf,Qr⟩:=(aj.below hq).cp;obtain⟨Ql,Qg,Qi,Qk⟩:=(ap.below hq).cq;obtain⟨Qp,Qe⟩:=(ai.below hq).cp;obtain⟨Qm,Qn,Qo,Qh⟩:=(aq.below hq).cq;obtain⟨Qb,Qq⟩:=(an.below hq).cp;obtain⟨Qa,Qj,Qc,Qd⟩:=(Y.below hq).cq;obtain⟨Qt,Qs,Qv,Qu⟩:=(Y.below hq).fq)
    |(go_at_call 86;refine(H6.o _ hq ).mono ?_;clear H6;rintro e w6 ⟨v6,rfl,g6,bj⟩;have g2:=g2.below bj;have g4:=g4.below bj;have hq:=Bt hq bj;obtain⟨Qf,Qr⟩:=(aj.below hq).cp;obtain⟨Ql,Qg,Qi,Qk⟩:=(ap.below hq).cq;obtain⟨Qp,Qe⟩:=(ai.below hq).cp;obtain⟨Qm,Qn,Qo,Qh⟩:=(aq.below hq).cq;obtain⟨Qb,Qq⟩:=(an.below hq).cp;obtain⟨Qa,Qj,Qc,Qd⟩:=(Y.below hq).cq;obtain⟨Qt,Qs,Qv,Qu⟩:=(Y.below hq).fq)
    |(go_at_call 91;refine(H8.o _ hq _ g6).mono ?_;clear H8;rintro e w8 ⟨v8,rfl,g8,bh⟩;have g2:=g2.below bh;have g4:=g4.below bh;have g6:=g6.below bh;have hq:=Bt hq bh;obtain⟨Qf,Qr⟩:=(aj.below hq).cp;obtain⟨Ql,Qg,Qi,Qk⟩:=(ap.below hq).cq;obtain⟨Qp,Qe⟩:=(ai.below hq).cp;obtain⟨Qm,Qn,Qo,Qh⟩:=(aq.below hq).cq;obtain⟨Qb,Qq⟩:=(an.below hq).cp;obtain⟨Qa,Qj,Qc,Qd⟩:=(Y.below hq).cq;obtain⟨Qt,Qs,Qv,Qu⟩:=(Y.below hq).fq)
    |(go_at_call 85;refine(H9.o _ hq _ g4 _ g8).mono ?_;clear H9;rintro e w9 ⟨v9,rfl,g9,bg⟩;have g2:=g2.below bg;have g4:=g4.below bg;have g6:=g6.below bg;have g8:=g8.below bg;have hq:=Bt hq bg;obtain⟨Qf,Qr⟩:=(aj.below hq).cp;obtain⟨Ql,Qg,Qi,Qk⟩:=(ap.below hq).cq;obtain⟨Qp,Qe⟩:=(ai.below hq).cp;obtain⟨Qm,Qn,Qo,Qh⟩:=(aq.below hq).cq;obtain⟨Qb,Qq⟩:=(an.below hq).cp;obtain⟨Qa,Qj,Qc,Qd⟩:=(Y.below hq).cq;obtain⟨Qt,Qs,Qv,Qu⟩:=(Y.below hq).fq)
    |(go_at_call 92;refine(Ub.o _ hq _ g9).mono ?_;clear Ub;rintro e gj ⟨gn,rfl,ci,bf⟩;obtain⟨f8,dx,fj,ff,fm,ew,ft,de,rfl⟩:=Jj.form ci;have g2:=g2.below bf;have g4:=g4.below bf;have g6:=g6.below bf;have g8:=g8.below bf;have g9:=g9.below bf;have hq:=Bt hq bf;obtain⟨Qf,Qr⟩:=(aj.below hq).cp;obtain⟨Ql,Qg,Qi,Qk⟩:=(ap.below hq).cq;obtain⟨Qp,Qe⟩:=(ai.below hq).cp;obtain⟨Qm,Qn,Qo,Qh⟩:=(aq.below hq).cq;obtain⟨Qb,Qq⟩:=(an.below hq).cp;obtain⟨Qa,Qj,Qc,Qd⟩:=(Y.below hq).cq;obtain⟨Qt,Qs,Qv,Qu⟩:=(Y.below hq).fq))
  all_goals go_wp2_with fail
  have Ua:=Bt M4.o.2.2 hq;have Ux:=M4.o.ge 2 rfl;exact BA (v:=F #[E f8,C dx fj ff,E fm,C ew ft de]) (by simp[results,Tryz.results52,go_sem,Qa,Qj,Qc,Qd]) rfl ⟨_,rfl,ci.put4 (Y.below hq) rfl rfl rfl rfl _ _ _ _,Jt Ua Ux _ _ _ _⟩
theorem MC(R S:J)(x y:Int)(w:H)(q:Jl w R x)(r:Jl w S y)(O:Da x)(Y:Da y):
 Calls L 84 #[R,S] w λe T=>∃u,e=.returned (.tuple #[u,E (decide (y≠0))])/\Jj T u (Rat.divInt x y)/\Bl w T:=by
 have HX:=Ja O;have HY:=Ja Y;clear O Y;obtain⟨s,a,la,ca,rfl⟩:=Jl.form2 q;obtain⟨t,b,lb,cb,rfl⟩:=Jl.form2 r;have N:=OG w s t a b la ca lb cb _ _ q r;obtain⟨W0,A⟩:=ex (((w.alloc (G #[E s,C a la ca] 63)).alloc (G #[E t,C b lb cb] 63)).alloc (G #[E false,C none 0 0,E false,C none 0 0] 65));have U:=Ja A;rw[A]at N;have f:Hid (Mem w W0 [some (w.heap.size,.int (x)),some (w.heap.size+1,.int (y)),some (w.heap.size+1+1,.rat (0))]):=Ja N;clear N q r A;obtain⟨s1,a1,l1,c1,P,i1⟩:=f.o.int (i:=0) rfl;obtain⟨Ql,Qo⟩:=P.cp;obtain⟨s2,a2,l2,c2,Z,W⟩:=f.o.int (i:=1) rfl;obtain⟨Qm,Qk⟩:=Z.cp;obtain⟨s3,a3,l3,c3,t3,b3,k3,d3,c,r3,i3,j3⟩:=f.o.rat (i:=2) rfl;obtain⟨k,j,g,l⟩:=c.cq;obtain⟨o,K,D,z⟩:=c.fq;have n:=Ja (Q6 _ y W0 W);have m:=Ja (λ(V:H) (h:Bl W0 V) (d:y≠0)=>Q8 _ _ x y V (i1.below h) (W.below h) d HX.o HY.o);by_cases d:y=0
 . rw[BK d]at n;have B:=Ja (BI (p:=y≠0) (λh=>h d));rw[B.o];have HE:=Ja (show Rat.divInt x y=0 by rw[d,Rat.divInt_zero]);clear d m;go_enter Tryz.func84,Tryz.ntmps84
   go_upto_region 1 with fail
   rw[U.o];go_wp2_with(go_at_call 117;refine n.o.mono ?_;rintro e X ⟨rfl,hq⟩;obtain⟨k,j,g,l⟩:=(c.below hq).cq;obtain⟨o,K,D,z⟩:=(c.below hq).fq)
   have hr:Jj X (F #[E false,C none 0 0,E false,C none 0 0]) (Rat.divInt x y):=by rw[HE.o];exact Ek _
   have M:=Bt f.o.2.2 hq;exact BA (v:=.tuple #[F #[E false,C none 0 0,E false,C none 0 0],E false]) (by simp[results,Tryz.results84,go_sem,k,j,g,l]) rfl ⟨_,rfl,hr.put4 (c.below hq) rfl rfl rfl rfl _ _ _ _,Jt M om _ _ _ _⟩
 . rw[BI d]at n;have B:=Ja (BK (p:=y≠0) d);rw[B.o];have m:=Ja (λV h=>m.o V h d);clear d;go_enter Tryz.func84,Tryz.ntmps84
   go_upto_region 1 with fail
   rw[U.o];go_wp2_with(first
    |(go_at_call 117;refine n.o.mono ?_;rintro e X ⟨rfl,hq⟩;obtain⟨Ql,Qo⟩:=(P.below hq).cp;obtain⟨Qm,Qk⟩:=(Z.below hq).cp;obtain⟨k,j,g,l⟩:=(c.below hq).cq;obtain⟨o,K,D,z⟩:=(c.below hq).fq)
    |(go_at_call 118;refine(m.o _ hq).mono ?_;clear m;rintro e w2 ⟨u2,rfl,Q,ak⟩;obtain⟨ah,ae,ad,am,af,an,aj,ai,rfl⟩:=Jj.form Q;have hq:=Bt hq ak;obtain⟨k,j,g,l⟩:=(c.below hq).cq;obtain⟨o,K,D,z⟩:=(c.below hq).fq))
   have M:=Bt f.o.2.2 hq;have Qn:=f.o.ge 2 rfl;exact BA (v:=.tuple #[F #[E ah,C ae ad am,E af,C an aj ai],E true]) (by simp[results,Tryz.results84,go_sem,k,j,g,l]) rfl ⟨_,rfl,Q.put4 (c.below hq) rfl rfl rfl rfl _ _ _ _,Jt M Qn _ _ _ _⟩
theorem Zh(p q:Rat):decide ((p.den:Int)*q.num≠0)=decide (q≠0):=by
 refine DL.2 (not_congr ⟨λh=>?_,λh=>?_⟩)
 . rcases Int.mul_eq_zero.1 h with h|h
   . have:=p.den_nz;omega
   . exact Fx.1 h
 . rw[h];exact Int.mul_zero _
theorem Q9(va vb:J)(p q:Rat)(w:H)(ha:Jj w va p)(hb:Jj w vb q)(ai:Sq p)(ah:Sq q):
 Calls L 50 #[va,vb] w λe g=>∃u,e=.returned (.tuple #[u,E (decide (q≠0))])/\Jj g u (p/q)/\Bl w g:=by
 obtain⟨bq,ad⟩:=ex (decide (q≠0));have Qs:=Ja ((Zh p q).trans ad);rw[ad];clear ad;obtain⟨s,a,l,c,t,b,k,d,rfl⟩:=Jj.form ha;obtain⟨s',a',l',c',t',b',k',d',rfl⟩:=Jj.form hb;have M0:=L9 w s t s' t' a b a' b' l c k d l' c' k' d' p q ha hb;obtain⟨W0,af⟩:=ex (((w.alloc (G #[E s,C a l c,E t,C b k d] 65)).alloc (G #[E s',C a' l' c',E t',C b' k' d'] 65)).alloc (G #[E false,C none 0 0,E false,C none 0 0] 65));have Qr:=Ja af;rw[af]at M0;have o:Hid (Mem w W0 [some (w.heap.size,.rat (p)),some (w.heap.size+1,.rat (q)),some (w.heap.size+1+1,.rat (0))]):=Ja M0;have HP:=Ja ai;have HQ:=Ja ah;clear M0 ha hb af ai ah;go_enter Tryz.func50,Tryz.ntmps50
 go_upto_region 1 with fail
 rw[Qr.o];clear Qr;obtain⟨s1,a1,l1,c1,t1,b1,k1,d1,y,r1,i1,j1⟩:=o.o.rat (i:=0) rfl;obtain⟨x,K,P,B⟩:=y.cq;obtain⟨s2,a2,l2,c2,t2,b2,k2,d2,O,r2,i2,j2⟩:=o.o.rat (i:=1) rfl;obtain⟨A,D,r,Q⟩:=O.cq;obtain⟨s3,a3,l3,c3,t3,b3,k3,d3,f,r3,i3,j3⟩:=o.o.rat (i:=2) rfl;obtain⟨z,M,R,N⟩:=f.cq;obtain⟨W,T,X,U⟩:=f.fq;obtain⟨H3,H4,H6,H9,Qq⟩:=Gi (λ(V:H) (h:Bl W0 V)=>GA _ q V (r2.below h)) (λ(V:H) (h:Bl W0 V) (v3:J) (j:Jl V v3 ((q.den:Int)))=>Xi _ _ p.num (q.den:Int) V (i1.below h) j (by have h1:=HP.o.num.words;have h2:=HQ.o.den.words;omega)) (λ(V:H) (h:Bl W0 V)=>GA _ p V (r1.below h)) (λ(V:H) (h:Bl W0 V) (v6:J) (n:Jl V v6 ((p.den:Int)))=>Xi _ _ (p.den:Int) q.num V n (i2.below h) (by have h1:=HP.o.den.words;have h2:=HQ.o.num.words;omega)) (λ(V:H) (h:Bl W0 V) (v4:J) (m:Jl V v4 (p.num*(q.den:Int))) (v9:J) (S:Jl V v9 ((p.den:Int)*q.num))=>(by have h:=MC _ _ (p.num*(q.den:Int)) ((p.den:Int)*q.num) V m S (HP.o.cross HQ.o) (HP.o.cross2 HQ.o);rw[Qs.o,PT]at h;exact h));have bh:w.heap.size≠w.heap.size+1+1:=o.o.ne 0 2 rfl rfl DS;have bg:w.heap.size+1≠w.heap.size+1+1:=o.o.ne 1 2 rfl rfl DS;have hq:Bl W0 W0.drew:=(BB _ W0).drew;go_region_held3 (λg=>g.cell? ⟨w.heap.size,0,none⟩=some (E s1)/\g.cell? ⟨w.heap.size,1,none⟩=some (C a1 l1 c1)/\g.cell? ⟨w.heap.size,2,none⟩=some (E t1)/\g.cell? ⟨w.heap.size,3,none⟩=some (C b1 k1 d1)/\g.cell? ⟨w.heap.size+1,0,none⟩=some (E s2)/\g.cell? ⟨w.heap.size+1,1,none⟩=some (C a2 l2 c2)/\g.cell? ⟨w.heap.size+1,2,none⟩=some (E t2)/\g.cell? ⟨w.heap.size+1,3,none⟩=some (C b2 k2 d2)) (first|(with_reducible exact⟨x,K,P,B,A,D,r,Q⟩)|(go_keep;done)|(refine⟨?_,?_,?_,?_,?_,?_,?_,?_⟩<;>((repeat rw[JH om]);first|assumption|(go_keep;done))))
  (first
   |(go_at_call 86;refine(H3.o _ hq ).mono ?_;clear H3;rintro e w3 ⟨v3,rfl,j,ap⟩;have hq:=Bt hq ap;obtain⟨x,K,P,B⟩:=(y.below hq).cq;obtain⟨A,D,r,Q⟩:=(O.below hq).cq;obtain⟨z,M,R,N⟩:=(f.below hq).cq;obtain⟨W,T,X,U⟩:=(f.below hq).fq)
   |(go_at_call 85;refine(H4.o _ hq _ j).mono ?_;clear H4;rintro e w4 ⟨v4,rfl,m,ak⟩;have j:=j.below ak;have hq:=Bt hq ak;obtain⟨x,K,P,B⟩:=(y.below hq).cq;obtain⟨A,D,r,Q⟩:=(O.below hq).cq;obtain⟨z,M,R,N⟩:=(f.below hq).cq;obtain⟨W,T,X,U⟩:=(f.below hq).fq)
   |(go_at_call 86;refine(H6.o _ hq ).mono ?_;clear H6;rintro e w6 ⟨v6,rfl,n,ae⟩;have j:=j.below ae;have m:=m.below ae;have hq:=Bt hq ae;obtain⟨x,K,P,B⟩:=(y.below hq).cq;obtain⟨A,D,r,Q⟩:=(O.below hq).cq;obtain⟨z,M,R,N⟩:=(f.below hq).cq;obtain⟨W,T,X,U⟩:=(f.below hq).fq)
   |(go_at_call 85;refine(H9.o _ hq _ n).mono ?_;clear H9;rintro e w9 ⟨v9,rfl,S,Z⟩;have j:=j.below Z;have m:=m.below Z;have n:=n.below Z;have hq:=Bt hq Z;obtain⟨x,K,P,B⟩:=(y.below hq).cq;obtain⟨A,D,r,Q⟩:=(O.below hq).cq;obtain⟨z,M,R,N⟩:=(f.below hq).cq;obtain⟨W,T,X,U⟩:=(f.below hq).fq)
   |(go_at_call 84;refine(Qq.o _ hq _ m _ S).mono ?_;clear Qq;rintro e bj ⟨bi,rfl,aj,Y⟩;obtain⟨aw,an,am,bc,aq,bf,az,ay,rfl⟩:=Jj.form aj;have j:=j.below Y;have m:=m.below Y;have n:=n.below Y;have S:=S.below Y;have hq:=Bt hq Y;obtain⟨x,K,P,B⟩:=(y.below hq).cq;obtain⟨A,D,r,Q⟩:=(O.below hq).cq;obtain⟨z,M,R,N⟩:=(f.below hq).cq;obtain⟨W,T,X,U⟩:=(f.below hq).fq))
 all_goals go_wp2_with fail
 have Qt:=Bt o.o.2.2 hq;have Qu:=o.o.ge 2 rfl;exact BA (v:=.tuple #[F #[E aw,C an am bc,E aq,C bf az ay],E bq]) (by simp[results,Tryz.results50,go_sem,z,M,R,N]) rfl ⟨_,rfl,aj.put4 (f.below hq) rfl rfl rfl rfl _ _ _ _,Jt Qt Qu _ _ _ _⟩
def Hq(p q:Rat):Int:=Ef (p.num*q.den) (q.num*p.den)
theorem RA(va vb:J)(p q:Rat)(w:H)(ha:Jj w va p)(X:Jj w vb q)(aj:Sq p)(af:Sq q):
 Calls L 68 #[va,vb] w λe f=>e=.returned (.int .i64 (Hq p q))/\Bl w f:=by
 obtain⟨s,a,l,c,t,b,k,d,rfl⟩:=Jj.form ha;obtain⟨s',a',l',c',t',b',k',d',rfl⟩:=Jj.form X;have Z:=ZZ w s t s' t' a b a' b' l c k d l' c' k' d' p q ha X;obtain⟨W0,ae⟩:=ex ((w.alloc (G #[E s,C a l c,E t,C b k d] 65)).alloc (G #[E s',C a' l' c',E t',C b' k' d'] 65));have Qm:=Ja ae;rw[ae]at Z;have P:Hid (Mem w W0 [some (w.heap.size,.rat (p)),some (w.heap.size+1,.rat (q))]):=Ja Z;obtain⟨n,Y⟩:=ex (Hq p q);have HN:=Ja Y;rw[Y];have HP:=Ja aj;have HQ:=Ja af;clear Z ha X ae aj af Y;go_enter Tryz.func68,Tryz.ntmps68
 go_upto_region 1 with fail
 rw[Qm.o];clear Qm;obtain⟨U,ah⟩:=ex (decide (p.den=1/\q.den=1):Bool);have S:=Ja ah;clear ah;go_cut [10] (λc f=>c=E U/\Hid (Mem w f [some (w.heap.size,.rat (p)),some (w.heap.size+1,.rat (q))]))
 case first=>
  obtain⟨s1,a1,l1,c1,t1,b1,k1,d1,n1,r1,i1,j1⟩:=P.o.rat (i:=0) rfl;obtain⟨Qo,Qq,Qu,Qs⟩:=n1.cq;obtain⟨s2,a2,l2,c2,t2,b2,k2,d2,n2,r2,i2,j2⟩:=P.o.rat (i:=1) rfl;obtain⟨Qp,Qn,Qr,Qt⟩:=n2.cq;have j:=Ja (XK _ p W0 r1);have H2:=Ja (λ(V:H) (h:Bl W0 V)=>XK _ q V (r2.below h));by_cases o:p.den=1
  . rw[BK o]at j;obtain⟨b2,R⟩:=ex (decide (q.den=1));rw[R]at H2;have Qk:=Ja (show b2=U by rw[<-R,<-S.o];exact DL.2 ⟨λh=>⟨o,h⟩,λh=>h.2⟩);clear R o;go_wp2_with(first
     |(go_at_call 89;refine j.o.mono ?_;clear j;rintro e w1 ⟨rfl,y⟩;obtain⟨Qo,Qq,Qu,Qs⟩:=(n1.below y).cq;obtain⟨Qp,Qn,Qr,Qt⟩:=(n2.below y).cq)
     |(go_at_call 89;refine(H2.o _ y).mono ?_;clear H2;rintro e w2 ⟨rfl,R⟩))
    go_meet
    case rel=>exact⟨by rw[Qk.o],Ja ((P.o.below y).below R)⟩
  . rw[BI o]at j;have Qk:=Ja (show U=false by rw[<-S.o];exact BI (λh=>o h.1));clear o;go_wp2_with(go_at_call 89;refine j.o.mono ?_;clear j;rintro e w1 ⟨rfl,y⟩)
    go_meet
    case rel=>exact⟨by rw[Qk.o],Ja (P.o.below y)⟩
 obtain⟨rfl,MM⟩:=hcut;have x:Hid (Mem w wc [some (w.heap.size,.rat (p)),some (w.heap.size+1,.rat (q))]):=MM;clear P MM;cases U with
 |true=>
  have Qj:=Bf S.o;have HE:=Ja (show Ef p.num q.num=n by rw[<-HN.o];unfold Hq;rw[Qj.1,Qj.2];simp);clear Qj S;obtain⟨s3,a3,l3,c3,t3,b3,k3,d3,n3,r3,i3,j3⟩:=x.o.rat (i:=0) rfl;obtain⟨am,ap⟩:=n3.cp;obtain⟨s4,a4,l4,c4,t4,b4,k4,d4,n4,r4,i4,j4⟩:=x.o.rat (i:=1) rfl;obtain⟨an,aq⟩:=n4.cp;have j:=Ja (Ii _ _ p.num q.num wc i3 i4);rw[HE.o]at j;go_wp2_with(go_at_call 104;refine j.o.mono ?_;clear j;rintro e w1 ⟨rfl,hq⟩)
  go_ret;exact⟨rfl,Bt x.o.2.2 hq⟩
 |false=>
  clear S;go_upto_region 3 with fail
  obtain⟨s5,a5,l5,c5,t5,b5,k5,d5,D,r5,i5,j5⟩:=x.o.rat (i:=0) rfl;obtain⟨u,z,K,B⟩:=D.cq;obtain⟨s6,a6,l6,c6,t6,b6,k6,d6,M,r6,i6,j6⟩:=x.o.rat (i:=1) rfl;obtain⟨A,v,O,N⟩:=M.cq;obtain⟨H3,H4,H8,H9,Ql⟩:=Gi (λ(V:H) (h:Bl wc V)=>GA _ q V (r6.below h)) (λ(V:H) (h:Bl wc V) (v3:J) (g:Jl V v3 ((q.den:Int)))=>Xi _ _ p.num (q.den:Int) V (i5.below h) g (by have o:=HP.o.num.words;have h2:=HQ.o.den.words;omega)) (λ(V:H) (h:Bl wc V)=>GA _ p V (r5.below h)) (λ(V:H) (h:Bl wc V) (v8:J) (r:Jl V v8 ((p.den:Int)))=>Xi _ _ q.num (p.den:Int) V (i6.below h) r (by have o:=HQ.o.num.words;have h2:=HP.o.den.words;omega)) (λ(V:H) (h:Bl wc V) (v4:J) (m:Jl V v4 (p.num*(q.den:Int))) (v9:J) (Q:Jl V v9 (q.num*(p.den:Int)))=>(by have h:=Ii _ _ (p.num*(q.den:Int)) (q.num*(p.den:Int)) V m Q;rw[show Ef (p.num*(q.den:Int)) (q.num*(p.den:Int))=n from HN.o]at h;exact h));have hq:Bl wc wc.drew:=(BB _ wc).drew;go_region_held3 (λf=>f.cell? ⟨w.heap.size,0,none⟩=some (E s5)/\f.cell? ⟨w.heap.size,1,none⟩=some (C a5 l5 c5)/\f.cell? ⟨w.heap.size,2,none⟩=some (E t5)/\f.cell? ⟨w.heap.size,3,none⟩=some (C b5 k5 d5)/\f.cell? ⟨w.heap.size+1,0,none⟩=some (E s6)/\f.cell? ⟨w.heap.size+1,1,none⟩=some (C a6 l6 c6)/\f.cell? ⟨w.heap.size+1,2,none⟩=some (E t6)/\f.cell? ⟨w.heap.size+1,3,none⟩=some (C b6 k6 d6)) (first|(with_reducible exact⟨u,z,K,B,A,v,O,N⟩)|(go_keep;done)|(refine⟨?_,?_,?_,?_,?_,?_,?_,?_⟩<;>((repeat rw[JH om]);first|assumption|(go_keep;done))))
   (first
    |(go_at_call 86;refine(H3.o _ hq ).mono ?_;clear H3;rintro e w3 ⟨v3,rfl,g,ak⟩;have hq:=Bt hq ak;obtain⟨u,z,K,B⟩:=(D.below hq).cq;obtain⟨A,v,O,N⟩:=(M.below hq).cq)
    |(go_at_call 85;refine(H4.o _ hq _ g).mono ?_;clear H4;rintro e w4 ⟨v4,rfl,m,ai⟩;have g:=g.below ai;have hq:=Bt hq ai;obtain⟨u,z,K,B⟩:=(D.below hq).cq;obtain⟨A,v,O,N⟩:=(M.below hq).cq)
    |(go_at_call 86;refine(H8.o _ hq ).mono ?_;clear H8;rintro e w8 ⟨v8,rfl,r,ad⟩;have g:=g.below ad;have m:=m.below ad;have hq:=Bt hq ad;obtain⟨u,z,K,B⟩:=(D.below hq).cq;obtain⟨A,v,O,N⟩:=(M.below hq).cq)
    |(go_at_call 85;refine(H9.o _ hq _ r).mono ?_;clear H9;rintro e w9 ⟨v9,rfl,Q,W⟩;have g:=g.below W;have m:=m.below W;have r:=r.below W;have hq:=Bt hq W;obtain⟨u,z,K,B⟩:=(D.below hq).cq;obtain⟨A,v,O,N⟩:=(M.below hq).cq)
    |(go_at_call 104;refine(Ql.o _ hq _ m _ Q).mono ?_;clear Ql;rintro e aw ⟨rfl,T⟩;have g:=g.below T;have m:=m.below T;have r:=r.below T;have Q:=Q.below T;have hq:=Bt hq T;obtain⟨u,z,K,B⟩:=(D.below hq).cq;obtain⟨A,v,O,N⟩:=(M.below hq).cq))
  all_goals go_wp2_with fail
  go_ret;exact⟨rfl,Bt x.o.2.2 hq⟩
theorem Ky(va vb:J)(p q:Rat)(w:H)(r:Jj w va p)(z:Jj w vb q)(ae:Sq p)(X:Sq q):
 Calls L 51 #[va,vb] w λe f=>∃u,e=.returned u/\Jj f u (p-q)/\Bl w f:=by
 obtain⟨s,a,l,c,t,b,k,d,rfl⟩:=Jj.form r;obtain⟨s',a',l',c',t',b',k',d',rfl⟩:=Jj.form z;have S:=L9 w s t s' t' a b a' b' l c k d l' c' k' d' p q r z;obtain⟨W0,D⟩:=ex (((w.alloc (G #[E s,C a l c,E t,C b k d] 65)).alloc (G #[E s',C a' l' c',E t',C b' k' d'] 65)).alloc (G #[E false,C none 0 0,E false,C none 0 0] 65));have Qp:=Ja D;rw[D]at S;have j:Hid (Mem w W0 [some (w.heap.size,.rat (p)),some (w.heap.size+1,.rat (q)),some (w.heap.size+1+1,.rat (0))]):=Ja S;have HP:=Ja ae;have HQ:=Ja X;clear S r z D ae X;go_enter Tryz.func51,Tryz.ntmps51
 go_upto_region 1 with fail
 rw[Qp.o];clear Qp;obtain⟨s1,a1,l1,c1,t1,b1,k1,d1,x,r1,i1,j1⟩:=j.o.rat (i:=0) rfl;obtain⟨o,M,Q,B⟩:=x.cq;obtain⟨s2,a2,l2,c2,t2,Y,U,d2,P,r2,i2,j2⟩:=j.o.rat (i:=1) rfl;obtain⟨A,K,n,R⟩:=P.cq;obtain⟨s3,a3,l3,c3,t3,b3,k3,d3,m,r3,i3,j3⟩:=j.o.rat (i:=2) rfl;obtain⟨y,N,T,O⟩:=m.cq;obtain⟨Z,Qn,Qo,Qm⟩:=m.fq;have H1:=Ja (λ(V:H) (h:Bl W0 V)=>QR _ _ 0 q.num V (EP _) (i2.below h) (by have:=Da.zero.words;omega) (by have:=HQ.o.num.words;omega));have H2:=Ja (λ(V:H) (h:Bl W0 V) (s:Bool) (a:Option Addr) (l c:Nat) (g:Jl V (F #[E s,C a l c]) (0-q.num))=>show Calls L 87 #[F #[E s1,C a1 l1 c1,E t1,C b1 k1 d1],F #[E s,C a l c,E t2,C Y U d2]] V λe f=>∃u,e=.returned u/\Jj f u (p-q)/\Bl V f by
  have h1:=MB _ _ p (-q) V (r1.below h) (Jj.mk (q:=-q) (by rw[Rat.neg_num,<-Int.zero_sub];exact g) (j2.below h)) HP.o HQ.o.neg;rw[<-FC]at h1;exact h1)
 have bf:w.heap.size≠w.heap.size+1+1:=j.o.ne 0 2 rfl rfl DS;have az:w.heap.size+1≠w.heap.size+1+1:=j.o.ne 1 2 rfl rfl DS;have hq:Bl W0 W0.drew:=(BB _ W0).drew;go_region_held3 (λf=>f.cell? ⟨w.heap.size,0,none⟩=some (E s1)/\f.cell? ⟨w.heap.size,1,none⟩=some (C a1 l1 c1)/\f.cell? ⟨w.heap.size,2,none⟩=some (E t1)/\f.cell? ⟨w.heap.size,3,none⟩=some (C b1 k1 d1)/\f.cell? ⟨w.heap.size+1,0,none⟩=some (E s2)/\f.cell? ⟨w.heap.size+1,1,none⟩=some (C a2 l2 c2)/\f.cell? ⟨w.heap.size+1,2,none⟩=some (E t2)/\f.cell? ⟨w.heap.size+1,3,none⟩=some (C Y U d2)) (first|(with_reducible exact⟨o,M,Q,B,A,K,n,R⟩)|(go_keep;done)|(refine⟨?_,?_,?_,?_,?_,?_,?_,?_⟩<;>((repeat rw[JH om]);first|assumption|(go_keep;done))))
  (first
   |(go_at_call 88;refine(H1.o _ hq).mono ?_;clear H1;rintro e w1 ⟨u1,rfl,W,ak⟩;obtain⟨ay,bg,bh,bc,rfl⟩:=Jl.form2 W;have hq:=Bt hq ak;obtain⟨o,M,Q,B⟩:=(x.below hq).cq;obtain⟨A,K,n,R⟩:=(P.below hq).cq;obtain⟨y,N,T,O⟩:=(m.below hq).cq;obtain⟨Z,Qn,Qo,Qm⟩:=(m.below hq).fq)
   |(go_at_call 87;refine(H2.o _ hq _ _ _ _ W).mono ?_;clear H2;rintro e w2 ⟨u2,rfl,ad,ap⟩;obtain⟨aj,ah,af,aq,ai,aw,an,am,rfl⟩:=Jj.form ad;have hq:=Bt hq ap;obtain⟨o,M,Q,B⟩:=(x.below hq).cq;obtain⟨A,K,n,R⟩:=(P.below hq).cq;obtain⟨y,N,T,O⟩:=(m.below hq).cq;obtain⟨Z,Qn,Qo,Qm⟩:=(m.below hq).fq))
 all_goals go_wp2_with fail
 have Qr:=Bt j.o.2.2 hq;have Qs:=j.o.ge 2 rfl;exact BA (v:=F #[E aj,C ah af aq,E ai,C aw an am]) (by simp[results,Tryz.results51,go_sem,y,N,T,O]) rfl ⟨_,rfl,ad.put4 (m.below hq) rfl rfl rfl rfl _ _ _ _,Jt Qr Qs _ _ _ _⟩
theorem Zi(q:Rat):Hq q 0=0↔q=0:=by
 rw[Rat.eq_iff_mul_eq_mul];unfold Hq Ef;split<;>(try split)<;>omega
theorem Ip:Sq 0:=Sq.of (k:=1) ⟨Sm.zero _,Sm.one _ om⟩ om
theorem RB(v:J)(q:Rat)(w:H)(h:Jj w v q)(hq:Sq q):
 Calls L 31 #[v] w λe r=>e=.returned (E (decide (q=0)))/\Bl w r:=by
 obtain⟨s,a,l,c,t,b,k,d,rfl⟩:=h.form;have b0:=JK.new w 65 (E s) (C a l c) (E t) (C b k d);have g:Bl w (w.alloc (G #[E s,C a l c,E t,C b k d] 65)):=Ba w _;obtain⟨W0,f⟩:=ex (w.alloc (G #[E s,C a l c,E t,C b k d] 65));rw[f]at b0 g;have p:=Ja f;have i:=Ja (RA _ _ q 0 W0 (h.below g) (Ek _) hq Ip);obtain⟨y,x,u,z⟩:=b0.cq;have j:=Ja (Zi q);obtain⟨n,m⟩:=ex (Hq q 0);rw[m]at i j;clear f m;go_enter Tryz.func31,Tryz.ntmps31
 go_upto_region 1 with fail
 rw[p.o];go_wp2_with(go_at_call 68;refine i.o.mono ?_;rintro e A ⟨rfl,o⟩)
 go_ret;refine⟨?_,Bt g o⟩;show Ending.returned (Value.bool (n==0))=_;have e:(n==0)=decide (q=0):=by rw[Cp];simp[j.o]
 rw[e]
def Zj(c:Nat)(a:Option Addr)(len cap:Nat)(x y z u:Nat->J)(k:Nat)(W:H):Prop:=
 W.cell? ⟨c,0,none⟩=some (C a len cap)/\(k<len->∃b,a=some ⟨b,0,none⟩/\W.cell? ⟨b,(len-1-k)*4,none⟩=some (x (len-1-k))/\W.cell? ⟨b,(len-1-k)*4+1,none⟩=some (y (len-1-k))/\
  W.cell? ⟨b,(len-1-k)*4+2,none⟩=some (z (len-1-k))/\W.cell? ⟨b,(len-1-k)*4+3,none⟩=some (u (len-1-k)))
def Jx(len:Nat)(x y z u:Nat->J)(k:Nat):Array J:=#[.int .i64 ((len:Int)-1-k),F #[x (len-1-k),y (len-1-k),z (len-1-k),u (len-1-k)]]
theorem MD(F:Fence)(n:Nat)(D:F.fn 67)(K:F.round=none)(Y:1<=n)(f:Nat)(a:Option Addr)(len cap:Nat)(x y z u:Nat->J)(O:len<=1099511627776):
 Kj F n L 67 #[I (some ⟨f,0,none⟩)] len (Jx len x y z u) (Zj f a len cap x y z u):=λl v R W o M g=>by
 have S:=(o 0 W g).1;refine B0 Tryz.func67 rfl D ?_ K;simp only[Tryz.ntmps67,An,Am,AD,Nat.reduceAdd,Nat.reduceSub,AF,AG,AZ,AN,Ao,Az];gi_wp2;gi_loopw [3] (λi wr=>∃k:Nat,k<=len/\i=.int .i64 ((len:Int)-1-k)/\v k wr) (λi _=>(intOf i+1).toNat)
 case atStart=>exact⟨0,AK _,DQ,g⟩
 case round=>
  obtain⟨k,V,rfl,c⟩:=hrel;obtain⟨X,B⟩:=o k wr c;by_cases d:k<len
  . obtain⟨b,rfl,P,Q,U,T⟩:=B d;obtain⟨fn,tmps,assign,body,j,t⟩:=M k wr c d;have q:((len:Int)-1-k)=((len-1-k:Nat):Int):=om
    have Z:len-1-k<len:=om
    dsimp only[Jx]at j;rw[q]at j ⊢;generalize r:len-1-k=m at *;have w:=Hid.o (p:=Hid (len-1-k=m)) r;clear r q;gi_wp2;refine t.mono ?_;rintro e N (⟨rfl,s⟩|⟨rfl,A⟩)
    . gi_wp2;go_roundw
      case rel=>exact⟨k+1,om,by(congr 1;have:=w.o;omega),s⟩
      case measure=>simp[intOf]
    . gi_wp2;refine BA (results_none rfl _ _ _) rfl ?_;exact⟨⟨_,rfl⟩,.inr ⟨k,d,A⟩⟩
  . obtain rfl:k=len:=om
    gi_wp2;go_end0;exact⟨⟨_,rfl⟩,.inl c⟩
theorem ME(F:Fence)(n:Nat)(b:F.fn 30)(c:F.round=none)(a:Option Addr)(len cap:Nat)(w:H):
 CallsIn F n L 30 #[C a len cap] w λe d=>e=.returned (.func (.func 67) #[] #[I (some ⟨w.heap.size,0,none⟩)])/\d=w.alloc (G #[C a len cap] 23):=by
 refine B0 Tryz.func30 rfl b ?_ c;simp only[Tryz.ntmps30,An,Am,AD,Nat.reduceAdd,Nat.reduceSub,AF,AG,AZ,AN,Ao,Az];gi_wp2;go_ret;exact⟨rfl,rfl⟩
def MF:J->Bool|E b=>b|_=>false
def MG:J->Option Addr|C a _ _=>a|_=>none
def MH:J->Nat|C _ _ c=>c|_=>0
theorem RowK.pick{r:Bool}(h:RowK r W (C a l cap) qs):l=qs.length/\l<=cap/\cap<=9223372036854775807/\l<=1099511627776/\∃x y z u:Nat->J,∀j,j<l->EQ r W (F #[x j,y j,z j,u j]) (cf qs j)/\
 ∃b,a=some ⟨b,0,none⟩/\b<W.heap.size/\W.cell? ⟨b,j*4,none⟩=some (x j)/\W.cell? ⟨b,j*4+1,none⟩=some (y j)/\W.cell? ⟨b,j*4+2,none⟩=some (z j)/\W.cell? ⟨b,j*4+3,none⟩=some (u j):=by
 obtain⟨a',s,e,n,o,f,d⟩:=h;cases e;refine⟨rfl,n,o,f,?_⟩;rcases d with d|⟨b,q,p⟩
 . exact⟨λ_=>undef,λ_=>undef,λ_=>undef,λ_=>undef,λj c=>by rw[d]at c;simp at c⟩
 . obtain⟨cs,c1,c2⟩:=p;refine⟨λj=>cs[j*4]?.getD undef,λj=>cs[j*4+1]?.getD undef,λj=>cs[j*4+2]?.getD undef,λj=>cs[j*4+3]?.getD undef,λj c=>?_⟩;obtain⟨x,y,z,u,g,i,m,k,f⟩:=c2 j c;dsimp only;rw[g,i,m,k];exact⟨f,b,q,(Ab.1 c1).1,cell_of c1 g,cell_of c1 i,cell_of c1 m,cell_of c1 k⟩
theorem RowK.forms(h:RowK true W (C a l cap) qs):l=qs.length/\l<=cap/\cap<=9223372036854775807/\l<=1099511627776/\∃(s t:Nat->Bool) (m p:Nat->Option Addr) (o n k dd:Nat->Nat),∀j,j<l->Jj W (F #[E (s j),C (m j) (o j) (n j),E (t j),C (p j) (k j) (dd j)]) (cf qs j)/\
 ∃b,a=some ⟨b,0,none⟩/\b<W.heap.size/\W.cell? ⟨b,j*4,none⟩=some (E (s j))/\W.cell? ⟨b,j*4+1,none⟩=some (C (m j) (o j) (n j))/\W.cell? ⟨b,j*4+2,none⟩=some (E (t j))/\W.cell? ⟨b,j*4+3,none⟩=some (C (p j) (k j) (dd j)):=by
 obtain⟨w,B,K,A,x,y,z,u,r⟩:=h.pick;refine⟨w,B,K,A,λj=>MF (x j),λj=>MF (z j),λj=>MG (y j),λj=>MG (u j),λj=>IA (y j),λj=>MH (y j),λj=>IA (u j),λj=>MH (u j),λj q=>?_⟩;obtain⟨d,b,D,v,c0,c1,c2,c3⟩:=r j q;obtain⟨s,a',l',c',t,N,M,O,e,_⟩:=(show Jj W _ _ from d);simp only[Value.agg.injEq,FU,Fw,and_true]at e;obtain⟨f,g,i,c⟩:=e;rw[f,g,i,c]at d;rw[f]at c0;rw[g]at c1;rw[i]at c2;rw[c]at c3;dsimp only;rw[f,g,i,c];exact⟨d,b,D,v,c0,c1,c2,c3⟩
def RC(w:H)(a:Option Addr)(len cap:Nat)(qs:List Rat)(k:Nat)(W:H):Prop:=
 ((((Boxed W w.heap.size 23 (C a len cap)/\Boxed W (w.heap.size+1) 75 (.func (.func 31) #[] #[]))/\Boxed W (w.heap.size+1+1) 23 (C none 0 0))/\Boxed W (w.heap.size+1+1+1) 23 (C a len cap))/\Bl w W)/\∀j,len-k<=j->j<len->cf qs j=0
def RD(w:H)(a:Option Addr)(len cap:Nat)(qs:List Rat)(c:Code)(k:Nat)(W:H):Prop:=
 (Boxed W (w.heap.size+1+1) 23 (C a (len-1-k+1) cap)/\Bl w W)/\(c=.ret/\cf qs (len-1-k)≠0/\∀j,len-k<=j->j<len->cf qs j=0)
theorem Zk(w:H)(a:Option Addr)(len cap:Nat)(qs:List Rat):OwnFrom (w.heap.size+1+1+1+1) (RC w a len cap qs):=
 BN (BN (BN (BN (BN (Bj (boxed_own _ _ (λ_=>C a len cap)) _) (Bj (boxed_own _ _ (λ_=>.func (.func 31) #[] #[])) _)) (Bj (boxed_own _ _ (λ_=>C none 0 0)) _)) (Bj (boxed_own _ _ (λ_=>C a len cap)) _)) (Bw (Aa _) om)) (DN _ _)
theorem Zl(w:H)(a:Option Addr)(len cap:Nat)(qs:List Rat)(c:Code):OwnFrom (w.heap.size+1+1+1+1) (RD w a len cap qs c):=
 BN (BN (Bj (boxed_own _ _ (λk=>C a (len-1-k+1) cap)) _) (Bw (Aa _) om)) (DN _ _)
theorem Zm(a:Option Addr)(len cap:Nat)(qs:List Rat)(w:H)(h:RowK true w (C a len cap) qs)(hs:Db qs):
 Calls L 60 #[C a len cap,.func (.func 31) #[] #[]] w λe y=>∃u,e=.returned u/\(RowK true y u (Jd qs)/\Bl w y)/\(u=C none 0 0/\Jd qs=[]\/u=C a (Jd qs).length cap):=by
 obtain⟨hl,aj,ai,ad,s,t,N,Q,P,M,z,dd,Z⟩:=h.forms;obtain⟨HL,HC,HS⟩:=Dm hl Z hs;clear Z hl hs;refine(BJ (n:=3)).1 ?_;refine BU Tryz.func60 rfl trivial ?_ rfl;simp only[Tryz.ntmps60,An,Am,AD,Nat.reduceAdd,Nat.reduceSub,AF,AG,AZ,AN,Ao,Az];gi_wp2_with(refine⟨trivial,?_⟩;gi_at_call 30;refine(ME Fence.wide _ trivial rfl _ _ _ _).mono ?_;rintro e y ⟨rfl,rfl⟩)
 have b0:=(((BM w 23 (C a len cap)).alloc (G #[.func (.func 31) #[] #[]] 75)).alloc (G #[C none 0 0] 23)).alloc (G #[C a len cap] 23);have b1:=((BM (w.alloc (G #[C a len cap] 23)) 75 (.func (.func 31) #[] #[])).alloc (G #[C none 0 0] 23)).alloc (G #[C a len cap] 23);have b2:=(BM ((w.alloc (G #[C a len cap] 23)).alloc (G #[.func (.func 31) #[] #[]] 75)) 23 (C none 0 0)).alloc (G #[C a len cap] 23);have b3:=BM (((w.alloc (G #[C a len cap] 23)).alloc (G #[.func (.func 31) #[] #[]] 75)).alloc (G #[C none 0 0] 23)) 23 (C a len cap);simp only[A1]at b1 b2 b3;have Qd:Bl w ((((w.alloc (G #[C a len cap] 23)).alloc (G #[.func (.func 31) #[] #[]] 75)).alloc (G #[C none 0 0] 23)).alloc (G #[C a len cap] 23)):=(((Ba w _).alloc DQ _).alloc si _).alloc si _;have Y:((((w.alloc (G #[C a len cap] 23)).alloc (G #[.func (.func 31) #[] #[]] 75)).alloc (G #[C none 0 0] 23)).alloc (G #[C a len cap] 23)).heap.size=w.heap.size+1+1+1+1:=DQ
 refine PM rfl om (gf:=67) (lb:=#[I (some ⟨w.heap.size+1+1+1,0,none⟩)]) rfl trivial (DF Tryz.func67 (by kernel_rfl) rfl)
  (MD Fence.wide _ trivial rfl om (w.heap.size+1+1+1) a len cap (λj=>E (s j)) (λj=>C (N j) (P j) (M j)) (λj=>E (t j)) (λj=>C (Q j) (z j) (dd j)) ad) (λ_=>rfl)
  (RC w a len cap qs) (RD w a len cap qs) (by rw[Y];exact Zk w a len cap qs) (λc=>by rw[Y];exact Zl w a len cap qs c)
  ⟨⟨⟨⟨⟨b0,b1⟩,b2⟩,b3⟩,Qd⟩,λj v R=>by omega⟩ ?rd
  (λk b=>{ tmps:=#[C a len cap,.func (.func 31) #[] #[],I (some ⟨w.heap.size,0,none⟩),I (some ⟨w.heap.size+1,0,none⟩),I (some ⟨w.heap.size+1+1,0,none⟩),.int .i64 ((len:Int)-1-k),I (some ⟨b,0,none⟩),C a len cap,.func (.func 67) #[] #[I (some ⟨w.heap.size+1+1+1,0,none⟩)],.int .i64 ((len:Int)-1-k),F #[E (s (len-1-k)),C (N (len-1-k)) (P (len-1-k)) (M (len-1-k)),E (t (len-1-k)),C (Q (len-1-k)) (z (len-1-k)) (dd (len-1-k))],undef,undef,undef,undef,undef,undef,undef,undef],defers:=[] })
  (λk=>G #[E (s (len-1-k)),C (N (len-1-k)) (P (len-1-k)) (M (len-1-k)),E (t (len-1-k)),C (Q (len-1-k)) (z (len-1-k)) (dd (len-1-k))] 65 (0,0)) ?assign ?body ?done ?stop
 case rd=>
  rintro k W ⟨⟨⟨_,c3⟩,f⟩,_⟩;refine⟨c3.cell,λhk=>?_⟩;obtain⟨_,b,ea,O,v,R,h3,h4⟩:=HC.o (len-1-k) om;exact⟨b,ea,(f.cell (p:=⟨b,_,none⟩) O).trans v,(f.cell (p:=⟨b,_,none⟩) O).trans R,(f.cell (p:=⟨b,_,none⟩) O).trans h3,(f.cell (p:=⟨b,_,none⟩) O).trans h4⟩
 case assign=>
  intro l k W K i;unfold Jx;gi_wp2;exact i
 case body=>
  rintro l k b W ⟨⟨⟨⟨⟨c0,c1⟩,c2⟩,c3⟩,f⟩,o⟩ hk ak ah X;have hm:len-1-k<len:=om
  obtain⟨hi,_⟩:=HC.o (len-1-k) hm;have HI:=Ja (Jj.below hi f);have r:=Ja o;have e1:((len:Int)-1-k)=((len-1-k:Nat):Int):=om
  rw[e1];clear e1 o hi;obtain⟨m,S⟩:=ex (len-1-k);have U:=Ja S;rw[S]at X HI hm ⊢;clear S;have q0:JK W b 65 (E (s m)) (C (N m) (P m) (M m)) (E (t m)) (C (Q m) (z m) (dd m)):=X;obtain⟨k0,k1,k2,k3⟩:=q0.cq;have d0:=c0.cell;have d1:=c1.cell;have d2:=c2.cell;have f2:=c2.frozen;clear q0 X;have A:=Ja (Be l ((BJ (n:=3-1-1-1)).2 (RB _ _ W HI.o (HS.o.at m))));by_cases g:cf qs m=0
  . have T:=Ja g;rw[show decide (cf qs m=0)=true from BK g]at A;clear g;gi_wp2_with(refine⟨trivial,?_⟩;gi_at_call 31;refine A.o.mono ?_;rintro e y ⟨rfl,d⟩)
    refine⟨(Yo d).from _,⟨⟨⟨⟨boxed_below c0 d,boxed_below c1 d⟩,boxed_below c2 d⟩,boxed_below c3 d⟩,Bt f d⟩,λj v R=>?_⟩;by_cases x:j=m
    . rw[x];exact T.o
    . have:=U.o;exact r.o j om R
  . have T:=Ja g;rw[show decide (cf qs m=0)=false from BI g]at A;clear g;gi_wp2_with(refine⟨trivial,?_⟩;gi_at_call 31;refine A.o.mono ?_;rintro e y ⟨rfl,d⟩;have d0:=(boxed_below c0 d).cell;have d2:=(boxed_below c2 d).cell;have f2:=(boxed_below c2 d).frozen)
    have ae:=Bt f d;refine⟨((Yo d).trans (BL _ _ _)).from _,⟨?_,ae.setCell (p:=⟨w.heap.size+1+1,0,none⟩) si _⟩,rfl,by rw[U.o];exact T.o,r.o⟩;rw[U.o];exact(boxed_below c2 d).set _
 case done=>
  rintro D W hD ⟨⟨⟨⟨⟨c0,c1⟩,c2⟩,c3⟩,f⟩,o⟩ i;have d1:=c2.cell;have f1:=c2.frozen;have r:=Ja o;clear o;gi_wp2;have B:(W.setCell ⟨w.heap.size+1+1,0,none⟩ (C none 0 0)).heap[D]?=some (.deferred (some [])):=(BL W ⟨w.heap.size+1+1,0,none⟩ (C none 0 0)).same D _ i rfl;refine⟨DQ,.inl ⟨_,_,rfl,Bb B,?_⟩⟩;have V:=(c2.set (C none 0 0)).kept (BV _ D (.deferred none)) (λe=>by cases e;rw[show(W.setCell ⟨w.heap.size+1+1,0,none⟩ (C none 0 0)).heap[w.heap.size+1+1]?=_ from c2.set (C none 0 0)]at B;cases B);have q:=V.cell;have e0:Jd qs=[]:=LR λj=>by
   rcases AO j len with x|x
   . exact r.o j om x
   . exact J4 (by have:=HL.o;omega)
  refine⟨C none 0 0,by simp[results,Tryz.results60,go_sem,q],_,rfl,⟨?_,?_⟩,Or.inl ⟨rfl,e0⟩⟩
  . rw[e0];exact RowK.nil _ _
  . exact(f.setCell (p:=⟨w.heap.size+1+1,0,none⟩) si _).trans (DP (w:=w) (Aa _) _ D _ _ (by simp at hD;omega) B rfl rfl)
 case stop=>
  rintro D c k W hD hk ⟨⟨c1,f⟩,rfl,g,o⟩ i;have d1:=c1.cell;have r:=Ja (show cf qs (len-1-k)≠0/\∀j,len-k<=j->j<len->cf qs j=0 from⟨g,o⟩);clear o g;gi_wp2;refine⟨DQ,.inl ⟨_,_,rfl,Bb i,?_⟩⟩;have V:=c1.kept (BV _ D (.deferred none)) (λe=>by cases e;rw[show W.heap[w.heap.size+1+1]?=_ from c1]at i;cases i);have q:=V.cell;have Qc:Bl w (W.putObj D (.deferred none)):=f.trans (DP (w:=w) (Aa _) _ D _ _ (by simp at hD;omega) i rfl rfl);have af:=HL.o;have e:Jd qs=qs.take (len-1-k+1):=by
   refine Ow om (Or.inr r.o.1) λj x=>?_;rcases AO j len with v|v
   . exact r.o.2 j om v
   . exact J4 om
  have el:(qs.take (len-1-k+1)).length=len-1-k+1:=by rw[Al];omega
  refine⟨C a (len-1-k+1) cap,by simp[results,Tryz.results60,go_sem,q],_,rfl,⟨?_,Qc⟩,Or.inr (by rw[e,el])⟩;rw[e];exact(h.below Qc).take om
def Kz(N:Nat)(v:J):Prop:=∀a l c,v=C (some a) l c->N<=a.block
def MI(N:Nat)(v:J):Prop:=∀a l c,v=F #[C (some a) l c]->N<=a.block
theorem FY{B:Nat}{c:Nat}(b:Boxed W B 25 (C a l c))(x:J){v:J}(h:RowK true W v qs):RowK true (W.setCell ⟨B,0,none⟩ x) v qs:=
 M3.L5 (cs:=#[C a l c]) b (o:=0) rfl rfl true DS x v qs h
theorem Hb(v:J)(qs:List Rat)(w:H)(h:RowK true w v qs)(hs:Db qs):
 Calls L 27 #[v] w λe m=>∃u,e=.returned u/\Jg m u (Jd qs)/\(∀N,Kz N v->MI N u)/\Bl w m:=by
 obtain⟨a,l,c,rfl⟩:=h.form;have b0:=BM w 25 (C none 0 0);have d:Bl w (w.alloc (G #[C none 0 0] 25)):=Ba w _;obtain⟨W0,b⟩:=ex (w.alloc (G #[C none 0 0] 25));rw[b]at b0 d;have x:=Ja b;have k:=Ja (Zm a l c qs W0 (h.below d) hs);have i:=b0.cell;have f0:=b0.frozen;clear b h hs;go_enter Tryz.func27,Tryz.ntmps27
 go_upto_region 1 with fail
 rw[x.o];go_wp2_with(go_at_call 60;refine k.o.mono ?_;clear k;rintro e z ⟨u,rfl,⟨o,j⟩,n⟩;obtain⟨y,t,s,rfl⟩:=o.form;have g:=boxed_below b0 j;have i:=g.cell;have f0:=g.frozen;have r:=Ja n;clear n)
 refine BA (v:=F #[C y t s]) (by simp[results,Tryz.results27,go_sem,i]) rfl ⟨_,rfl,⟨_,rfl,FY g _ o⟩,?_,(Bt d j).setCell (p:=⟨w.heap.size,0,none⟩) (Aa _) _⟩;intro N q a' l' c' e;simp only[Value.agg.injEq,FU,Fw,and_true]at e;rcases r.o with⟨f,_⟩|f
 . rw[f]at e;cases e
 . rw[f]at e;cases e;exact q _ _ _ rfl
theorem YA(v:J)(ps:List Rat)(w:H)(h:Jg w v ps):
 Calls L 20 #[v] w λe c=>e=.returned (.int .i64 ((ps.length:Int)-1))/\Bl w c:=by
 obtain⟨u,rfl,b⟩:=h;obtain⟨a,cap,rfl,d,f,g,_⟩:=b.open;clear b;generalize ps.length=n at *;go_enter Tryz.func20,Tryz.ntmps20
 go_wp2;go_ret;exact⟨rfl,Ba _ _⟩
theorem OH(v:J)(qs:List Rat)(i:Int)(w:H)(h:RowK true w v qs):
 Calls L 100 #[v,.int .i64 i] w λe j=>∃u,e=.returned u/\Jj j u (if i<0 then 0 else cf qs i.toNat)/\Bl w j:=by
 obtain⟨a,l,c,rfl⟩:=h.form;obtain⟨hl,V,U,S,s,t,q,O,D,x,o,dd,g⟩:=h.forms;have A:=Ja hl;have n:=Ja g;clear hl g h;by_cases f:i<0
 . rw[BG f];go_enter Tryz.func100,Tryz.ntmps100
   go_wp2;exact BA (v:=F #[E false,C none 0 0,E false,C none 0 0]) (by simp[results,Tryz.results100,go_sem]) rfl ⟨_,rfl,Ek _,(Ba w _).alloc DQ _⟩
 . rw[BC f];by_cases y:(l:Int)<=i
   . have K:=Ja (show cf qs i.toNat=0 from J4 (by have:=A.o;omega));rw[K.o];go_enter Tryz.func100,Tryz.ntmps100
     go_wp2;exact BA (v:=F #[E false,C none 0 0,E false,C none 0 0]) (by simp[results,Tryz.results100,go_sem]) rfl ⟨_,rfl,Ek _,(Ba w _).alloc DQ _⟩
   . obtain⟨m,rfl⟩:∃m:Nat,i=(m:Int):=⟨i.toNat,om⟩;have N:m<l:=om
     obtain⟨k,b,rfl,T,Q,d,P,R⟩:=n.o m N;have B:=Ja k;rw[Cy];clear n k y;generalize s m=r at *;generalize t m=p at *;generalize q m=z at *;generalize O m=M at *;generalize D m=l1 at *;generalize x m=c1 at *;generalize o m=d at *;generalize dd m=d1 at *;go_enter Tryz.func100,Tryz.ntmps100
     go_wp2;exact BA (v:=F #[E r,C z l1 c1,E p,C M d d1]) (by simp[results,Tryz.results100,go_sem]) rfl ⟨_,rfl,B.o.below (Ba w _),Ba w _⟩
theorem Tryz.infoRat:(Tryz.prog.info? 65).map (λi=>(i.zero,i.size,i.bytes))=some (some (F #[E false,C none 0 0,E false,C none 0 0]),4,64):=by kernel_rfl
def Ye(n:Nat):Array J:=madeCells #[E false,C none 0 0,E false,C none 0 0] (n*4)
theorem MJ{n j:Nat}(b:j<n):(Ye n)[j*4]?=some (E false)/\(Ye n)[j*4+1]?=some (C none 0 0)/\(Ye n)[j*4+2]?=some (E false)/\(Ye n)[j*4+3]?=some (C none 0 0):=by
 unfold Ye madeCells;have h:∀k,k<n*4->((Array.range (n*4)).map (λi=>(#[Value.bool false,Value.slice none 0 0,Value.bool false,Value.slice none 0 0]:Array J)[i%4]!))[k]?=some ((#[Value.bool false,Value.slice none 0 0,Value.bool false,Value.slice none 0 0]:Array J)[k%4]!):=λk a=>by
  rw[Array.getElem?_map,Array.getElem?_range];simp[a]
 refine⟨(h _ om).trans ?_,(h _ om).trans ?_,(h _ om).trans ?_,(h _ om).trans ?_⟩
 . rw[show j*4%4=0 from by omega];rfl
 . rw[show(j*4+1)%4=1 from by omega];rfl
 . rw[show(j*4+2)%4=2 from by omega];rfl
 . rw[show(j*4+3)%4=3 from by omega];rfl
theorem KA(n:Nat)(h:n<=2199023255552)(w:H):(Instr.makeSlice 23 (.int .i64 (n:Int)) (.int .i64 (n:Int))).run L w=.ok (C (some ⟨w.heap.size,0,none⟩) n n) (w.alloc (G (Ye n) 65)):=by
 obtain⟨i,c,b⟩:=FD.1 Tryz.infoRat;simp only[Prod.mk.injEq]at b;obtain⟨d,hs,e⟩:=b;have a:=run_make (P:=L) w 23 65 i _ Tryz.underlying23 c d .i64 .i64 n n om (Int.le_refl _) (by rw[e];omega) om;simp only[Cy,hs]at a;exact a
theorem OI(n:Nat)(w:H):Dz true (w.alloc (G (Ye n) 65)) w.heap.size (List.replicate n 0):=by
 refine⟨Ye n,BE w _,λj a=>?_⟩;rw[Au]at a;obtain⟨d,b,c,e⟩:=MJ a;exact⟨_,_,_,_,d,b,c,e,by rw[JN];exact Ek _⟩
theorem Zn(a b:Option Addr)(la ca lb cb:Nat)(ps qs:List Rat)(w:H)(o:RowK true w (C a la ca) ps)(q:RowK true w (C b lb cb) qs)(T:Db ps)(X:Db qs):
 Calls L 83 #[C a la ca,C b lb cb,.func (.func 51) #[] #[]] w λe O=>∃v c,e=.returned v/\RowK true O v c/\(∀j,cf c j=cf ps j-cf qs j)/\Kz w.heap.size v/\Bl w O:=by
 obtain⟨Q,ad,ae,ak,_⟩:=o.forms;obtain⟨K,af,ah,am,_⟩:=q.forms;obtain⟨n,hn⟩:∃n:Nat,max (la:Int) (lb:Int)=(n:Int):=⟨max la lb,om⟩;have an:n<=1099511627776:=om
 obtain⟨HN,Z,HB,HP,HQ,Qo,Qn⟩:=Lt (show la<=n/\lb<=n from by omega) o q T X Q K;have Y:=KA n om w;have t:=OI n w;have m:Bl w (w.alloc (G (Ye n) 65)):=Ba w _;obtain⟨W0,S⟩:=ex (w.alloc (G (Ye n) 65));rw[S]at t m Y;have Qr:=Ja t;have Qm:=Ja m;clear t m S o q T X Q K ad ae af ah;go_enter Tryz.func83,Tryz.ntmps83
 go_wp2;go_loopw [17] (λi wr=>∃(k:Nat) (c:List Rat),k<=n/\i=.int .i64 (k:Int)/\Hid (c.length=n/\(∀j,j<k->cf c j=cf ps j-cf qs j)/\Dz true wr w.heap.size c/\Bl w wr)) (λi _=>n-(intOf i).toNat)
 case atStart=>exact⟨0,_,AK _,rfl,Ja ⟨Au,λj l=>by omega,Qr.o,Qm.o⟩⟩
 case round=>
  obtain⟨k,c,hk,rfl,d⟩:=hrel;by_cases bg:k<n
  . have bc:(k:Int)<(n:Int):=om
    have A:=Ja (OH _ ps (k:Int) wr (Z.o.below d.o.2.2.2));have z:=Ja (λ(V:H) (h:Bl wr V)=>OH _ qs (k:Int) V ((HB.o.below d.o.2.2.2).below h));rw[BC om,Cy]at A;rw[show(if(k:Int)<0 then(0:Rat)else cf qs ((k:Int)).toNat)=cf qs k from by rw[BC om,Cy]]at z;have P:=Ja (λ(V:H) (u v:J) (hu:Jj V u (cf ps k)) (hv:Jj V v (cf qs k))=>Ky u v (cf ps k) (cf qs k) V hu hv (HP.o.at k) (HQ.o.at k));have s:=Ja (show k<c.length from by have:=d.o.1;omega);go_wp2_with(first
     |(go_at_call 100;refine A.o.mono ?_;clear A;rintro e w1 ⟨u1,rfl,g,N⟩;have y:=N)
     |(go_at_call 100;refine(z.o _ y).mono ?_;clear z;rintro e w2 ⟨u2,rfl,D,x⟩;have g:=g.below x;have U:=Bt y x;clear y)
     |(go_at_call 51;refine(P.o _ _ _ g D).mono ?_;clear P;rintro e w3 ⟨u3,rfl,R,M⟩;have W:=Bt U M;clear U g D N x M;have f:=d.o.2.2.1.below W;obtain⟨x0,y0,z0,t0,k0,k1,k2,k3,_⟩:=f.at s.o;have f0:=f.frozen (k*4);have f1:=f.frozen (k*4+1);have f2:=f.frozen (k*4+2);have f3:=f.frozen (k*4+3);obtain⟨aq,aj,ai,az,ap,bf,ay,aw,rfl⟩:=Jj.form R))
    go_roundw
    case rel=>
     refine⟨k+1,c.set k (cf ps k-cf qs k),om,by go_num,Ja ⟨by rw[Cq];exact d.o.1,λj l=>?_,f.set s.o R,QQ (Bt d.o.2.2.2 W) (Aa _) _ _ _ _⟩⟩;rw[Xy _ _ _ _ s.o];by_cases r:j=k
     . rw[BG r,r]
     . rw[BC r];exact d.o.2.1 j om
    case measure=>simp[intOf];omega
  . have Qp:k=n:=om
    subst Qp;go_wp2;go_ret;have p:=d.o;have B:=p.2.2.1.row (n:=k) (cap:=k) om (Aa _) om om;rw[Ad om]at B;refine⟨_,c,rfl,B,λj=>?_,λa' l' c' e=>by cases e;exact Aa _,p.2.2.2⟩;rcases AO j k with l|l
    . exact p.2.1 j l
    . have:=HN.o;have h1:=Qo.o;have h2:=Qn.o;rw[J4 om,J4 om,J4 om];grind
theorem RE(s t:J)(ps qs:List Rat)(w:H)(f:Jg w s ps)(g:Jg w t qs)(y:Db ps)(z:Db qs)(q:Db (J2 ps qs)):
 Calls L 48 #[s,t] w λe x=>∃u,e=.returned u/\Jg x u (J2 ps qs)/\MI w.heap.size u/\Bl w x:=by
 obtain⟨u,rfl,f⟩:=f;obtain⟨v,rfl,g⟩:=g;obtain⟨a,la,ca,rfl⟩:=f.form;obtain⟨b,lb,cb,rfl⟩:=g.form;obtain⟨W0,d⟩:=ex (((w.alloc (G #[C a la ca] 25)).alloc (G #[C b lb cb] 25)).alloc (G #[C none 0 0] 25));have b0:Boxed W0 w.heap.size 25 (C a la ca):=by rw[<-d];exact((BM w _ _).alloc _).alloc _
 have Y:Boxed W0 (w.heap.size+1) 25 (C b lb cb):=by rw[<-d];have:=(BM (w.alloc (G #[C a la ca] 25)) 25 (C b lb cb)).alloc (G #[C none 0 0] 25);simpa using this
 have O:Boxed W0 (w.heap.size+1+1) 25 (C none 0 0):=by rw[<-d];have:=BM ((w.alloc (G #[C a la ca] 25)).alloc (G #[C b lb cb] 25)) 25 (C none 0 0);simpa using this
 have k:Bl w W0:=by rw[<-d];exact((Ba w _).alloc DQ _).alloc si _
 obtain⟨o,r,K,Q⟩:=EC (Zn a b la ca lb cb ps qs W0 (f.below k) (g.below k) y z) (λ(V:H) (v:J) (c:List Rat) (h:RowK true V v c) (hs:Db c)=>Hb v c V h hs) q d;have k0:=b0.cell;have k1:=Y.cell;clear d f g y z q;go_enter Tryz.func48,Tryz.ntmps48
 go_upto_region 1 with fail
 rw[Q.o];go_wp2_with(first
  |(go_at_call 83;refine o.o.mono ?_;clear o;rintro e w1 ⟨v1,c,rfl,D,l,M,S⟩;have W:Db c:=Db.of (λi=>by rw[l i,<-Kd];exact K.o.at i);have X:=Ja l;clear l)
  |(go_at_call 27;refine(r.o _ _ c D W).mono ?_;clear r;rintro e Z ⟨u2,rfl,m,N,R⟩;obtain⟨U,T,A,rfl⟩:=m.form;have hq:=Bt S R;have n:=boxed_below O hq;have B:=n.cell;have f2:=n.frozen))
 have P:Jd c=J2 ps qs:=by
  rw[<-Iz];exact YM λj=>by rw[X.o j,Kd]
 rw[P]at m;refine BA (v:=F #[C U T A]) (by simp[results,Tryz.results48,go_sem,B]) rfl ⟨_,rfl,⟨_,rfl,FY n _ m.row⟩,?_,(Bt k hq).setCell (p:=⟨w.heap.size+1+1,0,none⟩) si _⟩;intro a' l' c' e;have:=N W0.heap.size M a' l' c' e;have h2:=k.size;omega
