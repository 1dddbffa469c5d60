import Derived.Test.YteldjhhjnchdeaaGreatDoorU26
import Derived.Deep.OwnRows
open Go.Value renaming slice->C,bool->E,pointer->I,agg->F
open Go.Obj renaming cells->G
open Go renaming World->H,Value->L
open Go.Proofs.Tryz renaming prog->M
set_option maxRecDepth 100000
set_option maxHeartbeats 16000000
namespace Go.Proofs.YteldjhhjnchdeaaGreatDoor
open Go.RowKit Go.Shelf
attribute [local go_sem] Oper.semAt_some
variable{qs:List Rat}{cap l:Nat}{a:Option Addr}{W:H}
theorem Zp(p q:Rat)(hp:Sq p)(hq:Sq q)(a b x y:Int)(c:((Int.gcd p.num (q.den:Int):Nat):Int)=a)(d:((Int.gcd q.num (p.den:Int):Nat):Int)=b)(e:p.num/a=x)(f:q.num/b=y):
 Sok a/\a≠0/\Sok b/\b≠0/\Sok x/\Sok y/\(p*q).num=x*y/\((p*q).den:Int)=p.den/b*(q.den/a):=by
 have hl:=U4 p q a b c.symm d.symm;have i:a≠0:=by rw[<-c];have:=KE (x:=p.num) (y:=q.den) (by have:=q.den_nz;omega);omega
 have g:b≠0:=by rw[<-d];have:=KE (x:=q.num) (y:=p.den) (by have:=p.den_nz;omega);omega
 refine⟨by rw[<-c];exact hp.num.gcd hq.den,i,by rw[<-d];exact hq.num.gcd hp.den,g,by rw[<-e];exact hp.num.div,by rw[<-f];exact hq.num.div,?_,hl.2⟩;rw[hl.1,e,f]
theorem Kz(va vb:L)(p q:Rat)(w:H)(ha:Jj w va p)(hb:Jj w vb q)(ck:Sq p)(cl:Sq q):
 Calls M 52 #[va,vb] w λe w'=>∃u,e=.returned u/\Jj w' u (p*q)/\Bl w w':=by
 obtain⟨s,a,l,c,t,b,k,d,rfl⟩:=Jj.form ha;obtain⟨s',a',l',c',t',b',k',d',rfl⟩:=Jj.form hb;have M0:=L3 w s t s' t' a b a' b' l c k d l' c' k' d' p q ha hb;obtain⟨W0,bm⟩:=ex (((w.alloc (G #[E s,C a l c,E t,C b k d] 65)).alloc (G #[E s',C a' l' c',E t',C b' k' d'] 65)).alloc (G #[E false,C none 0 0,E false,C none 0 0] 65));have Uc:=O bm;rw[bm]at M0;have M1:Hid (Mem w W0 [some (w.heap.size,.rat p),some (w.heap.size+1,.rat q),some (w.heap.size+1+1,.rat 0)]):=O M0;have Ud:Tryz.prog.follows .mixedOrders=true:=by kernel_rfl
 have HP:=O ck;have HQ:=O cl;clear M0 ha hb bm ck cl;go_enter Tryz.func52,Tryz.ntmps52
 go_upto_region 1 with fail
 rw[Uc.o];clear Uc;obtain⟨bb,ci⟩:=ex (decide (p.den=1/\q.den=1):Bool);have Qx:=O ci;clear ci;go_cut [13] λc w'=>c=E bb/\Hid (Mem w w' [some (w.heap.size,.rat p),some (w.heap.size+1,.rat q),some (w.heap.size+1+1,.rat 0)])
 case first=>
  obtain⟨s1,a1,l1,c1,t1,b1,k1,d1,n1,r1,i1,j1⟩:=M1.o.rat (i:=0) rfl;obtain⟨Up,Ur,Uv,Uw⟩:=n1.cq;obtain⟨s2,a2,l2,c2,t2,b2,k2,d2,n2,r2,i2,j2⟩:=M1.o.rat (i:=1) rfl;obtain⟨Uq,Uo,Um,Ux⟩:=n2.cq;have H1:=O (XT _ p W0 r1);have H2:=O λ(V:H) (h:Bl W0 V)=>XT _ q V (r2.below h);by_cases R:p.den=1
  . rw[BK R]at H1;obtain⟨b2,ak⟩:=ex (decide (q.den=1));rw[ak]at H2;have Qz:=O (show b2=bb by rw[<-ak,<-Qx.o];exact DL.2 ⟨λh=>⟨R,h⟩,λh=>h.2⟩);clear ak R;go_wp2_with(first
     |(go_at_call 89;refine H1.o.mono ?_;clear H1;rintro e w1 ⟨rfl,az⟩;obtain⟨Up,Ur,Uv,Uw⟩:=(n1.below az).cq;obtain⟨Uq,Uo,Um,Ux⟩:=(n2.below az).cq)
     |(go_at_call 89;refine(H2.o _ az).mono ?_;clear H2;rintro e w2 ⟨rfl,ak⟩))
    go_meet
    case rel=>exact⟨by rw[Qz.o],O ((M1.o.below az).below ak)⟩
  . rw[BI R]at H1;have Qz:=O (show bb=false by rw[<-Qx.o];exact BI λh=>R h.1);clear R;go_wp2_with(go_at_call 89;refine H1.o.mono ?_;clear H1;rintro e w1 ⟨rfl,az⟩)
    go_meet
    case rel=>exact⟨by rw[Qz.o],O (M1.o.below az)⟩
 obtain⟨rfl,o⟩:=hcut;have M2:Hid (Mem w wc [some (w.heap.size,.rat p),some (w.heap.size+1,.rat q),some (w.heap.size+1+1,.rat 0)]):=o;clear M1 o;cases bb with
 |true=>
  have Qy:=Bf Qx.o;have HW:=O (Zn Qy.1 Qy.2);clear Qy Qx;obtain⟨s3,a3,l3,c3,t3,b3,k3,d3,n3,r3,i3,j3⟩:=M2.o.rat (i:=0) rfl;obtain⟨gj,gk⟩:=n3.cp;obtain⟨s4,a4,l4,c4,t4,b4,k4,d4,n4,r4,i4,j4⟩:=M2.o.rat (i:=1) rfl;obtain⟨gl,gn⟩:=n4.cp;obtain⟨s5,a5,l5,c5,t5,b5,k5,d5,n5,r5,i5,j5⟩:=M2.o.rat (i:=2) rfl;obtain⟨Uj,Ub,Ue,Uf⟩:=n5.cq;obtain⟨Ut,Uu,Ul,Us⟩:=n5.fq;go_wp2_with(go_at_call 85;refine(Xo _ _ p.num q.num _ i3 i4 (by have R:=HP.o.num.words;have h2:=HQ.o.num.words;omega)).mono ?_;rintro e w1 ⟨u,rfl,hu,hq⟩;obtain⟨ct,bt,co,bu,rfl⟩:=Jk.form2 hu;obtain⟨Uj,Ub,Ue,Uf⟩:=(n5.below hq).cq;obtain⟨Ut,Uu,Ul,Us⟩:=(n5.below hq).fq)
  have hr:Jj w1 (F #[E ct,C bt co bu,E false,C none 0 0]) (p*q):=Jj.mk (by rw[HW.o.1];exact hu) (by rw[Lf.2 HW.o.2];exact EJ _);have Ua:=Bt M2.o.2.2 hq;exact BA (v:=F #[E ct,C bt co bu,E false,C none 0 0]) (by simp[results,Tryz.results52,go_sem,Uj,Ub,Ue,Uf]) rfl ⟨_,rfl,hr.put4 (n5.below hq) rfl rfl rfl rfl _ _ _ _,Ju Ua J _ _ _ _⟩
 |false=>
  clear Qx;obtain⟨dn,cj⟩:=ex (((Int.gcd p.num (q.den:Int):Nat):Int):Int);have Ug:=O cj;clear cj;obtain⟨up,cn⟩:=ex (((Int.gcd q.num (p.den:Int):Nat):Int):Int);have Uh:=O cn;clear cn;obtain⟨x,hx⟩:=ex (p.num/dn:Int);have HX:=O hx;clear hx;obtain⟨y,hy⟩:=ex (q.num/up:Int);have HY:=O hy;clear hy;obtain⟨S1,S2,S3,S4,S5,S6,S7,S8⟩:=Zp p q HP.o HQ.o dn up x y Ug.o Uh.o HX.o HY.o;obtain⟨T1,T2,T3,T4,T5,T6,T7,T8⟩:=Ho S1 S2 S3 S4 S5 S6 S7 S8;clear S1 S2 S3 S4 S5 S6 S7 S8;go_upto_region 3 with fail
  refine Jn Ud [[],[0],[],[2],[1,3,3],[],[5],[],[7,4],[6,8,8],[],[],[10,4,9,0,1,2,3,4,10,11],[11,9,12,0,1,2,3,4,5,6,7,8,9,10,11,12]] (by kernel_rfl) DQ
   (λD aj V=>∃(ta tb tc td te tf tg ti tj tk tv tw:L) (bf bg:Option (Nat × Dat)),aj={ tmps:=#[F #[E s,C a l c,E t,C b k d],F #[E s',C a' l' c',E t',C b' k' d'],I (some ⟨w.heap.size,0,none⟩),I (some ⟨w.heap.size+1,0,none⟩),I (some ⟨w.heap.size+1+1,0,none⟩),tv,tw,undef,u8,u9,u10,u11,u12,E false,u14,u15,u16,u17,u18,u19,ta,tb,tc,td,te,tf,tg,ti,tj,tk,u30,u31,u32,u33,u34,u35,u36,u37,u38,u39,u40,u41,u42,u43,u44,u45,u46,u47,u48,u49],defers:=[] }/\Hid ((D 0=true->ta=I (some ⟨w.heap.size,0,none⟩))/\(D 1=true->Has V tb (.int (Rat.num (p))))/\(D 2=true->Has V tc (.rat q))/\(D 3=true->Has V td (.int ((q.den:Int))))/\(D 4=true->Has V te (.int dn))/\(D 5=true->tf=I (some ⟨w.heap.size+1,0,none⟩))/\(D 6=true->Has V tg (.int (Rat.num (q))))/\(D 7=true->Has V ti (.rat p))/\(D 8=true->Has V tj (.int ((p.den:Int))))/\(D 9=true->Has V tk (.int up))/\((D 10=false->bf=none)/\(D 10=true->D 12=false->∃B:Nat,tv=I (some ⟨B,0,none⟩)/\bf=some (B,.int 0))/\(D 12=true->∃B:Nat,tv=I (some ⟨B,0,none⟩)/\bf=some (B,.int dn)))/\((D 11=false->bg=none)/\(D 11=true->D 13=false->∃B:Nat,tw=I (some ⟨B,0,none⟩)/\bg=some (B,.int 0))/\(D 13=true->∃B:Nat,tw=I (some ⟨B,0,none⟩)/\bg=some (B,.int up))))/\Hid (Mem w V [some (w.heap.size,.rat p),some (w.heap.size+1,.rat q),some (w.heap.size+1+1,.rat 0),bf,bg]))
   ⟨_,_,_,_,_,_,_,_,_,_,_,_,none,none,rfl,O ⟨Y,Y,Y,Y,Y,Y,Y,Y,Y,Y,Y,Y⟩,O (((M2.o).none).none).drew⟩ ?step6 ?fin6
  case step6=>
   rintro D aj V i ds bj hi m ai ⟨ta,tb,tc,td,te,tf,tg,ti,tj,tk,tv,tw,bf,bg,rfl,g,o⟩;have Un:i<14:=(Ad.1 hi).1;obtain rfl|rfl|rfl|rfl|rfl|rfl|rfl|rfl|rfl|rfl|rfl|rfl|rfl|rfl:=FX i J
   all_goals
    simp only[Af,Ae,Ah]at hi;subst hi
   . clear m;refine Za ?_;exact⟨_,_,_,_,_,_,_,_,_,_,_,_,_,_,rfl,(Dh g),O (o.o)⟩
   . obtain rfl:=(g.o.1 (m 0 Y));clear m;obtain⟨s,a,l,c,t,b,k,d,n,r,i,j⟩:=o.o.rat (i:=0) rfl;obtain⟨e0,e1,e2,e3⟩:=n.cq;refine Za ?_;exact⟨_,_,_,_,_,_,_,_,_,_,_,_,_,_,rfl,(Dn (Dh g) λ_=>i),O (o.o)⟩
   . clear m;obtain⟨s,a,l,c,t,b,k,d,n,r,i,j⟩:=o.o.rat (i:=1) rfl;obtain⟨e0,e1,e2,e3⟩:=n.cq;refine Za ?_;exact⟨_,_,_,_,_,_,_,_,_,_,_,_,_,_,rfl,(Df g λ_=>r),O (o.o)⟩
   . have X:=(g.o.2.2.1 (m 2 Y));have HC:=O (F7 _ q V X);clear m X;refine Jb rfl rfl λK hK=>?_;go_simp;go_wp2_with(go_at_call 86;refine HC.o.mono ?_;rintro e w5 ⟨v5,rfl,ae,f⟩)
     obtain⟨z,A,N,_,S,P,Q,T,W,G9,af⟩:=g.o;exact⟨_,_,_,_,_,_,_,_,_,_,_,_,_,_,rfl,O ⟨z,λh=>(A h).below f,λh=>(N h).below f,λ_=>ae,λh=>(S h).below f,P,λh=>(Q h).below f,λh=>(T h).below f,λh=>(W h).below f,λh=>(G9 h).below f,af⟩,O (o.o.below f)⟩
   . have X:=(g.o.2.1 (m 1 Y));have R:=(g.o.2.2.2.1 (m 3 Y));have HC:=O ((by have h:=Iw _ _ p.num (q.den:Int) V X R (by have:=HP.o.num.words;omega) (by have:=HQ.o.den.words;omega);rw[Ug.o]at h;exact h));clear m X R;refine Jb rfl rfl λK hK=>?_;go_simp;go_wp2_with(go_at_call 90;refine HC.o.mono ?_;rintro e w5 ⟨v5,rfl,ae,f⟩)
     obtain⟨z,A,N,U,_,P,Q,T,W,G9,af⟩:=g.o;exact⟨_,_,_,_,_,_,_,_,_,_,_,_,_,_,rfl,O ⟨z,λh=>(A h).below f,λh=>(N h).below f,λh=>(U h).below f,λ_=>ae,P,λh=>(Q h).below f,λh=>(T h).below f,λh=>(W h).below f,λh=>(G9 h).below f,af⟩,O (o.o.below f)⟩
   . clear m;refine Za ?_;exact⟨_,_,_,_,_,_,_,_,_,_,_,_,_,_,rfl,(EE g),O (o.o)⟩
   . obtain rfl:=((Dl g) (m 5 Y));clear m;obtain⟨s,a,l,c,t,b,k,d,n,r,i,j⟩:=o.o.rat (i:=1) rfl;obtain⟨e0,e1,e2,e3⟩:=n.cq;refine Za ?_;exact⟨_,_,_,_,_,_,_,_,_,_,_,_,_,_,rfl,(D6 (EE g) λ_=>i),O (o.o)⟩
   . clear m;obtain⟨s,a,l,c,t,b,k,d,n,r,i,j⟩:=o.o.rat (i:=0) rfl;obtain⟨e0,e1,e2,e3⟩:=n.cq;refine Za ?_;exact⟨_,_,_,_,_,_,_,_,_,_,_,_,_,_,rfl,(EN g λ_=>r),O (o.o)⟩
   . have X:=((Dw g) (m 7 Y));have HC:=O (F7 _ p V X);clear m X;refine Jb rfl rfl λK hK=>?_;go_simp;go_wp2_with(go_at_call 86;refine HC.o.mono ?_;rintro e w5 ⟨v5,rfl,ae,f⟩)
     obtain⟨z,A,N,U,S,P,Q,T,_,G9,af⟩:=g.o;exact⟨_,_,_,_,_,_,_,_,_,_,_,_,_,_,rfl,O ⟨z,λh=>(A h).below f,λh=>(N h).below f,λh=>(U h).below f,λh=>(S h).below f,P,λh=>(Q h).below f,λh=>(T h).below f,λ_=>ae,λh=>(G9 h).below f,af⟩,O (o.o.below f)⟩
   . have X:=((Dq g) (m 6 Y));have R:=((Dy g) (m 8 Y));have HC:=O ((by have h:=Iw _ _ q.num (p.den:Int) V X R (by have:=HQ.o.num.words;omega) (by have:=HP.o.den.words;omega);rw[Uh.o]at h;exact h));clear m X R;refine Jb rfl rfl λK hK=>?_;go_simp;go_wp2_with(go_at_call 90;refine HC.o.mono ?_;rintro e w5 ⟨v5,rfl,ae,f⟩)
     obtain⟨z,A,N,U,S,P,Q,T,W,_,af⟩:=g.o;exact⟨_,_,_,_,_,_,_,_,_,_,_,_,_,_,rfl,O ⟨z,λh=>(A h).below f,λh=>(N h).below f,λh=>(U h).below f,λh=>(S h).below f,P,λh=>(Q h).below f,λh=>(T h).below f,λh=>(W h).below f,λ_=>ae,af⟩,O (o.o.below f)⟩
   . have hf:D 12=false:=DR bj ai;obtain rfl:=g.o.2.2.2.2.2.2.2.2.2.2.1.1 ai;clear m;refine Za ?_;obtain⟨z,A,N,U,S,P,Q,T,W,G9,_,bk⟩:=g.o;exact⟨_,_,_,_,_,_,_,_,_,_,_,_,_,_,rfl,O ⟨z,λh=>(A h).alloc _,λh=>(N h).alloc _,λh=>(U h).alloc _,λh=>(S h).alloc _,P,λh=>(Q h).alloc _,λh=>(T h).alloc _,λh=>(W h).alloc _,λh=>(G9 h).alloc _,⟨λh=>by simp at h,λ_ _=>⟨_,rfl,rfl⟩,λh=>by simp[hf]at h⟩,bk⟩,O (o.o.fill (i:=3) rfl (.int 0) (EJ _))⟩
   . have hf:D 13=false:=DR bj ai;obtain rfl:=Ec g ai;clear m;refine Za ?_;obtain⟨z,A,N,U,S,P,Q,T,W,G9,af,_⟩:=g.o;exact⟨_,_,_,_,_,_,_,_,_,_,_,_,_,_,rfl,O ⟨z,λh=>(A h).alloc _,λh=>(N h).alloc _,λh=>(U h).alloc _,λh=>(S h).alloc _,P,λh=>(Q h).alloc _,λh=>(T h).alloc _,λh=>(W h).alloc _,λh=>(G9 h).alloc _,af,⟨λh=>by simp at h,λ_ _=>⟨_,rfl,rfl⟩,λh=>by simp[hf]at h⟩⟩,O (o.o.fill (i:=4) rfl (.int 0) (EJ _))⟩
   . obtain⟨B,rfl,rfl⟩:=g.o.2.2.2.2.2.2.2.2.2.2.1.2.1 (m 10 Y) ai;have Qw:=m 10 Y;have hv:=(g.o.2.2.2.2.1 (m 4 Y));obtain⟨s1,a1,l1,c1,rfl⟩:=Jk.form2 (show Jk V _ _ from hv);obtain⟨s,a,l,c,n,i⟩:=o.o.int (i:=3) rfl;have e0:=n.c0;have f0:=n.f0;have e1:=n.c1;have f1:=n.f1;clear m;refine Za ?_;obtain⟨z,A,N,U,S,P,Q,T,W,G9,_,bk⟩:=g.o;exact⟨_,_,_,_,_,_,_,_,_,_,_,_,_,_,rfl,O ⟨z,λh=>(A h).set2 n rfl rfl _ _,λh=>(N h).set2 n rfl rfl _ _,λh=>(U h).set2 n rfl rfl _ _,λh=>(S h).set2 n rfl rfl _ _,P,λh=>(Q h).set2 n rfl rfl _ _,λh=>(T h).set2 n rfl rfl _ _,λh=>(W h).set2 n rfl rfl _ _,λh=>(G9 h).set2 n rfl rfl _ _,⟨λh=>by simp[Qw]at h,λ_ h=>by simp at h,λ_=>⟨B,rfl,rfl⟩⟩,bk⟩,O (o.o.putInt (i:=3) rfl hv)⟩
   . obtain⟨B,rfl,rfl⟩:=Er g (m 11 Y) ai;have Qw:=m 11 Y;have hv:=((D7 g) (m 9 Y));obtain⟨s1,a1,l1,c1,rfl⟩:=Jk.form2 (show Jk V _ _ from hv);obtain⟨s,a,l,c,n,i⟩:=o.o.int (i:=4) rfl;have e0:=n.c0;have f0:=n.f0;have e1:=n.c1;have f1:=n.f1;clear m;refine Za ?_;obtain⟨z,A,N,U,S,P,Q,T,W,G9,af,_⟩:=g.o;exact⟨_,_,_,_,_,_,_,_,_,_,_,_,_,_,rfl,O ⟨z,λh=>(A h).set2 n rfl rfl _ _,λh=>(N h).set2 n rfl rfl _ _,λh=>(U h).set2 n rfl rfl _ _,λh=>(S h).set2 n rfl rfl _ _,P,λh=>(Q h).set2 n rfl rfl _ _,λh=>(T h).set2 n rfl rfl _ _,λh=>(W h).set2 n rfl rfl _ _,λh=>(G9 h).set2 n rfl rfl _ _,af,⟨λh=>by simp[Qw]at h,λ_ h=>by simp at h,λ_=>⟨B,rfl,rfl⟩⟩⟩,O (o.o.putInt (i:=4) rfl hv)⟩
  rintro D aj V7 ay ⟨ta,tb,tc,td,te,tf,tg,ti,tj,tk,tv,tw,bf,bg,rfl,g,o⟩;obtain⟨B8,rfl,rfl⟩:=g.o.2.2.2.2.2.2.2.2.2.2.1.2.2 (ay 12 DQ);obtain⟨B9,rfl,rfl⟩:=g.o.2.2.2.2.2.2.2.2.2.2.2.2.2 (ay 13 DQ);clear g ay M2;have M3:Hid (Mem w V7 [some (w.heap.size,.rat p),some (w.heap.size+1,.rat q),some (w.heap.size+1+1,.rat 0),some (B8,.int dn),some (B9,.int up)]):=o;clear o;go_upto_region 4 with fail
  refine Jn Ud [[],[0],[],[1,2],[],[4],[],[5,6,3],[3,7,7],[],[9,8,8,0,1,2,3,4,5,6,7,8,9]] (by kernel_rfl) DQ
   (λD aj V=>∃(tl tm tn tp tq tr ts tt tu tx:L) (x9:Option (Nat × Dat)),aj={ tmps:=#[F #[E s,C a l c,E t,C b k d],F #[E s',C a' l' c',E t',C b' k' d'],I (some ⟨w.heap.size,0,none⟩),I (some ⟨w.heap.size+1,0,none⟩),I (some ⟨w.heap.size+1+1,0,none⟩),I (some ⟨B8,0,none⟩),I (some ⟨B9,0,none⟩),tx,u8,u9,u10,u11,u12,E false,u14,u15,u16,u17,u18,u19,ta,tb,tc,td,te,tf,tg,ti,tj,tk,tl,tm,tn,tp,tq,tr,ts,tt,tu,u39,u40,u41,u42,u43,u44,u45,u46,u47,u48,u49],defers:=[] }/\Hid ((D 0=true->tl=I (some ⟨w.heap.size,0,none⟩))/\(D 1=true->Has V tm (.int (Rat.num (p))))/\(D 2=true->Has V tn (.int dn))/\(D 3=true->Has V tp (.int x))/\(D 4=true->tq=I (some ⟨w.heap.size+1,0,none⟩))/\(D 5=true->Has V tr (.int (Rat.num (q))))/\(D 6=true->Has V ts (.int up))/\(D 7=true->Has V tt (.int y))/\(D 8=true->Has V tu (.int (x*y)))/\((D 9=false->x9=none)/\(D 9=true->D 10=false->∃B:Nat,tx=I (some ⟨B,0,none⟩)/\x9=some (B,.int 0))/\(D 10=true->∃B:Nat,tx=I (some ⟨B,0,none⟩)/\x9=some (B,.int (x*y)))))/\Hid (Mem w V [some (w.heap.size,.rat p),some (w.heap.size+1,.rat q),some (w.heap.size+1+1,.rat 0),some (B8,.int dn),some (B9,.int up),x9]))
   ⟨_,_,_,_,_,_,_,_,_,_,none,rfl,O ⟨Y,Y,Y,Y,Y,Y,Y,Y,Y,Y⟩,O ((M3.o).none).drew⟩ ?step10 ?fin10
  case step10=>
   rintro D aj V i ds bj hi m ai ⟨tl,tm,tn,tp,tq,tr,ts,tt,tu,tx,x9,rfl,g,o⟩;have Un:i<11:=(Ad.1 hi).1;obtain rfl|rfl|rfl|rfl|rfl|rfl|rfl|rfl|rfl|rfl|rfl:=GJ i J
   all_goals
    simp only[Af,Ae,Ah]at hi;subst hi
   . clear m;refine Za ?_;exact⟨_,_,_,_,_,_,_,_,_,_,_,rfl,(Dh g),O (o.o)⟩
   . obtain rfl:=(g.o.1 (m 0 Y));clear m;obtain⟨s,a,l,c,t,b,k,d,n,r,i,j⟩:=o.o.rat (i:=0) rfl;obtain⟨e0,e1,e2,e3⟩:=n.cq;refine Za ?_;exact⟨_,_,_,_,_,_,_,_,_,_,_,rfl,(Dn (Dh g) λ_=>i),O (o.o)⟩
   . clear m;obtain⟨s,a,l,c,n,i⟩:=o.o.int (i:=3) rfl;obtain⟨e0,e1⟩:=n.cp;refine Za ?_;exact⟨_,_,_,_,_,_,_,_,_,_,_,rfl,(Df g λ_=>i),O (o.o)⟩
   . have X:=(g.o.2.1 (m 1 Y));have R:=(g.o.2.2.1 (m 2 Y));have HC:=O ((by have h:=Gb _ _ p.num dn V X R T2.o HP.o.num T1.o;rw[HX.o]at h;exact h));clear m X R;refine Jb rfl rfl λK hK=>?_;go_simp;go_wp2_with(go_at_call 91;refine HC.o.mono ?_;rintro e w5 ⟨v5,rfl,ae,f⟩)
     obtain⟨z,A,N,_,S,P,Q,T,W,G9⟩:=g.o;exact⟨_,_,_,_,_,_,_,_,_,_,_,rfl,O ⟨z,λh=>(A h).below f,λh=>(N h).below f,λ_=>ae,S,λh=>(P h).below f,λh=>(Q h).below f,λh=>(T h).below f,λh=>(W h).below f,G9⟩,O (o.o.below f)⟩
   . clear m;refine Za ?_;exact⟨_,_,_,_,_,_,_,_,_,_,_,rfl,(D9 g),O (o.o)⟩
   . obtain rfl:=(g.o.2.2.2.2.1 (m 4 Y));clear m;obtain⟨s,a,l,c,t,b,k,d,n,r,i,j⟩:=o.o.rat (i:=1) rfl;obtain⟨e0,e1,e2,e3⟩:=n.cq;refine Za ?_;exact⟨_,_,_,_,_,_,_,_,_,_,_,rfl,(EE (D9 g) λ_=>i),O (o.o)⟩
   . clear m;obtain⟨s,a,l,c,n,i⟩:=o.o.int (i:=4) rfl;obtain⟨e0,e1⟩:=n.cp;refine Za ?_;exact⟨_,_,_,_,_,_,_,_,_,_,_,rfl,(D6 g λ_=>i),O (o.o)⟩
   . have X:=((Dl g) (m 5 Y));have R:=((Dq g) (m 6 Y));have HC:=O ((by have h:=Gb _ _ q.num up V X R T4.o HQ.o.num T3.o;rw[HY.o]at h;exact h));clear m X R;refine Jb rfl rfl λK hK=>?_;go_simp;go_wp2_with(go_at_call 91;refine HC.o.mono ?_;rintro e w5 ⟨v5,rfl,ae,f⟩)
     obtain⟨z,A,N,U,S,P,Q,_,W,G9⟩:=g.o;exact⟨_,_,_,_,_,_,_,_,_,_,_,rfl,O ⟨z,λh=>(A h).below f,λh=>(N h).below f,λh=>(U h).below f,S,λh=>(P h).below f,λh=>(Q h).below f,λ_=>ae,λh=>(W h).below f,G9⟩,O (o.o.below f)⟩
   . have X:=(g.o.2.2.2.1 (m 3 Y));have R:=((Dw g) (m 7 Y));have HC:=O (Xo _ _ x y V X R (by have R:=T5.o.words;have h2:=T6.o.words;omega));clear m X R;refine Jb rfl rfl λK hK=>?_;go_simp;go_wp2_with(go_at_call 85;refine HC.o.mono ?_;rintro e w5 ⟨v5,rfl,ae,f⟩)
     obtain⟨z,A,N,U,S,P,Q,T,_,G9⟩:=g.o;exact⟨_,_,_,_,_,_,_,_,_,_,_,rfl,O ⟨z,λh=>(A h).below f,λh=>(N h).below f,λh=>(U h).below f,S,λh=>(P h).below f,λh=>(Q h).below f,λh=>(T h).below f,λ_=>ae,G9⟩,O (o.o.below f)⟩
   . have hf:D 10=false:=DR bj ai;obtain rfl:=D7 g ai;clear m;refine Za ?_;obtain⟨z,A,N,U,S,P,Q,T,W,_⟩:=g.o;exact⟨_,_,_,_,_,_,_,_,_,_,_,rfl,O ⟨z,λh=>(A h).alloc _,λh=>(N h).alloc _,λh=>(U h).alloc _,S,λh=>(P h).alloc _,λh=>(Q h).alloc _,λh=>(T h).alloc _,λh=>(W h).alloc _,⟨λh=>by simp at h,λ_ _=>⟨_,rfl,rfl⟩,λh=>by simp[hf]at h⟩⟩,O (o.o.fill (i:=5) rfl (.int 0) (EJ _))⟩
   . obtain⟨B,rfl,rfl⟩:=Dm g (m 9 Y) ai;have Qw:=m 9 Y;have hv:=((Dy g) (m 8 Y));obtain⟨s1,a1,l1,c1,rfl⟩:=Jk.form2 (show Jk V _ _ from hv);obtain⟨s,a,l,c,n,i⟩:=o.o.int (i:=5) rfl;have e0:=n.c0;have f0:=n.f0;have e1:=n.c1;have f1:=n.f1;clear m;refine Za ?_;obtain⟨z,A,N,U,S,P,Q,T,W,_⟩:=g.o;exact⟨_,_,_,_,_,_,_,_,_,_,_,rfl,O ⟨z,λh=>(A h).set2 n rfl rfl _ _,λh=>(N h).set2 n rfl rfl _ _,λh=>(U h).set2 n rfl rfl _ _,S,λh=>(P h).set2 n rfl rfl _ _,λh=>(Q h).set2 n rfl rfl _ _,λh=>(T h).set2 n rfl rfl _ _,λh=>(W h).set2 n rfl rfl _ _,⟨λh=>by simp[Qw]at h,λ_ h=>by simp at h,λ_=>⟨B,rfl,rfl⟩⟩⟩,O (o.o.putInt (i:=5) rfl hv)⟩
  rintro D aj ah ay ⟨tl,tm,tn,tp,tq,tr,ts,tt,tu,tx,x9,rfl,g,o⟩;obtain⟨B12,rfl,rfl⟩:=g.o.2.2.2.2.2.2.2.2.2.2.2 (ay 10 DQ);clear g ay M3;have M4:Hid (Mem w ah [some (w.heap.size,.rat p),some (w.heap.size+1,.rat q),some (w.heap.size+1+1,.rat 0),some (B8,.int dn),some (B9,.int up),some (B12,.int (x*y))]):=o;clear o;go_upto_region 5 with fail
  obtain⟨fr,de,fg,dz,am,f9⟩:=M4.o.int (i:=5) rfl;obtain⟨Qc,Qm⟩:=am.cp;obtain⟨fs,dh,fh,ed,fx,du,fc,f6,an,fm,go,gr⟩:=M4.o.rat (i:=0) rfl;obtain⟨Qb,Qh,Qq,Qa⟩:=an.cq;obtain⟨ft,di,fi,eh,ap,fa⟩:=M4.o.int (i:=4) rfl;obtain⟨Qj,Qd⟩:=ap.cp;obtain⟨fu,dj,fj,ei,fy,dw,fd,f7,aq,fo,gp,gu⟩:=M4.o.rat (i:=1) rfl;obtain⟨Qp,Qf,Qe,Qk⟩:=aq.cq;obtain⟨fv,dp,fk,et,aw,fb⟩:=M4.o.int (i:=3) rfl;obtain⟨Qn,Qg⟩:=aw.cp;obtain⟨ii,gb,gy,gh,ij,gg,gw,gi,ad,ig,gq,gv⟩:=M4.o.rat (i:=2) rfl;obtain⟨Qo,Ql,Qi,Qr⟩:=ad.cq;obtain⟨Qs,Qv,Qu,Qt⟩:=ad.fq;obtain⟨H2,H4,H6,H8,H9,Ui⟩:=Kr (λ(V:H) (h:Bl ah V)=>F7 _ p V (fm.below h)) (λ(V:H) (h:Bl ah V) (v2:L) (g2:Jk V v2 ((p.den:Int)))=>Gb _ _ (p.den:Int) up V g2 (fa.below h) T4.o HP.o.den T3.o) (λ(V:H) (h:Bl ah V)=>F7 _ q V (fo.below h)) (λ(V:H) (h:Bl ah V) (v6:L) (g6:Jk V v6 ((q.den:Int)))=>Gb _ _ (q.den:Int) dn V g6 (fb.below h) T2.o HQ.o.den T1.o) (λ(V:H) (h:Bl ah V) (v4:L) (g4:Jk V v4 ((p.den:Int)/up)) (v8:L) (g8:Jk V v8 ((q.den:Int)/dn))=>Xo _ _ ((p.den:Int)/up) ((q.den:Int)/dn) V g4 g8 (by have R:=(Sok.div (y:=up) HP.o.den).words;have h2:=(Sok.div (y:=dn) HQ.o.den).words;omega)) λ(V:H) (h:Bl ah V) (v9:L) (g9:Jk V v9 ((p.den:Int)/up*((q.den:Int)/dn)))=>L2 _ _ (p*q) V (by rw[T7.o];exact(f9.below h)) (by rw[T8.o];exact g9);have ie:B12≠w.heap.size+1+1:=M4.o.ne 5 2 rfl rfl DQ;have gz:w.heap.size≠w.heap.size+1+1:=M4.o.ne 0 2 rfl rfl DQ;have ic:B9≠w.heap.size+1+1:=M4.o.ne 4 2 rfl rfl DQ;have ia:w.heap.size+1≠w.heap.size+1+1:=M4.o.ne 1 2 rfl rfl DQ;have ib:B8≠w.heap.size+1+1:=M4.o.ne 3 2 rfl rfl DQ;have hq:Bl ah ah.drew:=(BB _ ah).drew;go_region_held3 (λw'=>w'.cell? ⟨B12,0,none⟩=some (E fr)/\w'.cell? ⟨B12,1,none⟩=some (C de fg dz)/\w'.cell? ⟨w.heap.size,0,none⟩=some (E fs)/\w'.cell? ⟨w.heap.size,1,none⟩=some (C dh fh ed)/\w'.cell? ⟨w.heap.size,2,none⟩=some (E fx)/\w'.cell? ⟨w.heap.size,3,none⟩=some (C du fc f6)/\w'.cell? ⟨B9,0,none⟩=some (E ft)/\w'.cell? ⟨B9,1,none⟩=some (C di fi eh)/\w'.cell? ⟨w.heap.size+1,0,none⟩=some (E fu)/\w'.cell? ⟨w.heap.size+1,1,none⟩=some (C dj fj ei)/\w'.cell? ⟨w.heap.size+1,2,none⟩=some (E fy)/\w'.cell? ⟨w.heap.size+1,3,none⟩=some (C dw fd f7)/\w'.cell? ⟨B8,0,none⟩=some (E fv)/\w'.cell? ⟨B8,1,none⟩=some (C dp fk et)) (first|(with_reducible exact⟨Qc,Qm,Qb,Qh,Qq,Qa,Qj,Qd,Qp,Qf,Qe,Qk,Qn,Qg⟩)|(go_keep;done)|(refine⟨?_,?_,?_,?_,?_,?_,?_,?_,?_,?_,?_,?_,?_,?_⟩<;>((repeat rw[JH J]);first|assumption|(go_keep;done))))
   (first
    |(go_at_call 86;refine(H2.o _ hq ).mono ?_;clear H2;rintro e w2 ⟨v2,rfl,g2,ak⟩;have hq:=Bt hq ak;obtain⟨Qc,Qm⟩:=(am.below hq).cp;obtain⟨Qb,Qh,Qq,Qa⟩:=(an.below hq).cq;obtain⟨Qj,Qd⟩:=(ap.below hq).cp;obtain⟨Qp,Qf,Qe,Qk⟩:=(aq.below hq).cq;obtain⟨Qn,Qg⟩:=(aw.below hq).cp;obtain⟨Qo,Ql,Qi,Qr⟩:=(ad.below hq).cq;obtain⟨Qs,Qv,Qu,Qt⟩:=(ad.below hq).fq)
    |(go_at_call 91;refine(H4.o _ hq _ g2).mono ?_;clear H4;rintro e w4 ⟨v4,rfl,g4,cg⟩;have g2:=g2.below cg;have hq:=Bt hq cg;obtain⟨Qc,Qm⟩:=(am.below hq).cp;obtain⟨Qb,Qh,Qq,Qa⟩:=(an.below hq).cq;obtain⟨Qj,Qd⟩:=(ap.below hq).cp;obtain⟨Qp,Qf,Qe,Qk⟩:=(aq.below hq).cq;obtain⟨Qn,Qg⟩:=(aw.below hq).cp;obtain⟨Qo,Ql,Qi,Qr⟩:=(ad.below hq).cq;obtain⟨Qs,Qv,Qu,Qt⟩:=(ad.below hq).fq)
    |(go_at_call 86;refine(H6.o _ hq ).mono ?_;clear H6;rintro e w6 ⟨v6,rfl,g6,bn⟩;have g2:=g2.below bn;have g4:=g4.below bn;have hq:=Bt hq bn;obtain⟨Qc,Qm⟩:=(am.below hq).cp;obtain⟨Qb,Qh,Qq,Qa⟩:=(an.below hq).cq;obtain⟨Qj,Qd⟩:=(ap.below hq).cp;obtain⟨Qp,Qf,Qe,Qk⟩:=(aq.below hq).cq;obtain⟨Qn,Qg⟩:=(aw.below hq).cp;obtain⟨Qo,Ql,Qi,Qr⟩:=(ad.below hq).cq;obtain⟨Qs,Qv,Qu,Qt⟩:=(ad.below hq).fq)
    |(go_at_call 91;refine(H8.o _ hq _ g6).mono ?_;clear H8;rintro e w8 ⟨v8,rfl,g8,bi⟩;have g2:=g2.below bi;have g4:=g4.below bi;have g6:=g6.below bi;have hq:=Bt hq bi;obtain⟨Qc,Qm⟩:=(am.below hq).cp;obtain⟨Qb,Qh,Qq,Qa⟩:=(an.below hq).cq;obtain⟨Qj,Qd⟩:=(ap.below hq).cp;obtain⟨Qp,Qf,Qe,Qk⟩:=(aq.below hq).cq;obtain⟨Qn,Qg⟩:=(aw.below hq).cp;obtain⟨Qo,Ql,Qi,Qr⟩:=(ad.below hq).cq;obtain⟨Qs,Qv,Qu,Qt⟩:=(ad.below hq).fq)
    |(go_at_call 85;refine(H9.o _ hq _ g4 _ g8).mono ?_;clear H9;rintro e w9 ⟨v9,rfl,g9,bh⟩;have g2:=g2.below bh;have g4:=g4.below bh;have g6:=g6.below bh;have g8:=g8.below bh;have hq:=Bt hq bh;obtain⟨Qc,Qm⟩:=(am.below hq).cp;obtain⟨Qb,Qh,Qq,Qa⟩:=(an.below hq).cq;obtain⟨Qj,Qd⟩:=(ap.below hq).cp;obtain⟨Qp,Qf,Qe,Qk⟩:=(aq.below hq).cq;obtain⟨Qn,Qg⟩:=(aw.below hq).cp;obtain⟨Qo,Ql,Qi,Qr⟩:=(ad.below hq).cq;obtain⟨Qs,Qv,Qu,Qt⟩:=(ad.below hq).fq)
    |(go_at_call 92;refine(Ui.o _ hq _ g9).mono ?_;clear Ui;rintro e il ⟨ik,rfl,ce,bc⟩;obtain⟨fw,dt,fl,ew,ga,dx,fe,f8,rfl⟩:=Jj.form ce;have g2:=g2.below bc;have g4:=g4.below bc;have g6:=g6.below bc;have g8:=g8.below bc;have g9:=g9.below bc;have hq:=Bt hq bc;obtain⟨Qc,Qm⟩:=(am.below hq).cp;obtain⟨Qb,Qh,Qq,Qa⟩:=(an.below hq).cq;obtain⟨Qj,Qd⟩:=(ap.below hq).cp;obtain⟨Qp,Qf,Qe,Qk⟩:=(aq.below hq).cq;obtain⟨Qn,Qg⟩:=(aw.below hq).cp;obtain⟨Qo,Ql,Qi,Qr⟩:=(ad.below hq).cq;obtain⟨Qs,Qv,Qu,Qt⟩:=(ad.below hq).fq))
  all_goals go_wp2_with fail
  have Ua:=Bt M4.o.2.2 hq;have Uk:=M4.o.ge 2 rfl;exact BA (v:=F #[E fw,C dt fl ew,E ga,C dx fe f8]) (by simp[results,Tryz.results52,go_sem,Qo,Ql,Qi,Qr]) rfl ⟨_,rfl,ce.put4 (ad.below hq) rfl rfl rfl rfl _ _ _ _,Ju Ua Uk _ _ _ _⟩
theorem L5(va vb:L)(x y:Int)(w:H)(N:Jk w va x)(P:Jk w vb y)(R:Sok x)(S:Sok y):
 Calls M 84 #[va,vb] w λe w'=>∃u,e=.returned (.tuple #[u,E (decide (y≠0))])/\Jj w' u (Rat.divInt x y)/\Bl w w':=by
 have HX:=O R;have HY:=O S;clear R S;obtain⟨s,a,la,ca,rfl⟩:=Jk.form2 N;obtain⟨t,b,lb,cb,rfl⟩:=Jk.form2 P;have q:=N2 w s t a b la ca lb cb _ _ N P;obtain⟨W0,K⟩:=ex (((w.alloc (G #[E s,C a la ca] 63)).alloc (G #[E t,C b lb cb] 63)).alloc (G #[E false,C none 0 0,E false,C none 0 0] 65));have Q:=O K;rw[K]at q;have f:Hid (Mem w W0 [some (w.heap.size,.int x),some (w.heap.size+1,.int y),some (w.heap.size+1+1,.rat 0)]):=O q;clear q N P K;obtain⟨s1,a1,l1,c1,W,i1⟩:=f.o.int (i:=0) rfl;obtain⟨Qo,Qm⟩:=W.cp;obtain⟨s2,a2,l2,c2,X,U⟩:=f.o.int (i:=1) rfl;obtain⟨Qk,Qn⟩:=X.cp;obtain⟨s3,a3,l3,c3,t3,b3,k3,d3,d,r3,i3,j3⟩:=f.o.rat (i:=2) rfl;obtain⟨l,k,m,j⟩:=d.cq;obtain⟨A,B,r,D⟩:=d.fq;have n:=O (Q3 _ y W0 U);have g:=O λ(V:H) (h:Bl W0 V) (c:y≠0)=>Q5 _ _ x y V (i1.below h) (U.below h) c HX.o HY.o;by_cases c:y=0
 . rw[BK c]at n;have o:=O (BI (p:=y≠0) λh=>h c);rw[o.o];have HE:=O (show Rat.divInt x y=0 by rw[c,Rat.divInt_zero]);clear c g;go_enter Tryz.func84,Tryz.ntmps84
   go_upto_region 1 with fail
   rw[Q.o];go_wp2_with(go_at_call 117;refine n.o.mono ?_;rintro e w1 ⟨rfl,hq⟩;obtain⟨l,k,m,j⟩:=(d.below hq).cq;obtain⟨A,B,r,D⟩:=(d.below hq).fq)
   have hr:Jj w1 (F #[E false,C none 0 0,E false,C none 0 0]) (Rat.divInt x y):=by rw[HE.o];exact Ee _
   have z:=Bt f.o.2.2 hq;exact BA (v:=.tuple #[F #[E false,C none 0 0,E false,C none 0 0],E false]) (by simp[results,Tryz.results84,go_sem,l,k,m,j]) rfl ⟨_,rfl,hr.put4 (d.below hq) rfl rfl rfl rfl _ _ _ _,Ju z J _ _ _ _⟩
 . rw[BI c]at n;have o:=O (BK (p:=y≠0) c);rw[o.o];have g:=O λV h=>g.o V h c;clear c;go_enter Tryz.func84,Tryz.ntmps84
   go_upto_region 1 with fail
   rw[Q.o];go_wp2_with(first
    |(go_at_call 117;refine n.o.mono ?_;rintro e w1 ⟨rfl,hq⟩;obtain⟨Qo,Qm⟩:=(W.below hq).cp;obtain⟨Qk,Qn⟩:=(X.below hq).cp;obtain⟨l,k,m,j⟩:=(d.below hq).cq;obtain⟨A,B,r,D⟩:=(d.below hq).fq)
    |(go_at_call 118;refine(g.o _ hq).mono ?_;clear g;rintro e w2 ⟨u2,rfl,T,ai⟩;obtain⟨am,ad,ak,af,an,ae,aj,ah,rfl⟩:=Jj.form T;have hq:=Bt hq ai;obtain⟨l,k,m,j⟩:=(d.below hq).cq;obtain⟨A,B,r,D⟩:=(d.below hq).fq))
   have z:=Bt f.o.2.2 hq;have Ql:=f.o.ge 2 rfl;exact BA (v:=.tuple #[F #[E am,C ad ak af,E an,C ae aj ah],E true]) (by simp[results,Tryz.results84,go_sem,l,k,m,j]) rfl ⟨_,rfl,T.put4 (d.below hq) rfl rfl rfl rfl _ _ _ _,Ju z Ql _ _ _ _⟩
theorem Zq(p q:Rat):decide ((p.den:Int)*q.num≠0)=decide (q≠0):=by
 refine DL.2 (not_congr ⟨λh=>?_,λh=>?_⟩)
 . rcases Int.mul_eq_zero.1 h with h|h
   . have:=p.den_nz;omega
   . exact Fy.1 h
 . rw[h];exact Int.mul_zero _
theorem Q6(va vb:L)(p q:Rat)(w:H)(ha:Jj w va p)(hb:Jj w vb q)(am:Sq p)(an:Sq q):
 Calls M 50 #[va,vb] w λe j=>∃u,e=.returned (.tuple #[u,E (decide (q≠0))])/\Jj j u (p/q)/\Bl w j:=by
 obtain⟨bq,ai⟩:=ex (decide (q≠0));have Qt:=O ((Zq p q).trans ai);rw[ai];clear ai;obtain⟨s,a,l,c,t,b,k,d,rfl⟩:=Jj.form ha;obtain⟨s',a',l',c',t',b',k',d',rfl⟩:=Jj.form hb;have M0:=L3 w s t s' t' a b a' b' l c k d l' c' k' d' p q ha hb;obtain⟨W0,af⟩:=ex (((w.alloc (G #[E s,C a l c,E t,C b k d] 65)).alloc (G #[E s',C a' l' c',E t',C b' k' d'] 65)).alloc (G #[E false,C none 0 0,E false,C none 0 0] 65));have Qq:=O af;rw[af]at M0;have n:Hid (Mem w W0 [some (w.heap.size,.rat p),some (w.heap.size+1,.rat q),some (w.heap.size+1+1,.rat 0)]):=O M0;have HP:=O am;have HQ:=O an;clear M0 ha hb af am an;go_enter Tryz.func50,Tryz.ntmps50
 go_upto_region 1 with fail
 rw[Qq.o];clear Qq;obtain⟨s1,a1,l1,c1,t1,b1,k1,d1,S,r1,i1,j1⟩:=n.o.rat (i:=0) rfl;obtain⟨y,A,D,N⟩:=S.cq;obtain⟨s2,a2,l2,c2,t2,b2,k2,d2,T,r2,i2,j2⟩:=n.o.rat (i:=1) rfl;obtain⟨z,x,r,Q⟩:=T.cq;obtain⟨s3,a3,l3,c3,t3,b3,k3,d3,f,r3,i3,j3⟩:=n.o.rat (i:=2) rfl;obtain⟨K,B,R,P⟩:=f.cq;obtain⟨Qp,X,W,U⟩:=f.fq;obtain⟨H3,H4,H6,H9,Qr⟩:=GY (λ(V:H) (h:Bl W0 V)=>F7 _ q V (r2.below h)) (λ(V:H) (h:Bl W0 V) (v3:L) (g:Jk V v3 ((q.den:Int)))=>Xo _ _ p.num (q.den:Int) V (i1.below h) g (by have h1:=HP.o.num.words;have h2:=HQ.o.den.words;omega)) (λ(V:H) (h:Bl W0 V)=>F7 _ p V (r1.below h)) (λ(V:H) (h:Bl W0 V) (v6:L) (o:Jk V v6 ((p.den:Int)))=>Xo _ _ (p.den:Int) q.num V o (i2.below h) (by have h1:=HP.o.den.words;have h2:=HQ.o.num.words;omega)) λ(V:H) (h:Bl W0 V) (v4:L) (m:Jk V v4 (p.num*(q.den:Int))) (v9:L) (g9:Jk V v9 ((p.den:Int)*q.num))=>(by have h:=L5 _ _ (p.num*(q.den:Int)) ((p.den:Int)*q.num) V m g9 (HP.o.cross HQ.o) (HP.o.cross2 HQ.o);rw[Qt.o,PQ]at h;exact h);have bi:w.heap.size≠w.heap.size+1+1:=n.o.ne 0 2 rfl rfl DQ;have bj:w.heap.size+1≠w.heap.size+1+1:=n.o.ne 1 2 rfl rfl DQ;have hq:Bl W0 W0.drew:=(BB _ W0).drew;go_region_held3 (λj=>j.cell? ⟨w.heap.size,0,none⟩=some (E s1)/\j.cell? ⟨w.heap.size,1,none⟩=some (C a1 l1 c1)/\j.cell? ⟨w.heap.size,2,none⟩=some (E t1)/\j.cell? ⟨w.heap.size,3,none⟩=some (C b1 k1 d1)/\j.cell? ⟨w.heap.size+1,0,none⟩=some (E s2)/\j.cell? ⟨w.heap.size+1,1,none⟩=some (C a2 l2 c2)/\j.cell? ⟨w.heap.size+1,2,none⟩=some (E t2)/\j.cell? ⟨w.heap.size+1,3,none⟩=some (C b2 k2 d2)) (first|(with_reducible exact⟨y,A,D,N,z,x,r,Q⟩)|(go_keep;done)|(refine⟨?_,?_,?_,?_,?_,?_,?_,?_⟩<;>((repeat rw[JH J]);first|assumption|(go_keep;done))))
  (first
   |(go_at_call 86;refine(H3.o _ hq ).mono ?_;clear H3;rintro e w3 ⟨v3,rfl,g,az⟩;have hq:=Bt hq az;obtain⟨y,A,D,N⟩:=(S.below hq).cq;obtain⟨z,x,r,Q⟩:=(T.below hq).cq;obtain⟨K,B,R,P⟩:=(f.below hq).cq;obtain⟨Qp,X,W,U⟩:=(f.below hq).fq)
   |(go_at_call 85;refine(H4.o _ hq _ g).mono ?_;clear H4;rintro e w4 ⟨v4,rfl,m,ak⟩;have g:=g.below ak;have hq:=Bt hq ak;obtain⟨y,A,D,N⟩:=(S.below hq).cq;obtain⟨z,x,r,Q⟩:=(T.below hq).cq;obtain⟨K,B,R,P⟩:=(f.below hq).cq;obtain⟨Qp,X,W,U⟩:=(f.below hq).fq)
   |(go_at_call 86;refine(H6.o _ hq ).mono ?_;clear H6;rintro e w6 ⟨v6,rfl,o,ah⟩;have g:=g.below ah;have m:=m.below ah;have hq:=Bt hq ah;obtain⟨y,A,D,N⟩:=(S.below hq).cq;obtain⟨z,x,r,Q⟩:=(T.below hq).cq;obtain⟨K,B,R,P⟩:=(f.below hq).cq;obtain⟨Qp,X,W,U⟩:=(f.below hq).fq)
   |(go_at_call 85;refine(H9.o _ hq _ o).mono ?_;clear H9;rintro e w9 ⟨v9,rfl,g9,ae⟩;have g:=g.below ae;have m:=m.below ae;have o:=o.below ae;have hq:=Bt hq ae;obtain⟨y,A,D,N⟩:=(S.below hq).cq;obtain⟨z,x,r,Q⟩:=(T.below hq).cq;obtain⟨K,B,R,P⟩:=(f.below hq).cq;obtain⟨Qp,X,W,U⟩:=(f.below hq).fq)
   |(go_at_call 84;refine(Qr.o _ hq _ m _ g9).mono ?_;clear Qr;rintro e bm ⟨bk,rfl,aj,ad⟩;obtain⟨bg,ap,bf,aw,bh,aq,bc,ay,rfl⟩:=Jj.form aj;have g:=g.below ad;have m:=m.below ad;have o:=o.below ad;have g9:=g9.below ad;have hq:=Bt hq ad;obtain⟨y,A,D,N⟩:=(S.below hq).cq;obtain⟨z,x,r,Q⟩:=(T.below hq).cq;obtain⟨K,B,R,P⟩:=(f.below hq).cq;obtain⟨Qp,X,W,U⟩:=(f.below hq).fq))
 all_goals go_wp2_with fail
 have Qu:=Bt n.o.2.2 hq;have Qs:=n.o.ge 2 rfl;exact BA (v:=.tuple #[F #[E bg,C ap bf aw,E bh,C aq bc ay],E bq]) (by simp[results,Tryz.results50,go_sem,K,B,R,P]) rfl ⟨_,rfl,aj.put4 (f.below hq) rfl rfl rfl rfl _ _ _ _,Ju Qu Qs _ _ _ _⟩
def Hr(p q:Rat):Int:=EX (p.num*q.den) (q.num*p.den)
theorem Q7(va vb:L)(p q:Rat)(w:H)(ha:Jj w va p)(hb:Jj w vb q)(aj:Sq p)(ak:Sq q):
 Calls M 68 #[va,vb] w λe f=>e=.returned (.int .i64 (Hr p q))/\Bl w f:=by
 obtain⟨s,a,l,c,t,b,k,d,rfl⟩:=Jj.form ha;obtain⟨s',a',l',c',t',b',k',d',rfl⟩:=Jj.form hb;have M0:=Zl w s t s' t' a b a' b' l c k d l' c' k' d' p q ha hb;obtain⟨W0,ae⟩:=ex ((w.alloc (G #[E s,C a l c,E t,C b k d] 65)).alloc (G #[E s',C a' l' c',E t',C b' k' d'] 65));have Ql:=O ae;rw[ae]at M0;have R:Hid (Mem w W0 [some (w.heap.size,.rat p),some (w.heap.size+1,.rat q)]):=O M0;obtain⟨n,hn⟩:=ex (Hr p q);have HN:=O hn;rw[hn];have HP:=O aj;have HQ:=O ak;clear M0 ha hb ae aj ak hn;go_enter Tryz.func68,Tryz.ntmps68
 go_upto_region 1 with fail
 rw[Ql.o];clear Ql;obtain⟨X,ai⟩:=ex (decide (p.den=1/\q.den=1):Bool);have S:=O ai;clear ai;go_cut [10] λc f=>c=E X/\Hid (Mem w f [some (w.heap.size,.rat p),some (w.heap.size+1,.rat q)])
 case first=>
  obtain⟨s1,a1,l1,c1,t1,b1,k1,d1,n1,r1,i1,j1⟩:=R.o.rat (i:=0) rfl;obtain⟨Qp,Qr,Qs,Qt⟩:=n1.cq;obtain⟨s2,a2,l2,c2,t2,b2,k2,d2,n2,r2,i2,j2⟩:=R.o.rat (i:=1) rfl;obtain⟨Qq,Qo,Qn,Qu⟩:=n2.cq;have j:=O (XT _ p W0 r1);have H2:=O λ(V:H) (h:Bl W0 V)=>XT _ q V (r2.below h);by_cases o:p.den=1
  . rw[BK o]at j;obtain⟨b2,W⟩:=ex (decide (q.den=1));rw[W]at H2;have Qk:=O (show b2=X by rw[<-W,<-S.o];exact DL.2 ⟨λh=>⟨o,h⟩,λh=>h.2⟩);clear W o;go_wp2_with(first
     |(go_at_call 89;refine j.o.mono ?_;clear j;rintro e w1 ⟨rfl,N⟩;obtain⟨Qp,Qr,Qs,Qt⟩:=(n1.below N).cq;obtain⟨Qq,Qo,Qn,Qu⟩:=(n2.below N).cq)
     |(go_at_call 89;refine(H2.o _ N).mono ?_;clear H2;rintro e w2 ⟨rfl,W⟩))
    go_meet
    case rel=>exact⟨by rw[Qk.o],O ((R.o.below N).below W)⟩
  . rw[BI o]at j;have Qk:=O (show X=false by rw[<-S.o];exact BI λh=>o h.1);clear o;go_wp2_with(go_at_call 89;refine j.o.mono ?_;clear j;rintro e w1 ⟨rfl,N⟩)
    go_meet
    case rel=>exact⟨by rw[Qk.o],O (R.o.below N)⟩
 obtain⟨rfl,MM⟩:=hcut;have u:Hid (Mem w wc [some (w.heap.size,.rat p),some (w.heap.size+1,.rat q)]):=MM;clear R MM;cases X with
 |true=>
  have Qj:=Bf S.o;have HE:=O (show EX p.num q.num=n by rw[<-HN.o];unfold Hr;rw[Qj.1,Qj.2];simp);clear Qj S;obtain⟨s3,a3,l3,c3,t3,b3,k3,d3,n3,r3,i3,j3⟩:=u.o.rat (i:=0) rfl;obtain⟨an,ap⟩:=n3.cp;obtain⟨s4,a4,l4,c4,t4,b4,k4,d4,n4,r4,i4,j4⟩:=u.o.rat (i:=1) rfl;obtain⟨aq,aw⟩:=n4.cp;have j:=O (Ir _ _ p.num q.num wc i3 i4);rw[HE.o]at j;go_wp2_with(go_at_call 104;refine j.o.mono ?_;clear j;rintro e w1 ⟨rfl,hq⟩)
  go_ret;exact⟨rfl,Bt u.o.2.2 hq⟩
 |false=>
  clear S;go_upto_region 3 with fail
  obtain⟨s5,a5,l5,c5,t5,b5,k5,d5,P,r5,i5,j5⟩:=u.o.rat (i:=0) rfl;obtain⟨K,v,y,A⟩:=P.cq;obtain⟨s6,a6,l6,c6,t6,b6,k6,d6,Q,r6,i6,j6⟩:=u.o.rat (i:=1) rfl;obtain⟨z,D,x,B⟩:=Q.cq;obtain⟨H3,H4,H8,H9,Qm⟩:=GY (λ(V:H) (h:Bl wc V)=>F7 _ q V (r6.below h)) (λ(V:H) (h:Bl wc V) (v3:L) (g:Jk V v3 ((q.den:Int)))=>Xo _ _ p.num (q.den:Int) V (i5.below h) g (by have o:=HP.o.num.words;have h2:=HQ.o.den.words;omega)) (λ(V:H) (h:Bl wc V)=>F7 _ p V (r5.below h)) (λ(V:H) (h:Bl wc V) (v8:L) (r:Jk V v8 ((p.den:Int)))=>Xo _ _ q.num (p.den:Int) V (i6.below h) r (by have o:=HQ.o.num.words;have h2:=HP.o.den.words;omega)) λ(V:H) (h:Bl wc V) (v4:L) (m:Jk V v4 (p.num*(q.den:Int))) (v9:L) (T:Jk V v9 (q.num*(p.den:Int)))=>(by have h:=Ir _ _ (p.num*(q.den:Int)) (q.num*(p.den:Int)) V m T;rw[show EX (p.num*(q.den:Int)) (q.num*(p.den:Int))=n from HN.o]at h;exact h);have hq:Bl wc wc.drew:=(BB _ wc).drew;go_region_held3 (λf=>f.cell? ⟨w.heap.size,0,none⟩=some (E s5)/\f.cell? ⟨w.heap.size,1,none⟩=some (C a5 l5 c5)/\f.cell? ⟨w.heap.size,2,none⟩=some (E t5)/\f.cell? ⟨w.heap.size,3,none⟩=some (C b5 k5 d5)/\f.cell? ⟨w.heap.size+1,0,none⟩=some (E s6)/\f.cell? ⟨w.heap.size+1,1,none⟩=some (C a6 l6 c6)/\f.cell? ⟨w.heap.size+1,2,none⟩=some (E t6)/\f.cell? ⟨w.heap.size+1,3,none⟩=some (C b6 k6 d6)) (first|(with_reducible exact⟨K,v,y,A,z,D,x,B⟩)|(go_keep;done)|(refine⟨?_,?_,?_,?_,?_,?_,?_,?_⟩<;>((repeat rw[JH J]);first|assumption|(go_keep;done))))
   (first
    |(go_at_call 86;refine(H3.o _ hq ).mono ?_;clear H3;rintro e w3 ⟨v3,rfl,g,am⟩;have hq:=Bt hq am;obtain⟨K,v,y,A⟩:=(P.below hq).cq;obtain⟨z,D,x,B⟩:=(Q.below hq).cq)
    |(go_at_call 85;refine(H4.o _ hq _ g).mono ?_;clear H4;rintro e w4 ⟨v4,rfl,m,ah⟩;have g:=g.below ah;have hq:=Bt hq ah;obtain⟨K,v,y,A⟩:=(P.below hq).cq;obtain⟨z,D,x,B⟩:=(Q.below hq).cq)
    |(go_at_call 86;refine(H8.o _ hq ).mono ?_;clear H8;rintro e w8 ⟨v8,rfl,r,af⟩;have g:=g.below af;have m:=m.below af;have hq:=Bt hq af;obtain⟨K,v,y,A⟩:=(P.below hq).cq;obtain⟨z,D,x,B⟩:=(Q.below hq).cq)
    |(go_at_call 85;refine(H9.o _ hq _ r).mono ?_;clear H9;rintro e w9 ⟨v9,rfl,T,ad⟩;have g:=g.below ad;have m:=m.below ad;have r:=r.below ad;have hq:=Bt hq ad;obtain⟨K,v,y,A⟩:=(P.below hq).cq;obtain⟨z,D,x,B⟩:=(Q.below hq).cq)
    |(go_at_call 104;refine(Qm.o _ hq _ m _ T).mono ?_;clear Qm;rintro e ay ⟨rfl,U⟩;have g:=g.below U;have m:=m.below U;have r:=r.below U;have T:=T.below U;have hq:=Bt hq U;obtain⟨K,v,y,A⟩:=(P.below hq).cq;obtain⟨z,D,x,B⟩:=(Q.below hq).cq))
  all_goals go_wp2_with fail
  go_ret;exact⟨rfl,Bt u.o.2.2 hq⟩
theorem L6(va vb:L)(p q:Rat)(w:H)(S:Jj w va p)(T:Jj w vb q)(ad:Sq p)(ae:Sq q):
 Calls M 51 #[va,vb] w λe f=>∃u,e=.returned u/\Jj f u (p-q)/\Bl w f:=by
 obtain⟨s,a,l,c,t,b,k,d,rfl⟩:=Jj.form S;obtain⟨s',a',l',c',t',b',k',d',rfl⟩:=Jj.form T;have n:=L3 w s t s' t' a b a' b' l c k d l' c' k' d' p q S T;obtain⟨W0,R⟩:=ex (((w.alloc (G #[E s,C a l c,E t,C b k d] 65)).alloc (G #[E s',C a' l' c',E t',C b' k' d'] 65)).alloc (G #[E false,C none 0 0,E false,C none 0 0] 65));have Qo:=O R;rw[R]at n;have j:Hid (Mem w W0 [some (w.heap.size,.rat p),some (w.heap.size+1,.rat q),some (w.heap.size+1+1,.rat 0)]):=O n;have HP:=O ad;have HQ:=O ae;clear n S T R ad ae;go_enter Tryz.func51,Tryz.ntmps51
 go_upto_region 1 with fail
 rw[Qo.o];clear Qo;obtain⟨s1,a1,l1,c1,t1,b1,k1,d1,U,r1,i1,j1⟩:=j.o.rat (i:=0) rfl;obtain⟨x,z,B,K⟩:=U.cq;obtain⟨s2,a2,l2,c2,t2,b2,k2,d2,W,r2,i2,j2⟩:=j.o.rat (i:=1) rfl;obtain⟨y,r,o,P⟩:=W.cq;obtain⟨s3,a3,l3,c3,t3,b3,k3,d3,m,r3,i3,j3⟩:=j.o.rat (i:=2) rfl;obtain⟨D,A,Q,N⟩:=m.cq;obtain⟨Qq,Qp,Qn,Qm⟩:=m.fq;have X:=O λ(V:H) (h:Bl W0 V)=>QO _ _ 0 q.num V (EJ _) (i2.below h) (by have:=Sok.zero.words;omega) (by have:=HQ.o.num.words;omega);have H2:=O (λ(V:H) (h:Bl W0 V) (s:Bool) (a:Option Addr) (l c:Nat) (g:Jk V (F #[E s,C a l c]) (0-q.num))=>show Calls M 87 #[F #[E s1,C a1 l1 c1,E t1,C b1 k1 d1],F #[E s,C a l c,E t2,C b2 k2 d2]] V λe f=>∃u,e=.returned u/\Jj f u (p-q)/\Bl V f by
  have h1:=N3 _ _ p (-q) V (r1.below h) (Jj.mk (q:=-q) (by rw[Rat.neg_num,<-Int.zero_sub];exact g) (j2.below h)) HP.o HQ.o.neg;rw[<-FC]at h1;exact h1)
 have bh:w.heap.size≠w.heap.size+1+1:=j.o.ne 0 2 rfl rfl DQ;have bi:w.heap.size+1≠w.heap.size+1+1:=j.o.ne 1 2 rfl rfl DQ;have hq:Bl W0 W0.drew:=(BB _ W0).drew;go_region_held3 (λf=>f.cell? ⟨w.heap.size,0,none⟩=some (E s1)/\f.cell? ⟨w.heap.size,1,none⟩=some (C a1 l1 c1)/\f.cell? ⟨w.heap.size,2,none⟩=some (E t1)/\f.cell? ⟨w.heap.size,3,none⟩=some (C b1 k1 d1)/\f.cell? ⟨w.heap.size+1,0,none⟩=some (E s2)/\f.cell? ⟨w.heap.size+1,1,none⟩=some (C a2 l2 c2)/\f.cell? ⟨w.heap.size+1,2,none⟩=some (E t2)/\f.cell? ⟨w.heap.size+1,3,none⟩=some (C b2 k2 d2)) (first|(with_reducible exact⟨x,z,B,K,y,r,o,P⟩)|(go_keep;done)|(refine⟨?_,?_,?_,?_,?_,?_,?_,?_⟩<;>((repeat rw[JH J]);first|assumption|(go_keep;done))))
  (first
   |(go_at_call 88;refine(X.o _ hq).mono ?_;clear X;rintro e w1 ⟨u1,rfl,af,an⟩;obtain⟨bj,bc,bg,bf,rfl⟩:=Jk.form2 af;have hq:=Bt hq an;obtain⟨x,z,B,K⟩:=(U.below hq).cq;obtain⟨y,r,o,P⟩:=(W.below hq).cq;obtain⟨D,A,Q,N⟩:=(m.below hq).cq;obtain⟨Qq,Qp,Qn,Qm⟩:=(m.below hq).fq)
   |(go_at_call 87;refine(H2.o _ hq _ _ _ _ af).mono ?_;clear H2;rintro e w2 ⟨u2,rfl,ah,ap⟩;obtain⟨ay,ai,aw,ak,az,aj,aq,am,rfl⟩:=Jj.form ah;have hq:=Bt hq ap;obtain⟨x,z,B,K⟩:=(U.below hq).cq;obtain⟨y,r,o,P⟩:=(W.below hq).cq;obtain⟨D,A,Q,N⟩:=(m.below hq).cq;obtain⟨Qq,Qp,Qn,Qm⟩:=(m.below hq).fq))
 all_goals go_wp2_with fail
 have Qs:=Bt j.o.2.2 hq;have Qr:=j.o.ge 2 rfl;exact BA (v:=F #[E ay,C ai aw ak,E az,C aj aq am]) (by simp[results,Tryz.results51,go_sem,D,A,Q,N]) rfl ⟨_,rfl,ah.put4 (m.below hq) rfl rfl rfl rfl _ _ _ _,Ju Qs Qr _ _ _ _⟩
theorem Zs(q:Rat):Hr q 0=0↔q=0:=by
 rw[Rat.eq_iff_mul_eq_mul];unfold Hr EX;split<;>(try split)<;>omega
theorem Ix:Sq 0:=Sq.of (k:=1) ⟨Sm.zero _,Sm.one _ J⟩ J
theorem Q8(v:L)(q:Rat)(w:H)(h:Jj w v q)(hq:Sq q):
 Calls M 31 #[v] w λe r=>e=.returned (E (decide (q=0)))/\Bl w r:=by
 obtain⟨s,a,l,c,t,b,k,d,rfl⟩:=h.form;have b0:=JM.new w 65 (E s) (C a l c) (E t) (C b k d);have f:Bl w (w.alloc (G #[E s,C a l c,E t,C b k d] 65)):=Ba w _;obtain⟨W0,g⟩:=ex (w.alloc (G #[E s,C a l c,E t,C b k d] 65));rw[g]at b0 f;have o:=O g;have i:=O (Q7 _ _ q 0 W0 (h.below f) (Ee _) hq Ix);obtain⟨u,x,y,z⟩:=b0.cq;have j:=O (Zs q);obtain⟨n,m⟩:=ex (Hr q 0);rw[m]at i j;clear g m;go_enter Tryz.func31,Tryz.ntmps31
 go_upto_region 1 with fail
 rw[o.o];go_wp2_with(go_at_call 68;refine i.o.mono ?_;rintro e A ⟨rfl,p⟩)
 go_ret;refine⟨?_,Bt f p⟩;show Ending.returned (Value.bool (n==0))=_;have e:(n==0)=decide (q=0):=by rw[Cr];simp[j.o]
 rw[e]
def Zt(c:Nat)(a:Option Addr)(len cap:Nat)(x y z u:Nat->L)(k:Nat)(W:H):Prop:=
 W.cell? ⟨c,0,none⟩=some (C a len cap)/\(k<len->∃b,a=some ⟨b,0,none⟩/\W.cell? ⟨b,(len-1-k)*4,none⟩=some (x (len-1-k))/\W.cell? ⟨b,(len-1-k)*4+1,none⟩=some (y (len-1-k))/\
  W.cell? ⟨b,(len-1-k)*4+2,none⟩=some (z (len-1-k))/\W.cell? ⟨b,(len-1-k)*4+3,none⟩=some (u (len-1-k)))
def KF(len:Nat)(x y z u:Nat->L)(k:Nat):Array L:=#[.int .i64 ((len:Int)-1-k),F #[x (len-1-k),y (len-1-k),z (len-1-k),u (len-1-k)]]
theorem L7(F:Fence)(n:Nat)(K:F.fn 67)(N:F.round=none)(hn:1<=n)(f:Nat)(a:Option Addr)(len cap:Nat)(x y z u:Nat->L)(ae:len<=1099511627776):
 Km F n M 67 #[I (some ⟨f,0,none⟩)] len (KF len x y z u) (Zt f a len cap x y z u):=λl t P W o B j=>by
 have T:=(o 0 W j).1;refine B0 Tryz.func67 rfl K ?_ N;simp only[Tryz.ntmps67,Ao,An,AD,Nat.reduceAdd,Nat.reduceSub,AF,AG,AZ,AN,Ap,AA];gi_wp2;gi_loopw [3] (λi wr=>∃k:Nat,k<=len/\i=.int .i64 ((len:Int)-1-k)/\t k wr) λi _=>(intOf i+1).toNat
 case atStart=>exact⟨0,AK _,Y,j⟩
 case round=>
  obtain⟨k,hk,rfl,c⟩:=hrel;obtain⟨S,D⟩:=o k wr c;by_cases d:k<len
  . obtain⟨b,rfl,U,X,ad,V⟩:=D d;obtain⟨fn,tmps,assign,body,r,A⟩:=B k wr c d;have g:((len:Int)-1-k)=((len-1-k:Nat):Int):=J
    have R:len-1-k<len:=J
    dsimp only[KF]at r;rw[g]at r ⊢;generalize q:len-1-k=m at *;have s:=Hid.o (p:=Hid (len-1-k=m)) q;clear q g;gi_wp2;refine A.mono ?_;rintro e Q (⟨rfl,v⟩|⟨rfl,w⟩)
    . gi_wp2;go_roundw
      case rel=>exact⟨k+1,J,by(congr 1;have:=s.o;omega),v⟩
      case measure=>simp[intOf]
    . gi_wp2;refine BA (results_none rfl _ _ _) rfl ?_;exact⟨⟨_,rfl⟩,.inr ⟨k,d,w⟩⟩
  . obtain rfl:k=len:=J
    gi_wp2;go_end0;exact⟨⟨_,rfl⟩,.inl c⟩
theorem L8(F:Fence)(n:Nat)(b:F.fn 30)(c:F.round=none)(a:Option Addr)(len cap:Nat)(w:H):
 CallsIn F n M 30 #[C a len cap] w λe d=>e=.returned (.func (.func 67) #[] #[I (some ⟨w.heap.size,0,none⟩)])/\d=w.alloc (G #[C a len cap] 23):=by
 refine B0 Tryz.func30 rfl b ?_ c;simp only[Tryz.ntmps30,Ao,An,AD,Nat.reduceAdd,Nat.reduceSub,AF,AG,AZ,AN,Ap,AA];gi_wp2;go_ret;exact⟨rfl,rfl⟩
def L9:L->Bool|E b=>b|_=>false
def MA:L->Option Addr|C a _ _=>a|_=>none
def MB:L->Nat|C _ _ c=>c|_=>0
theorem RowK.pick{r:Bool}(h:RowK r W (C a l cap) qs):l=qs.length/\l<=cap/\cap<=9223372036854775807/\l<=1099511627776/\∃x y z u:Nat->L,∀j,j<l->EH r W (F #[x j,y j,z j,u j]) (cf qs j)/\
 ∃b,a=some ⟨b,0,none⟩/\b<W.heap.size/\W.cell? ⟨b,j*4,none⟩=some (x j)/\W.cell? ⟨b,j*4+1,none⟩=some (y j)/\W.cell? ⟨b,j*4+2,none⟩=some (z j)/\W.cell? ⟨b,j*4+3,none⟩=some (u j):=by
 obtain⟨a',s,e,o,p,d,f⟩:=h;cases e;refine⟨rfl,o,p,d,?_⟩;rcases f with f|⟨b,n,q⟩
 . exact⟨λ_=>undef,λ_=>undef,λ_=>undef,λ_=>undef,λj c=>by rw[f]at c;simp at c⟩
 . obtain⟨cs,c1,c2⟩:=q;refine⟨λj=>cs[j*4]?.getD undef,λj=>cs[j*4+1]?.getD undef,λj=>cs[j*4+2]?.getD undef,λj=>cs[j*4+3]?.getD undef,λj c=>?_⟩;obtain⟨x,y,z,u,g,i,k,m,d⟩:=c2 j c;dsimp only;rw[g,i,k,m];exact⟨d,b,n,(Ab.1 c1).1,cell_of c1 g,cell_of c1 i,cell_of c1 k,cell_of c1 m⟩
theorem RowK.forms(h:RowK true W (C a l cap) qs):l=qs.length/\l<=cap/\cap<=9223372036854775807/\l<=1099511627776/\∃(s t:Nat->Bool) (k m:Nat->Option Addr) (p n o dd:Nat->Nat),∀j,j<l->Jj W (F #[E (s j),C (k j) (p j) (n j),E (t j),C (m j) (o j) (dd j)]) (cf qs j)/\
 ∃b,a=some ⟨b,0,none⟩/\b<W.heap.size/\W.cell? ⟨b,j*4,none⟩=some (E (s j))/\W.cell? ⟨b,j*4+1,none⟩=some (C (k j) (p j) (n j))/\W.cell? ⟨b,j*4+2,none⟩=some (E (t j))/\W.cell? ⟨b,j*4+3,none⟩=some (C (m j) (o j) (dd j)):=by
 obtain⟨r,v,w,A,x,y,z,u,D⟩:=h.pick;refine⟨r,v,w,A,λj=>L9 (x j),λj=>L9 (z j),λj=>MA (y j),λj=>MA (u j),λj=>IG (y j),λj=>MB (y j),λj=>IG (u j),λj=>MB (u j),λj K=>?_⟩;obtain⟨i,b,q,B,c0,c1,c2,c3⟩:=D j K;obtain⟨s,a',l',c',t,N,Q,P,e,_⟩:=(show Jj W _ _ from i);simp only[Value.agg.injEq,FV,Fx,and_true]at e;obtain⟨c,d,f,g⟩:=e;rw[c,d,f,g]at i;rw[c]at c0;rw[d]at c1;rw[f]at c2;rw[g]at c3;dsimp only;rw[c,d,f,g];exact⟨i,b,q,B,c0,c1,c2,c3⟩
def Q9(w:H)(a:Option Addr)(len cap:Nat)(qs:List Rat)(k:Nat)(W:H):Prop:=
 ((((Boxed W w.heap.size 23 (C a len cap)/\Boxed W (w.heap.size+1) 75 (.func (.func 31) #[] #[]))/\Boxed W (w.heap.size+1+1) 23 (C none 0 0))/\Boxed W (w.heap.size+1+1+1) 23 (C a len cap))/\Bl w W)/\∀j,len-k<=j->j<len->cf qs j=0
def RA(w:H)(a:Option Addr)(len cap:Nat)(qs:List Rat)(c:Code)(k:Nat)(W:H):Prop:=
 (Boxed W (w.heap.size+1+1) 23 (C a (len-1-k+1) cap)/\Bl w W)/\(c=.ret/\cf qs (len-1-k)≠0/\∀j,len-k<=j->j<len->cf qs j=0)
theorem Zu(w:H)(a:Option Addr)(len cap:Nat)(qs:List Rat):OwnFrom (w.heap.size+1+1+1+1) (Q9 w a len cap qs):=
 BN (BN (BN (BN (BN (Bj (boxed_own _ _ λ_=>C a len cap) _) (Bj (boxed_own _ _ λ_=>.func (.func 31) #[] #[]) _)) (Bj (boxed_own _ _ λ_=>C none 0 0) _)) (Bj (boxed_own _ _ λ_=>C a len cap) _)) (Bw (Aa _) J)) (DN _ _)
theorem Zv(w:H)(a:Option Addr)(len cap:Nat)(qs:List Rat)(c:Code):OwnFrom (w.heap.size+1+1+1+1) (RA w a len cap qs c):=
 BN (BN (Bj (boxed_own _ _ λk=>C a (len-1-k+1) cap) _) (Bw (Aa _) J)) (DN _ _)
theorem Zw(a:Option Addr)(len cap:Nat)(qs:List Rat)(w:H)(h:RowK true w (C a len cap) qs)(hs:Sqs qs):
 Calls M 60 #[C a len cap,.func (.func 31) #[] #[]] w λe y=>∃u,e=.returned u/\(RowK true y u (Jd qs)/\Bl w y)/\(u=C none 0 0/\Jd qs=[]\/u=C a (Jd qs).length cap):=by
 obtain⟨hl,aj,ak,ah,s,t,B,N,T,P,S,dd,hc⟩:=h.forms;obtain⟨HL,HC,HS⟩:=Dg hl hc hs;clear hc hl hs;refine(BJ (n:=3)).1 ?_;refine BU Tryz.func60 rfl trivial ?_ rfl;simp only[Tryz.ntmps60,Ao,An,AD,Nat.reduceAdd,Nat.reduceSub,AF,AG,AZ,AN,Ap,AA];gi_wp2_with(refine⟨trivial,?_⟩;gi_at_call 30;refine(L8 Fence.wide _ trivial rfl _ _ _ _).mono ?_;rintro e y ⟨rfl,rfl⟩)
 have b0:=(((BM w 23 (C a len cap)).alloc (G #[.func (.func 31) #[] #[]] 75)).alloc (G #[C none 0 0] 23)).alloc (G #[C a len cap] 23);have b1:=((BM (w.alloc (G #[C a len cap] 23)) 75 (.func (.func 31) #[] #[])).alloc (G #[C none 0 0] 23)).alloc (G #[C a len cap] 23);have b2:=(BM ((w.alloc (G #[C a len cap] 23)).alloc (G #[.func (.func 31) #[] #[]] 75)) 23 (C none 0 0)).alloc (G #[C a len cap] 23);have b3:=BM (((w.alloc (G #[C a len cap] 23)).alloc (G #[.func (.func 31) #[] #[]] 75)).alloc (G #[C none 0 0] 23)) 23 (C a len cap);simp only[A1]at b1 b2 b3;have Qd:Bl w ((((w.alloc (G #[C a len cap] 23)).alloc (G #[.func (.func 31) #[] #[]] 75)).alloc (G #[C none 0 0] 23)).alloc (G #[C a len cap] 23)):=(((Ba w _).alloc Y _).alloc si _).alloc si _;have hN:((((w.alloc (G #[C a len cap] 23)).alloc (G #[.func (.func 31) #[] #[]] 75)).alloc (G #[C none 0 0] 23)).alloc (G #[C a len cap] 23)).heap.size=w.heap.size+1+1+1+1:=Y
 refine PJ rfl J (gf:=67) (lb:=#[I (some ⟨w.heap.size+1+1+1,0,none⟩)]) rfl trivial (DF Tryz.func67 (by kernel_rfl) rfl)
  (L7 Fence.wide _ trivial rfl J (w.heap.size+1+1+1) a len cap (λj=>E (s j)) (λj=>C (B j) (T j) (P j)) (λj=>E (t j)) (λj=>C (N j) (S j) (dd j)) ah) (λ_=>rfl)
  (Q9 w a len cap qs) (RA w a len cap qs) (by rw[hN];exact Zu w a len cap qs) (λc=>by rw[hN];exact Zv w a len cap qs c)
  ⟨⟨⟨⟨⟨b0,b1⟩,b2⟩,b3⟩,Qd⟩,λj v Q=>by omega⟩ ?rd
  (λk b=>{ tmps:=#[C a len cap,.func (.func 31) #[] #[],I (some ⟨w.heap.size,0,none⟩),I (some ⟨w.heap.size+1,0,none⟩),I (some ⟨w.heap.size+1+1,0,none⟩),.int .i64 ((len:Int)-1-k),I (some ⟨b,0,none⟩),C a len cap,.func (.func 67) #[] #[I (some ⟨w.heap.size+1+1+1,0,none⟩)],.int .i64 ((len:Int)-1-k),F #[E (s (len-1-k)),C (B (len-1-k)) (T (len-1-k)) (P (len-1-k)),E (t (len-1-k)),C (N (len-1-k)) (S (len-1-k)) (dd (len-1-k))],undef,undef,undef,undef,undef,undef,undef,undef],defers:=[] })
  (λk=>G #[E (s (len-1-k)),C (B (len-1-k)) (T (len-1-k)) (P (len-1-k)),E (t (len-1-k)),C (N (len-1-k)) (S (len-1-k)) (dd (len-1-k))] 65 (0,0)) ?assign ?body ?done ?stop
 case rd=>
  rintro k W ⟨⟨⟨_,c3⟩,f⟩,_⟩;refine⟨c3.cell,λhk=>?_⟩;obtain⟨_,b,ea,R,v,Q,h3,h4⟩:=HC.o (len-1-k) J;exact⟨b,ea,(f.cell (p:=⟨b,_,none⟩) R).trans v,(f.cell (p:=⟨b,_,none⟩) R).trans Q,(f.cell (p:=⟨b,_,none⟩) R).trans h3,(f.cell (p:=⟨b,_,none⟩) R).trans h4⟩
 case assign=>
  intro l k W K i;unfold KF;gi_wp2;exact i
 case body=>
  rintro l k b W ⟨⟨⟨⟨⟨c0,c1⟩,c2⟩,c3⟩,f⟩,o⟩ hk an ai ad;have hm:len-1-k<len:=J
  obtain⟨hi,_⟩:=HC.o (len-1-k) hm;have HI:=O (Jj.below hi f);have r:=O o;have e1:((len:Int)-1-k)=((len-1-k:Nat):Int):=J
  rw[e1];clear e1 o hi;obtain⟨m,ae⟩:=ex (len-1-k);have U:=O ae;rw[ae]at ad HI hm ⊢;clear ae;have q0:JM W b 65 (E (s m)) (C (B m) (T m) (P m)) (E (t m)) (C (N m) (S m) (dd m)):=ad;obtain⟨k0,k1,k2,k3⟩:=q0.cq;have d0:=c0.cell;have d1:=c1.cell;have d2:=c2.cell;have f2:=c2.frozen;clear q0 ad;have z:=O (Be l ((BJ (n:=3-1-1-1)).2 (Q8 _ _ W HI.o (HS.o.at m))));by_cases g:cf qs m=0
  . have V:=O g;rw[show decide (cf qs m=0)=true from BK g]at z;clear g;gi_wp2_with(refine⟨trivial,?_⟩;gi_at_call 31;refine z.o.mono ?_;rintro e y ⟨rfl,d⟩)
    refine⟨(Yr d).from _,⟨⟨⟨⟨boxed_below c0 d,boxed_below c1 d⟩,boxed_below c2 d⟩,boxed_below c3 d⟩,Bt f d⟩,λj v Q=>?_⟩;by_cases x:j=m
    . rw[x];exact V.o
    . have:=U.o;exact r.o j J Q
  . have V:=O g;rw[show decide (cf qs m=0)=false from BI g]at z;clear g;gi_wp2_with(refine⟨trivial,?_⟩;gi_at_call 31;refine z.o.mono ?_;rintro e y ⟨rfl,d⟩;have d0:=(boxed_below c0 d).cell;have d2:=(boxed_below c2 d).cell;have f2:=(boxed_below c2 d).frozen)
    have af:=Bt f d;refine⟨((Yr d).trans (BL _ _ _)).from _,⟨?_,af.setCell (p:=⟨w.heap.size+1+1,0,none⟩) si _⟩,rfl,by rw[U.o];exact V.o,r.o⟩;rw[U.o];exact(boxed_below c2 d).set _
 case done=>
  rintro D W hD ⟨⟨⟨⟨⟨c0,c1⟩,c2⟩,c3⟩,f⟩,o⟩ i;have d1:=c2.cell;have f1:=c2.frozen;have r:=O o;clear o;gi_wp2;have A:(W.setCell ⟨w.heap.size+1+1,0,none⟩ (C none 0 0)).heap[D]?=some (.deferred (some [])):=(BL W ⟨w.heap.size+1+1,0,none⟩ (C none 0 0)).same D _ i rfl;refine⟨Y,.inl ⟨_,_,rfl,Bb A,?_⟩⟩;have X:=(c2.set (C none 0 0)).kept (BV _ D (.deferred none)) (λe=>by cases e;rw[show(W.setCell ⟨w.heap.size+1+1,0,none⟩ (C none 0 0)).heap[w.heap.size+1+1]?=_ from c2.set (C none 0 0)]at A;cases A);have q:=X.cell;have e0:Jd qs=[]:=LM λj=>by
   rcases AO j len with x|x
   . exact r.o j J x
   . exact J1 (by have:=HL.o;omega)
  refine⟨C none 0 0,by simp[results,Tryz.results60,go_sem,q],_,rfl,⟨?_,?_⟩,Or.inl ⟨rfl,e0⟩⟩
  . rw[e0];exact RowK.nil _ _
  . exact(f.setCell (p:=⟨w.heap.size+1+1,0,none⟩) si _).trans (DP (w:=w) (Aa _) _ D _ _ (by simp at hD;omega) A rfl rfl)
 case stop=>
  rintro D c k W hD hk ⟨⟨c1,f⟩,rfl,g,o⟩ i;have d1:=c1.cell;have r:=O (show cf qs (len-1-k)≠0/\∀j,len-k<=j->j<len->cf qs j=0 from⟨g,o⟩);clear o g;gi_wp2;refine⟨Y,.inl ⟨_,_,rfl,Bb i,?_⟩⟩;have X:=c1.kept (BV _ D (.deferred none)) (λe=>by cases e;rw[show W.heap[w.heap.size+1+1]?=_ from c1]at i;cases i);have q:=X.cell;have Qc:Bl w (W.putObj D (.deferred none)):=f.trans (DP (w:=w) (Aa _) _ D _ _ (by simp at hD;omega) i rfl rfl);have am:=HL.o;have e:Jd qs=qs.take (len-1-k+1):=by
   refine Oq J (Or.inr r.o.1) λj x=>?_;rcases AO j len with v|v
   . exact r.o.2 j J v
   . exact J1 J
  have el:(qs.take (len-1-k+1)).length=len-1-k+1:=by rw[Am];omega
  refine⟨C a (len-1-k+1) cap,by simp[results,Tryz.results60,go_sem,q],_,rfl,⟨?_,Qc⟩,Or.inr (by rw[e,el])⟩;rw[e];exact(h.below Qc).take J
def K0(N:Nat)(v:L):Prop:=∀a l c,v=C (some a) l c->N<=a.block
def MC(N:Nat)(v:L):Prop:=∀a l c,v=F #[C (some a) l c]->N<=a.block
theorem FZ{B:Nat}{c:Nat}(b:Boxed W B 25 (C a l c))(x:L){v:L}(h:RowK true W v qs):RowK true (W.setCell ⟨B,0,none⟩ x) v qs:=
 M3.Lz (cs:=#[C a l c]) b (o:=0) rfl rfl true DQ x v qs h
theorem Hs(v:L)(qs:List Rat)(w:H)(h:RowK true w v qs)(hs:Sqs qs):
 Calls M 27 #[v] w λe o=>∃u,e=.returned u/\Jf o u (Jd qs)/\(∀N,K0 N v->MC N u)/\Bl w o:=by
 obtain⟨a,l,c,rfl⟩:=h.form;have b0:=BM w 25 (C none 0 0);have b:Bl w (w.alloc (G #[C none 0 0] 25)):=Ba w _;obtain⟨W0,g⟩:=ex (w.alloc (G #[C none 0 0] 25));rw[g]at b0 b;have r:=O g;have i:=O (Zw a l c qs W0 (h.below b) hs);have n:=b0.cell;have f0:=b0.frozen;clear g h hs;go_enter Tryz.func27,Tryz.ntmps27
 go_upto_region 1 with fail
 rw[r.o];go_wp2_with(go_at_call 60;refine i.o.mono ?_;clear i;rintro e z ⟨u,rfl,⟨m,j⟩,k⟩;obtain⟨t,y,x,rfl⟩:=m.form;have d:=boxed_below b0 j;have n:=d.cell;have f0:=d.frozen;have q:=O k;clear k)
 refine BA (v:=F #[C t y x]) (by simp[results,Tryz.results27,go_sem,n]) rfl ⟨_,rfl,⟨_,rfl,FZ d _ m⟩,?_,(Bt b j).setCell (p:=⟨w.heap.size,0,none⟩) (Aa _) _⟩;intro N s a' l' c' e;simp only[Value.agg.injEq,FV,Fx,and_true]at e;rcases q.o with⟨f,_⟩|f
 . rw[f]at e;cases e
 . rw[f]at e;cases e;exact s _ _ _ rfl
theorem YF(v:L)(ps:List Rat)(w:H)(h:Jf w v ps):
 Calls M 20 #[v] w λe c=>e=.returned (.int .i64 ((ps.length:Int)-1))/\Bl w c:=by
 obtain⟨u,rfl,b⟩:=h;obtain⟨a,cap,rfl,d,f,g,_⟩:=b.open;clear b;generalize ps.length=n at *;go_enter Tryz.func20,Tryz.ntmps20
 go_wp2;go_ret;exact⟨rfl,Ba _ _⟩
theorem N8(v:L)(qs:List Rat)(i:Int)(w:H)(h:RowK true w v qs):
 Calls M 100 #[v,.int .i64 i] w λe n=>∃u,e=.returned u/\Jj n u (if i<0 then 0 else cf qs i.toNat)/\Bl w n:=by
 obtain⟨a,l,c,rfl⟩:=h.form;obtain⟨hl,S,T,U,s,t,x,z,N,A,K,dd,g⟩:=h.forms;have p:=O hl;have d:=O g;clear hl g h;by_cases f:i<0
 . rw[BG f];go_enter Tryz.func100,Tryz.ntmps100
   go_wp2;exact BA (v:=F #[E false,C none 0 0,E false,C none 0 0]) (by simp[results,Tryz.results100,go_sem]) rfl ⟨_,rfl,Ee _,(Ba w _).alloc Y _⟩
 . rw[BE f];by_cases B:(l:Int)<=i
   . have q:=O (show cf qs i.toNat=0 from J1 (by have:=p.o;omega));rw[q.o];go_enter Tryz.func100,Tryz.ntmps100
     go_wp2;exact BA (v:=F #[E false,C none 0 0,E false,C none 0 0]) (by simp[results,Tryz.results100,go_sem]) rfl ⟨_,rfl,Ee _,(Ba w _).alloc Y _⟩
   . obtain⟨m,rfl⟩:∃m:Nat,i=(m:Int):=⟨i.toNat,J⟩;have D:m<l:=J
     obtain⟨j,b,rfl,R,V,k,W,X⟩:=d.o m D;have o:=O j;rw[Cy];clear d j B;generalize s m=P at *;generalize t m=Q at *;generalize x m=r at *;generalize z m=y at *;generalize N m=l1 at *;generalize A m=c1 at *;generalize K m=k at *;generalize dd m=d1 at *;go_enter Tryz.func100,Tryz.ntmps100
     go_wp2;exact BA (v:=F #[E P,C r l1 c1,E Q,C y k d1]) (by simp[results,Tryz.results100,go_sem]) rfl ⟨_,rfl,o.o.below (Ba w _),Ba w _⟩
theorem Tryz.infoRat:(Tryz.prog.info? 65).map (λi=>(i.zero,i.size,i.bytes))=some (some (F #[E false,C none 0 0,E false,C none 0 0]),4,64):=by kernel_rfl
def Ye(n:Nat):Array L:=madeCells #[E false,C none 0 0,E false,C none 0 0] (n*4)
theorem MD{n j:Nat}(b:j<n):(Ye n)[j*4]?=some (E false)/\(Ye n)[j*4+1]?=some (C none 0 0)/\(Ye n)[j*4+2]?=some (E false)/\(Ye n)[j*4+3]?=some (C none 0 0):=by
 unfold Ye madeCells;have h:∀k,k<n*4->((Array.range (n*4)).map λi=>(#[Value.bool false,Value.slice none 0 0,Value.bool false,Value.slice none 0 0]:Array L)[i%4]!)[k]?=some ((#[Value.bool false,Value.slice none 0 0,Value.bool false,Value.slice none 0 0]:Array L)[k%4]!):=λk a=>by
  rw[Array.getElem?_map,Array.getElem?_range];simp[a]
 refine⟨(h _ J).trans ?_,(h _ J).trans ?_,(h _ J).trans ?_,(h _ J).trans ?_⟩
 . rw[show j*4%4=0 from by omega];rfl
 . rw[show(j*4+1)%4=1 from by omega];rfl
 . rw[show(j*4+2)%4=2 from by omega];rfl
 . rw[show(j*4+3)%4=3 from by omega];rfl
theorem KG(n:Nat)(h:n<=2199023255552)(w:H):(Instr.makeSlice 23 (.int .i64 (n:Int)) (.int .i64 (n:Int))).run M w=.ok (C (some ⟨w.heap.size,0,none⟩) n n) (w.alloc (G (Ye n) 65)):=by
 obtain⟨i,d,b⟩:=FD.1 Tryz.infoRat;simp only[Prod.mk.injEq]at b;obtain⟨e,hs,c⟩:=b;have a:=run_make (P:=M) w 23 65 i _ Tryz.underlying23 d e .i64 .i64 n n J (Int.le_refl _) (by rw[c];omega) J;simp only[Cy,hs]at a;exact a
theorem N9(n:Nat)(w:H):Dt true (w.alloc (G (Ye n) 65)) w.heap.size (List.replicate n 0):=by
 refine⟨Ye n,BD w _,λj a=>?_⟩;rw[Au]at a;obtain⟨b,c,d,e⟩:=MD a;exact⟨_,_,_,_,b,c,d,e,by rw[JQ];exact Ee _⟩
theorem Zx(a b:Option Addr)(la ca lb cb:Nat)(ps qs:List Rat)(w:H)(x:RowK true w (C a la ca) ps)(y:RowK true w (C b lb cb) qs)(U:Sqs ps)(W:Sqs qs):
 Calls M 83 #[C a la ca,C b lb cb,.func (.func 51) #[] #[]] w λe w'=>∃v c,e=.returned v/\RowK true w' v c/\(∀j,cf c j=cf ps j-cf qs j)/\K0 w.heap.size v/\Bl w w':=by
 obtain⟨S,ae,ah,ap,_⟩:=x.forms;obtain⟨T,af,ai,aq,_⟩:=y.forms;obtain⟨n,hn⟩:∃n:Nat,max (la:Int) (lb:Int)=(n:Int):=⟨max la lb,J⟩;have az:n<=1099511627776:=J
 obtain⟨HN,HA,HB,HP,HQ,Qp,Qq⟩:=Lm (show la<=n/\lb<=n from by omega) x y U W S T;have Qo:=KG n J w;have o:=N9 n w;have s:Bl w (w.alloc (G (Ye n) 65)):=Ba w _;obtain⟨W0,P⟩:=ex (w.alloc (G (Ye n) 65));rw[P]at o s Qo;have Qr:=O o;have Qn:=O s;clear o s P x y U W S T ae ah af ai;go_enter Tryz.func83,Tryz.ntmps83
 go_wp2;go_loopw [17] (λi wr=>∃(k:Nat) (c:List Rat),k<=n/\i=.int .i64 (k:Int)/\Hid (c.length=n/\(∀j,j<k->cf c j=cf ps j-cf qs j)/\Dt true wr w.heap.size c/\Bl w wr)) λi _=>n-(intOf i).toNat
 case atStart=>exact⟨0,_,AK _,rfl,O ⟨Au,λj l=>by omega,Qr.o,Qn.o⟩⟩
 case round=>
  obtain⟨k,c,hk,rfl,d⟩:=hrel;by_cases aw:k<n
  . have ay:(k:Int)<(n:Int):=J
    have q:=O (N8 _ ps (k:Int) wr (HA.o.below d.o.2.2.2));have r:=O λ(V:H) (h:Bl wr V)=>N8 _ qs (k:Int) V ((HB.o.below d.o.2.2.2).below h);rw[BE J,Cy]at q;rw[show(if(k:Int)<0 then(0:Rat)else cf qs ((k:Int)).toNat)=cf qs k from by rw[BE J,Cy]]at r;have D:=O λ(V:H) (u v:L) (hu:Jj V u (cf ps k)) (hv:Jj V v (cf qs k))=>L6 u v (cf ps k) (cf qs k) V hu hv (HP.o.at k) (HQ.o.at k);have p:=O (show k<c.length from by have:=d.o.1;omega);go_wp2_with(first
     |(go_at_call 100;refine q.o.mono ?_;clear q;rintro e w1 ⟨u1,rfl,g,Q⟩;have m:=Q)
     |(go_at_call 100;refine(r.o _ m).mono ?_;clear r;rintro e w2 ⟨u2,rfl,X,z⟩;have g:=g.below z;have N:=Bt m z;clear m)
     |(go_at_call 51;refine(D.o _ _ _ g X).mono ?_;clear D;rintro e w3 ⟨u3,rfl,ad,R⟩;have K:=Bt N R;clear N g X Q z R;have f:=d.o.2.2.1.below K;obtain⟨x0,y0,z0,t0,k0,k1,k2,k3,_⟩:=f.at p.o;have f0:=f.frozen (k*4);have f1:=f.frozen (k*4+1);have f2:=f.frozen (k*4+2);have f3:=f.frozen (k*4+3);obtain⟨bg,aj,bf,am,bh,ak,bc,an,rfl⟩:=Jj.form ad))
    go_roundw
    case rel=>
     refine⟨k+1,c.set k (cf ps k-cf qs k),J,by go_num,O ⟨by rw[Cs];exact d.o.1,λj l=>?_,f.set p.o ad,QN (Bt d.o.2.2.2 K) (Aa _) _ _ _ _⟩⟩;rw[XG _ _ _ _ p.o];by_cases A:j=k
     . rw[BG A,A]
     . rw[BE A];exact d.o.2.1 j J
    case measure=>simp[intOf];omega
  . have Qm:k=n:=J
    subst Qm;go_wp2;go_ret;have t:=d.o;have B:=t.2.2.1.row (n:=k) (cap:=k) J (Aa _) J J;rw[Ac J]at B;refine⟨_,c,rfl,B,λj=>?_,λa' l' c' e=>by cases e;exact Aa _,t.2.2.2⟩;rcases AO j k with l|l
    . exact t.2.1 j l
    . have:=HN.o;have h1:=Qp.o;have h2:=Qq.o;rw[J1 J,J1 J,J1 J];grind
theorem RB(x y:L)(ps qs:List Rat)(w:H)(f:Jf w x ps)(g:Jf w y qs)(r:Sqs ps)(s:Sqs qs)(t:Sqs (JP ps qs)):
 Calls M 48 #[x,y] w λe z=>∃u,e=.returned u/\Jf z u (JP ps qs)/\MC w.heap.size u/\Bl w z:=by
 obtain⟨u,rfl,f⟩:=f;obtain⟨v,rfl,g⟩:=g;obtain⟨a,la,ca,rfl⟩:=f.form;obtain⟨b,lb,cb,rfl⟩:=g.form;obtain⟨W0,d⟩:=ex (((w.alloc (G #[C a la ca] 25)).alloc (G #[C b lb cb] 25)).alloc (G #[C none 0 0] 25));have b0:Boxed W0 w.heap.size 25 (C a la ca):=by rw[<-d];exact((BM w _ _).alloc _).alloc _
 have P:Boxed W0 (w.heap.size+1) 25 (C b lb cb):=by rw[<-d];have:=(BM (w.alloc (G #[C a la ca] 25)) 25 (C b lb cb)).alloc (G #[C none 0 0] 25);simpa using this
 have Q:Boxed W0 (w.heap.size+1+1) 25 (C none 0 0):=by rw[<-d];have:=BM ((w.alloc (G #[C a la ca] 25)).alloc (G #[C b lb cb] 25)) 25 (C none 0 0);simpa using this
 have k:Bl w W0:=by rw[<-d];exact((Ba w _).alloc Y _).alloc si _
 obtain⟨o,q,K,D⟩:=D0 (Zx a b la ca lb cb ps qs W0 (f.below k) (g.below k) r s) (λ(V:H) (v:L) (c:List Rat) (h:RowK true V v c) (hs:Sqs c)=>Hs v c V h hs) t d;have k0:=b0.cell;have k1:=P.cell;clear d f g r s t;go_enter Tryz.func48,Tryz.ntmps48
 go_upto_region 1 with fail
 rw[D.o];go_wp2_with(first
  |(go_at_call 83;refine o.o.mono ?_;clear o;rintro e w1 ⟨v1,c,rfl,ad,n,W,T⟩;have B:Sqs c:=Sqs.of (λi=>by rw[n i,<-Kg];exact K.o.at i);have A:=O n;clear n)
  |(go_at_call 27;refine(q.o _ _ c ad B).mono ?_;clear q;rintro e w2 ⟨u2,rfl,m,X,U⟩;obtain⟨N,l9,R,rfl⟩:=m.form;have hq:=Bt T U;have l:=boxed_below Q hq;have k2:=l.cell;have f2:=l.frozen))
 have S:Jd c=JP ps qs:=by
  rw[<-XQ];exact YH λj=>by rw[A.o j,Kg]
 rw[S]at m;refine BA (v:=F #[C N l9 R]) (by simp[results,Tryz.results48,go_sem,k2]) rfl ⟨_,rfl,⟨_,rfl,FZ l _ m.row⟩,?_,(Bt k hq).setCell (p:=⟨w.heap.size+1+1,0,none⟩) si _⟩;intro a' l' c' e;have:=X W0.heap.size W a' l' c' e;have h2:=k.size;omega
