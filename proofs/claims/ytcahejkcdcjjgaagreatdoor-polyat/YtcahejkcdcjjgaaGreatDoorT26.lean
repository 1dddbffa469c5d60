import Derived.Test.YtcahejkcdcjjgaaGreatDoorT22
import Derived.Test.YtcahejkcdcjjgaaGreatDoorT24
import Derived.Deep.RegionHeld3
open Go.Value renaming slice->C,bool->E,pointer->G,agg->L
open Go.Obj renaming cells->F
open Go renaming World->H,Value->J
open Go.Proofs.Tryz renaming prog->I
set_option maxRecDepth 100000
set_option maxHeartbeats 16000000
namespace Go.Proofs.YtcahejkcdcjjgaaGreatDoor
open Go.RowKit Go.Shelf
attribute [local go_sem] Oper.semAt_some
variable{x y:Int}{p q:Rat}{W:H}
theorem Id(M D:J)(x y:Int)(w:H)(Z:Jk w M x)(U:Jk w D y)(B:(Jc DN x.natAbs).length<1000000000000)(Q:(Jc DN y.natAbs).length<1000000000000):
 Calls I 83 #[M,D] w λe j=>∃u,e=.returned u/\Jk j u (Int.gcd x y:Nat)/\Bl w j:=by
 obtain⟨a,d,i,r,f⟩:=Z;cases r;obtain⟨b,lb,g,r,m⟩:=U;cases r;have P:=f.len;have z:=m.len;obtain⟨s,hs⟩:=ex (decide (x<0));obtain⟨t,O⟩:=ex (decide (y<0));rw[hs,O];obtain⟨W0,c⟩:=ex (((w.alloc (F #[E s,C a d i] 36)).alloc (F #[E t,C b lb g] 36)).alloc (F #[E false,C none 0 0] 36));have q:Bl w W0:=by rw[<-c];exact Y6 w _ _ _
 have b0:Jj W0 w.heap.size 36 (E s) (C a d i):=by rw[<-c];exact((Jj.new w _ _ _).alloc _).alloc _
 have b1:Jj W0 (w.heap.size+1) 36 (E t) (C b lb g):=by
  have h:=(Jj.new (w.alloc (F #[E s,C a d i] 36)) 36 (E t) (C b lb g)).alloc (F #[E false,C none 0 0] 36);rw[A1,c]at h;exact h
 have o:Jj W0 (w.heap.size+1+1) 36 (E false) (C none 0 0):=by
  have h:=Jj.new ((w.alloc (F #[E s,C a d i] 36)).alloc (F #[E t,C b lb g] 36)) 36 (E false) (C none 0 0);rw[A1,A1,c]at h;exact h
 have HT:=Ja (Tj a d i b lb g _ _ W0 (UN.below f q) (UN.below m q) (by rw[P];exact B) (by rw[z];exact Q));have HS:=Ja (λ(V:H) (u:J) (f:UN V u (Nat.gcd x.natAbs y.natAbs))=>show Calls I 112 #[E false,u] V λe j=>∃u,e=.returned u/\Jk j u (Int.gcd x y:Nat)/\Bl V j from Hf false u _ V f);have k1:=b0.c1;have k3:=b1.c1;have Qf:=Ja c;clear f m hs O P z B Q c;go_enter Tryz.func83,Tryz.ntmps83
 go_upto_region 1 with fail
 rw[Qf.o];have ae:¬(w.heap.size=w.heap.size+1+1):=om
 go_wp2_with(first
  |(go_at_call 116;refine HT.o.mono ?_;rintro e w1 ⟨u1,rfl,K,ad⟩;obtain⟨na,nc,rfl⟩:=UN.form K)
  |(go_at_call 112;refine(HS.o _ _ K).mono ?_;rintro e w2 ⟨u2,rfl,n,Y⟩;obtain⟨R,S,N,rfl⟩:=n.form;obtain⟨A,l⟩:=ex (decide (((Int.gcd x y:Nat):Int)<0));rw[l]at n;rw[l];clear l;have k:=Bt ad Y;obtain⟨r0,X⟩:=(o.below k).cp;obtain⟨f0,f1⟩:=(o.below k).fp))
 have W:=Bt q k;have T:=n.box (o.below k) rfl rfl (x0:=E A) (x1:=C R S N);exact BA (v:=L #[E A,C R S N]) (by simp[results,Tryz.results83,go_sem,r0,X]) rfl ⟨_,rfl,T,(W.setCell (p:=⟨_,0,none⟩) so _).setCell (p:=⟨_,1,none⟩) so _⟩
theorem Og(w:H)(c a d b:Obj):Bl w ((((w.alloc c).alloc a).alloc d).alloc b):=
 (((Ba w _).alloc DO _).alloc si _).alloc si _
theorem Oh{z r:Int}(f:y≠0)(h:r+y*z=x)(d:0<=r)(g:r<y.natAbs):z=x/y/\r=x%y:=by
 rcases Int.lt_or_gt_of_ne f with i|e
 . have c:=(Int.ediv_emod_unique (a:=x) (b:=-y) (r:=r) (q:=-z) om).2 ⟨by rw[Int.neg_mul_neg];exact h,d,om⟩;rw[Int.ediv_neg,Int.emod_neg]at c;exact⟨om,c.2.symm⟩
 . have c:=(Int.ediv_emod_unique (a:=x) (b:=y) (r:=r) (q:=z) e).2 ⟨h,d,om⟩;exact⟨c.1.symm,c.2.symm⟩
theorem Oi(j:y≠0)(f:¬(x<0/\x.natAbs%y.natAbs≠0)):
 (if(!(decide (x<0)==decide (y<0)))=true then -((x.natAbs/y.natAbs:Nat):Int)else((x.natAbs/y.natAbs:Nat):Int))=x/y/\((x.natAbs%y.natAbs:Nat):Int)=x%y:=by
 have g:=Cb x.natAbs y.natAbs;have k:=A9 x.natAbs (show y.natAbs>0 by omega);generalize x.natAbs/y.natAbs=Q at *;generalize x.natAbs%y.natAbs=R at *;have e:(y.natAbs:Int)*Q+R=x.natAbs:=by rw[<-g];push_cast;rfl
 apply Oh j _ om om;by_cases c:x<0<;>by_cases d:y<0
 . have i:R=0:=by
    rcases AQ R with h|h
    . exact h
    . exact absurd ⟨c,om⟩ f
   have a:(y.natAbs:Int)=-y:=om
   have b:(x.natAbs:Int)=-x:=om
   rw[a,b,Int.neg_mul]at e;simp[c,d];omega
 . have i:R=0:=by
    rcases AQ R with h|h
    . exact h
    . exact absurd ⟨c,om⟩ f
   have a:(y.natAbs:Int)=y:=om
   have b:(x.natAbs:Int)=-x:=om
   rw[a,b]at e;simp[c,d,Int.mul_neg];omega
 . have a:(y.natAbs:Int)=-y:=om
   have b:(x.natAbs:Int)=x:=om
   rw[a,b,Int.neg_mul]at e;simp[c,d,Int.mul_neg];omega
 . have a:(y.natAbs:Int)=y:=om
   have b:(x.natAbs:Int)=x:=om
   rw[a,b]at e;simp[c,d];omega
theorem Oj(j:y≠0)(g:x<0/\x.natAbs%y.natAbs≠0):
 (if(!(decide (x<0)==decide (y<0)))=true then -((x.natAbs/y.natAbs+1:Nat):Int)else((x.natAbs/y.natAbs+1:Nat):Int))=x/y/\((y.natAbs-x.natAbs%y.natAbs:Nat):Int)=x%y:=by
 have i:=Cb x.natAbs y.natAbs;have l:=A9 x.natAbs (show y.natAbs>0 by omega);generalize x.natAbs/y.natAbs=Q at *;generalize x.natAbs%y.natAbs=R at *;have d:(y.natAbs:Int)*Q+R=x.natAbs:=by rw[<-i];push_cast;rfl
 obtain⟨e,k⟩:=g;apply Oh j _ om om;have f:(x.natAbs:Int)=-x:=om
 by_cases c:y<0
 . have a:(y.natAbs:Int)=-y:=om
   have b:((y.natAbs-R:Nat):Int)=-y-R:=om
   rw[a,f,Int.neg_mul]at d;rw[b];simp[e,c,Int.mul_add];omega
 . have a:(y.natAbs:Int)=y:=om
   have b:((y.natAbs-R:Nat):Int)=y-R:=om
   rw[a,f]at d;rw[b];simp[e,c,Int.mul_neg,Int.mul_add];omega
theorem Kf{B:Nat}{t:TypeId}{d c u0 u1:J}(x0 x1 a b:J)(h:Jj W B t d c)(k:Jj W (B+1) t u0 u1):
 Jj ((((W.setCell ⟨B,0,none⟩ x0).setCell ⟨B,1,none⟩ x1).setCell ⟨B+1,0,none⟩ a).setCell ⟨B+1,1,none⟩ b) B t x0 x1/\Jj ((((W.setCell ⟨B,0,none⟩ x0).setCell ⟨B,1,none⟩ x1).setCell ⟨B+1,0,none⟩ a).setCell ⟨B+1,1,none⟩ b) (B+1) t a b:=
 ⟨(((h.set0 x0).set1 x1).far DO a).far DO b,(((k.far DO x0).far DO x1).set0 a).set1 b⟩
theorem UG(w:H)(d e c f:J)(b a:J):
 Jj ((((w.alloc (F #[d,e] 36)).alloc (F #[c,f] 36)).alloc (F #[b,a] 36)).alloc (F #[b,a] 36)) w.heap.size 36 d e/\
 Jj ((((w.alloc (F #[d,e] 36)).alloc (F #[c,f] 36)).alloc (F #[b,a] 36)).alloc (F #[b,a] 36)) (w.heap.size+1) 36 c f/\
 Jj ((((w.alloc (F #[d,e] 36)).alloc (F #[c,f] 36)).alloc (F #[b,a] 36)).alloc (F #[b,a] 36)) (w.heap.size+1+1) 36 b a/\
 Jj ((((w.alloc (F #[d,e] 36)).alloc (F #[c,f] 36)).alloc (F #[b,a] 36)).alloc (F #[b,a] 36)) (w.heap.size+1+1+1) 36 b a:=by
 refine⟨(((Jj.new w _ _ _).alloc _).alloc _).alloc _,?_,?_,?_⟩
 . have h:=((Jj.new (w.alloc (F #[d,e] 36)) 36 c f).alloc (F #[b,a] 36)).alloc (F #[b,a] 36);rw[A1]at h;exact h
 . have h:=(Jj.new ((w.alloc (F #[d,e] 36)).alloc (F #[c,f] 36)) 36 b a).alloc (F #[b,a] 36);rw[A1,A1]at h;exact h
 . have h:=Jj.new (((w.alloc (F #[d,e] 36)).alloc (F #[c,f] 36)).alloc (F #[b,a] 36)) 36 b a;rw[A1,A1,A1]at h;exact h
theorem UH(a:Option Addr)(i l:Nat)(b:Option Addr)(lb j X c:Nat)(s t:Bool)(z r:Int)(w:H)(hu:UN w (C a i l) X)(hv:UN w (C b lb j) c)(hY:c≠0)(bh:i<1000000000000)(bf:lb<1000000000000)
(HP:Hid (¬(s=true/\X%c≠0)->(if(!(s==t))=true then -((X/c:Nat):Int)else((X/c:Nat):Int))=z/\((X%c:Nat):Int)=r))
(HN:Hid (s=true/\X%c≠0->(if(!(s==t))=true then -((X/c+1:Nat):Int)else((X/c+1:Nat):Int))=z/\((c-X%c:Nat):Int)=r)):
 Calls I 117 #[L #[E s,C a i l],L #[E t,C b lb j]] w λe d=>∃q o,e=.returned (.tuple #[q,o,E true])/\Jk d q z/\Jk d o r/\Bl w d:=by
 obtain⟨b0,S,b4,b5⟩:=UG w (E s) (C a i l) (E t) (C b lb j) (E false) (C none 0 0);have Qb:=Og w (F #[E s,C a i l] 36) (F #[E t,C b lb j] 36) (F #[E false,C none 0 0] 36) (F #[E false,C none 0 0] 36);obtain⟨W0,ah⟩:=ex ((((w.alloc (F #[E s,C a i l] 36)).alloc (F #[E t,C b lb j] 36)).alloc (F #[E false,C none 0 0] 36)).alloc (F #[E false,C none 0 0] 36));rw[ah]at b0 S b4 b5 Qb;have Qj:=Ja ah;have bi:lb≠0:=λe=>hY ((JB Je).1 (Am (by rw[<-UN.len hv,e])));have Qi:=UN.below hu Qb;have Qg:=UN.below hv Qb;have Qo:=Ja (L8 a i l b lb j X c W0 Qi Qg hY om);have Qq:=Ja Qg;have Qu:=Ja (UN.len hu).symm;obtain⟨k0,k1⟩:=b0.cp;obtain⟨k2,K⟩:=S.cp;clear ah hu hv Qi Qg;go_enter Tryz.func117,Tryz.ntmps117
 go_upto_region 1 with fail
 rw[Qj.o];go_upto_region 4 with(go_at_call 151;refine Qo.o.mono ?_;rintro e w1 ⟨u1,v1,rfl,M,ae,x⟩;obtain⟨ua,uc,rfl⟩:=UN.form M;obtain⟨va,vc,rfl⟩:=UN.form ae)
 clear Qo Qj;obtain⟨k0,k1⟩:=(b0.below x).cp;obtain⟨k2,K⟩:=(S.below x).cp;have Qe:(Jc DN (X%c)).length=0↔X%c=0:=⟨λh=>(JB Je).1 (Am h),λh=>by rw[h,Jy];rfl⟩;have bj:=A9 X (show c>0 by omega);have bg:=YZ (m:=X) (n:=X/c) (C6 _ _);have Qp:(Jc DN (X/c)).length<1099511627776:=by
  have g:=(Js M).2.2.2.1;have:(Jc DN X).length=i:=by
   have h:=Qu.o;omega
  omega
 obtain⟨lr,aw⟩:=ex ((Jc DN (X%c)).length);obtain⟨lq,ap⟩:=ex ((Jc DN (X/c)).length);rw[aw]at ae Qe ⊢;rw[ap]at M Qp ⊢;obtain⟨B,bc⟩:=ex ((s&&decide (0<lr)):Bool);have D:=Ja bc;have Qk:=Ja Qe;clear bc Qe aw ap;go_cut [29] (λv P=>v=E B/\P=w1)
 case first=>
  cases s with
  |false=>
   have O:B=false:=by rw[<-D.o];rfl
   go_wp2_with fail
   go_meet
   case rel=>exact⟨by rw[O],rfl⟩
  |true=>
   by_cases h5:0<lr
   . have O:B=true:=by rw[<-D.o];simp;omega
     go_wp2_with fail
     go_meet
     case rel=>exact⟨by rw[O],rfl⟩
   . have O:B=false:=by rw[<-D.o];simp;omega
     go_wp2_with fail
     go_meet
     case rel=>exact⟨by rw[O],rfl⟩
 case rest=>
  obtain⟨rfl,rfl⟩:=hcut;go_upto_if 29 with fail
  go_cut [7,8] (λqv rv P=>∃(qa:Option Addr) (U W Q:Nat) (oa:Option Addr) (ol oc R:Nat),qv=C qa U W/\rv=C oa ol oc/\Hid (UN P (C qa U W) Q)/\Hid (UN P (C oa ol oc) R)/\Hid ((if(!(s==t))=true then -(Q:Int)else(Q:Int))=z/\(R:Int)=r)/\Bl W0 P)
  case first=>
   cases B with
   |false=>
    have Z:¬(s=true/\X%c≠0):=λ⟨g,h2⟩=>by
     have h:=D.o;rw[g]at h;simp at h;exact h2 (Qk.o.1 h)
    go_wp2_with fail
    go_meet
    case rel=>exact⟨_,_,_,_,_,_,_,_,rfl,rfl,Ja M,Ja ae,Ja (HP.o Z),x⟩
   |true=>
    have Z:s=true/\X%c≠0:=by
     have h:=D.o;simp at h;exact⟨h.1,λe=>by have:=Qk.o.2 e;omega⟩
    have HC:=Ja Z;clear Z;have Qv:=Ja (show ∀V:H,Bl wc V->Calls I 113 #[C ua lq uc,C (some ⟨V.heap.size,0,none⟩) 1 1] (V.alloc (F #[.int .u64 1] 163)) λe d=>∃u,e=.returned u/\UN d u (X/c+1)/\Below (V.alloc (F #[.int .u64 1] 163)).heap.size (V.alloc (F #[.int .u64 1] 163)) d from λV h=>by
     have Qd:Row .u64 (V.alloc (F #[.int .u64 1] 163)) (C (some ⟨V.heap.size,0,none⟩) 1 1) (Jc DN 1):=by
      rw[L9 om uo];exact(DU.made (xs:=[1]) (BC V (F #[.int .u64 ((1:Nat):Int)] 163))).row 0 1 1 DO om om om
     exact Nm ua lq uc (some ⟨V.heap.size,0,none⟩) 1 1 (X/c) 1 _ (Row.below (Row.below M h) (Ba V _)) Qd Qp om)
    have Qr:=Ja (λ(V:H) (h:Bl wc V)=>Lp b lb j va lr vc c (X%c) V (Row.below (Row.below Qq.o x) h) (Row.below ae h) om);have f:Bl wc wc.drew:=(BB _ wc).drew;have bx:=S.below x;have lx:=bx.lt;go_wp2_with fail
    have K:=bx.c1;go_region_held3 (λd=>d.cell? ⟨w.heap.size+1,1,none⟩=some (C b lb j)) (first|exact K|(go_keep;done))
     (first
      |(go_at_call 113;refine(Qv.o _ f).mono ?_;rintro e w3 ⟨u3,rfl,ay,bd⟩;obtain⟨pa,pc,rfl⟩:=UN.form ay;have f:=OP f bd;have K:=(bx.below f).c1)
      |(go_at_call 115;refine(Qr.o _ f).mono ?_;rintro e w4 ⟨u4,rfl,av,az⟩;obtain⟨ma,mc,rfl⟩:=UN.form av;have f:=Bt f az;have K:=(bx.below f).c1))
    all_goals go_wp2_with fail
    go_meet
    case rel=>exact⟨_,_,_,_,_,_,_,_,rfl,rfl,Ja (UN.below ay az),Ja av,Ja (HN.o HC.o),Bt x f⟩
  case rest=>
   obtain⟨qa,U,W,Q,oa,ol,oc,R,rfl,rfl,hQ,hR,hZ,ad⟩:=hcut;have Ql:=Ja (show ∀V:H,Bl wc V->Calls I 112 #[E (!(s==t)),C qa U W] V λe d=>∃u,e=.returned u/\Jk d u z/\Bl V d from λV h=>by
    have g:=Hf (!(s==t)) _ _ V (UN.below hQ.o h);rw[hZ.o.1]at g;exact g)
   have Qm:=Ja (show ∀V:H,Bl wc V->Calls I 112 #[E false,C oa ol oc] V λe d=>∃u,e=.returned u/\Jk d u r/\Bl V d from λV h=>by
    have g:=Hf false _ _ V (UN.below hR.o h);simp only[Ca,if_false]at g;rw[hZ.o.2]at g;exact g)
   have k0:=(b0.below ad).c0;have k2:=(S.below ad).c0;go_wp2_with(first
    |(go_at_call 112;refine(Ql.o _ (BB _ _)).mono ?_;clear Ql;rintro e w5 ⟨u5,rfl,ai,an⟩;obtain⟨N,A,c5,rfl⟩:=ai.form;obtain⟨y,aj⟩:=ex (decide (z<0));rw[aj]at ai;rw[aj];clear aj)
    |(go_at_call 112;refine(Qm.o _ an).mono ?_;clear Qm;rintro e w6 ⟨u6,rfl,af,aq⟩;obtain⟨a6,Y,c6,rfl⟩:=af.form;obtain⟨T,ak⟩:=ex (decide (r<0));rw[ak]at af;rw[ak];clear ak;have k:=(Bt ad an).trans (aq.mono (Bt ad an).size);obtain⟨q0,q1⟩:=(b4.below k).cp;obtain⟨q2,q3⟩:=(b5.below k).cp;obtain⟨f0,f1⟩:=(b4.below k).fp;obtain⟨f2,f3⟩:=(b5.below k).fp))
   have Qf:=b4.below k;have Qn:=b5.below k;obtain⟨z4,z5⟩:=Kf (E y) (C N A c5) (E T) (C a6 Y c6) Qf Qn;obtain⟨Qx,Qs⟩:=z4.cp;obtain⟨Qy,Qt⟩:=z5.cp;have Qh:Jj ((w6.setCell ⟨w.heap.size+1+1,0,none⟩ (E y)).setCell ⟨w.heap.size+1+1,1,none⟩ (C N A c5)) (w.heap.size+1+1+1) 36 (E false) (C none 0 0):=(Qn.far DO _).far DO _;have Qw:=((ai.below aq).box Qf rfl rfl (x0:=E y) (x1:=C N A c5)).box Qh rfl rfl (x0:=E T) (x1:=C a6 Y c6);have Ua:=(af.box Qf rfl rfl (x0:=E y) (x1:=C N A c5)).box Qh rfl rfl (x0:=E T) (x1:=C a6 Y c6);have Qz:=Bt Qb k;exact BA (v:=.tuple #[L #[E y,C N A c5],L #[E T,C a6 Y c6],E true]) (by simp[results,Tryz.results117,go_sem,Qx,Qs,Qy,Qt]) rfl ⟨_,_,rfl,Qw,Ua,(((Qz.setCell (p:=⟨_,0,none⟩) so _).setCell (p:=⟨_,1,none⟩) so _).setCell (p:=⟨_,0,none⟩) so _).setCell (p:=⟨_,1,none⟩) so _⟩
theorem UI(g i:J)(x y:Int)(w:H)(t:Jk w g x)(p:Jk w i y)(k:y≠0)(r:(Jc DN x.natAbs).length<1000000000000)(m:(Jc DN y.natAbs).length<1000000000000):
 Calls I 117 #[g,i] w λe d=>∃q o,e=.returned (.tuple #[q,o,E true])/\Jk d q (x/y)/\Jk d o (x%y)/\Bl w d:=by
 obtain⟨a,s,l,rfl,f⟩:=t;obtain⟨b,lb,n,rfl,j⟩:=p;refine UH a s l b lb n x.natAbs y.natAbs _ _ (x/y) (x%y) w f j om (by rw[UN.len f];exact r) (by rw[UN.len j];exact m) (λc=>Oi k (λh=>c ⟨BJ h.1,h.2⟩)) (λc=>Oj k ⟨Bg c.1,c.2⟩)
theorem UJ(z:Int):(EJ z 0=0)↔z=0:=by
 unfold EJ;split<;>(try split)<;>omega
theorem Ok(v:J)(z:Int)(w:H)(h:Jk w v z):
 Calls I 100 #[v] w λe k=>e=.returned (E (decide (z=0)))/\Bl w k:=by
 obtain⟨a,l,c,rfl⟩:=h.form;obtain⟨s,hs⟩:=ex (decide (z<0));rw[hs]at h ⊢;clear hs;have b0:=Jj.new w 36 (E s) (C a l c);have b:Bl w (w.alloc (F #[E s,C a l c] 36)):=Ba w _;obtain⟨W0,d⟩:=ex (w.alloc (F #[E s,C a l c] 36));rw[d]at b0 b;have j:=Ja d;have i:=Ja (Gd _ _ z 0 W0 (h.below b) (EK _));obtain⟨o,p⟩:=b0.cp;have f:=Ja (UJ z);obtain⟨n,g⟩:=ex (EJ z 0);rw[g]at i f;clear d g;go_enter Tryz.func100,Tryz.ntmps100
 go_upto_region 1 with fail
 rw[j.o];go_wp2_with(go_at_call 87;refine i.o.mono ?_;rintro e q ⟨rfl,m⟩)
 go_ret;refine⟨?_,Bt b m⟩;show Ending.returned (Value.bool (n==0))=_;have e:(n==0)=decide (z=0):=by rw[Cn];simp[f.o]
 rw[e]
def dd(y:Int):Int:=if y=0 then 1 else y
theorem Ol(v:J)(x y:Int)(w:H)(h:XA w v x y):
 Calls I 59 #[v] w λe p=>e=.returned (E (decide (y=0)))/\Bl w p:=by
 obtain⟨s,a,l,c,t,b,k,d,rfl,A,o⟩:=h;have b0:=JE.new w 38 (E s) (C a l c) (E t) (C b k d);have f:Bl w (w.alloc (F #[E s,C a l c,E t,C b k d] 38)):=Ba w _;obtain⟨W0,g⟩:=ex (w.alloc (F #[E s,C a l c,E t,C b k d] 38));rw[g]at b0 f;have m:=Ja g;have j:=Ja (Ok _ _ W0 (o.below f));have r:=b0.c2;have z:=b0.c3;obtain⟨n,i⟩:=ex (decide (y=0));rw[i]at j ⊢;clear g i;go_enter Tryz.func59,Tryz.ntmps59
 go_upto_region 1 with fail
 rw[m.o];go_wp2_with(go_at_call 100;refine j.o.mono ?_;rintro e u ⟨rfl,q⟩)
 go_ret;exact⟨rfl,Bt f q⟩
theorem UK(v:J)(x y:Int)(w:H)(h:XA w v x y):
 Calls I 82 #[v] w λe S=>∃u,e=.returned u/\Jk S u (dd y)/\Bl w S:=by
 have Q:=h;obtain⟨s,a,l,c,t,b,k,d,rfl,V,N⟩:=h;obtain⟨W0,j⟩:=ex ((w.alloc (F #[E s,C a l c,E t,C b k d] 38)).alloc (F #[E false,C none 0 0] 36));have b0:JE W0 w.heap.size 38 (E s) (C a l c) (E t) (C b k d):=by rw[<-j];exact(JE.new w _ _ _ _ _).alloc _
 have m:Bl w W0:=by rw[<-j];exact Lx w _ _
 have i:Jj W0 (w.heap.size+1) 36 (E false) (C none 0 0):=by
  have h:=Jj.new (w.alloc (F #[E s,C a l c,E t,C b k d] 38)) 36 (E false) (C none 0 0);rw[A1,j]at h;exact h
 have n:=Ja (Ol _ x y W0 (Q.below m));have D:=Ja j;obtain⟨k0,Z,Y,k3⟩:=b0.cq;have W:=Ja (N.below m);clear Q V N j;by_cases f:y=0
 . rw[BJ f]at n;have o:=Ja (show dd y=1 by unfold dd;rw[BI f]);clear f;go_enter Tryz.func82,Tryz.ntmps82
   go_upto_region 1 with fail
   rw[D.o];go_wp2_with(first
    |(go_at_call 59;refine n.o.mono ?_;rintro e T ⟨rfl,g⟩)
    |(go_at_call 110;refine(KZ 1 om om _).mono ?_;rintro e w2 ⟨u2,rfl,A,U⟩;obtain⟨P,R,M,rfl⟩:=A.form;obtain⟨K,z⟩:=ex (decide ((1:Int)<0));rw[z]at A;rw[z];clear z;have f:=Bt g U;obtain⟨r0,q⟩:=(i.below f).cp;obtain⟨f0,f1⟩:=(i.below f).fp))
   have r:=Bt m f;have B:=A.box (i.below f) rfl rfl (x0:=E K) (x1:=C P R M);exact BA (v:=L #[E K,C P R M]) (by simp[results,Tryz.results82,go_sem,r0,q]) rfl ⟨_,rfl,by rw[o.o];exact B,(r.setCell (p:=⟨_,0,none⟩) so _).setCell (p:=⟨_,1,none⟩) so _⟩
 . rw[BF f]at n;have o:=Ja (show y=dd y by unfold dd;rw[BE f]);clear f;go_enter Tryz.func82,Tryz.ntmps82
   go_upto_region 1 with fail
   rw[D.o];go_wp2_with(go_at_call 59;refine n.o.mono ?_;rintro e T ⟨rfl,g⟩;have X:=(b0.below g).c2;have m3:=(b0.below g).c3;obtain⟨r0,q⟩:=(i.below g).cp;obtain⟨f0,f1⟩:=(i.below g).fp)
   have r:=Bt m g;have O:=W.o.below g;rw[o.o]at O;have B:=O.box (i.below g) rfl rfl (x0:=E t) (x1:=C b k d);exact BA (v:=L #[E t,C b k d]) (by simp[results,Tryz.results82,go_sem,r0,q]) rfl ⟨_,rfl,B,(r.setCell (p:=⟨_,0,none⟩) so _).setCell (p:=⟨_,1,none⟩) so _⟩
theorem UL(q:Rat):dd (denZ q)=q.den:=by
 have:=q.den_pos;unfold dd denZ;split<;>(try split at *)<;>omega
theorem Xr(v:J)(q:Rat)(w:H)(h:Ji w v q):
 Calls I 59 #[v] w λe b=>e=.returned (E (decide (q.den=1)))/\Bl w b:=by
 have a:=Ol v q.num (denZ q) w h.pair;rwa[decide_eq_decide.2 KO]at a
theorem FO(v:J)(q:Rat)(w:H)(h:Ji w v q):
 Calls I 82 #[v] w λe a=>∃u,e=.returned u/\Jk a u (q.den:Int)/\Bl w a:=by
 have b:=UK v q.num (denZ q) w h.pair;rwa[UL]at b
theorem X3(P M:J)(x y:Int)(w:H)(o:Jk w P x)(i:Jk w M y)(T:y≠0)(N:DZ x)(O:DZ y):
 Calls I 84 #[P,M] w λe S=>∃u,e=.returned u/\Jk S u (x/y)/\Bl w S:=by
 obtain⟨a,l,q,rfl⟩:=o.form;obtain⟨b,lb,n,rfl⟩:=i.form;obtain⟨s,hs⟩:=ex (decide (x<0));obtain⟨t,Q⟩:=ex (decide (y<0));rw[hs]at o ⊢;rw[Q]at i ⊢;clear hs Q;obtain⟨W0,d⟩:=ex (((w.alloc (F #[E s,C a l q] 36)).alloc (F #[E t,C b lb n] 36)).alloc (F #[E false,C none 0 0] 36));have r:Bl w W0:=by rw[<-d];exact Y6 w _ _ _
 have b0:Jj W0 w.heap.size 36 (E s) (C a l q):=by rw[<-d];exact((Jj.new w _ _ _).alloc _).alloc _
 have b1:Jj W0 (w.heap.size+1) 36 (E t) (C b lb n):=by
  have h:=(Jj.new (w.alloc (F #[E s,C a l q] 36)) 36 (E t) (C b lb n)).alloc (F #[E false,C none 0 0] 36);rw[A1,d]at h;exact h
 have bR:Jj W0 (w.heap.size+1+1) 36 (E false) (C none 0 0):=by
  have h:=Jj.new ((w.alloc (F #[E s,C a l q] 36)).alloc (F #[E t,C b lb n] 36)) 36 (E false) (C none 0 0);rw[A1,A1,d]at h;exact h
 have HS:=Ja (UI _ _ x y W0 (o.below r) (i.below r) T (by have:=N.words;omega) (by have:=O.words;omega));have V:=Ja d;obtain⟨k0,k1⟩:=b0.cp;obtain⟨k2,k3⟩:=b1.cp;clear o i T N O d;go_enter Tryz.func84,Tryz.ntmps84
 go_upto_region 1 with fail
 rw[V.o];go_upto_region 2 with(go_at_call 117;refine HS.o.mono ?_;rintro e A ⟨u1,u2,rfl,z,R,U⟩;obtain⟨c,f,c1,rfl⟩:=z.form;obtain⟨g,K⟩:=ex (decide (x/y<0));rw[K]at z;rw[K];clear K;obtain⟨k,m,c2,rfl⟩:=R.form;obtain⟨j,B⟩:=ex (decide (x%y<0));rw[B]at R;rw[B];clear B)
 have X:=(Jj.new A 36 (E g) (C c f c1)).alloc (F #[E j,C k m c2] 36);have D:=((bR.below U).alloc (F #[E g,C c f c1] 36)).alloc (F #[E j,C k m c2] 36);have Z:=(z.alloc (F #[E g,C c f c1] 36)).alloc (F #[E j,C k m c2] 36);have Y:Bl w ((A.alloc (F #[E g,C c f c1] 36)).alloc (F #[E j,C k m c2] 36)):=Bt (Bt r U) (Lx A _ _)
 obtain⟨q0,q1⟩:=X.cp;obtain⟨r0,W⟩:=D.cp;obtain⟨f0,f1⟩:=D.fp;go_wp2_with fail
 have Qa:=Z.box D rfl rfl (x0:=E g) (x1:=C c f c1);exact BA (v:=L #[E g,C c f c1]) (by simp[results,Tryz.results84,go_sem,r0,W]) rfl ⟨_,rfl,Qa,(Y.setCell (p:=⟨_,0,none⟩) so _).setCell (p:=⟨_,1,none⟩) so _⟩
theorem MF(w:H)(s t:Bool)(a b:Option Addr)(d c lb e:Nat)(x y:Int)(f:Jk w (L #[E s,C a d c]) x)(g:Jk w (L #[E t,C b lb e]) y):
 Mem w (((w.alloc (F #[E s,C a d c] 36)).alloc (F #[E t,C b lb e] 36)).alloc (F #[E false,C none 0 0,E false,C none 0 0] 38)) [some (w.heap.size,.int x),some (w.heap.size+1,.int y),some (w.heap.size+1+1,.rat 0)]:=by
 have h:=(((Mem.nil w).push (.int x) f).push (.int y) (g.alloc _)).push (.rat 0) (EO _);rw[A1,A1,A1]at h;exact h
theorem Ji.mk{s t:Bool}{a b:Option Addr}{l c k d:Nat}(f:Jk W (L #[E s,C a l c]) q.num)(e:Jk W (L #[E t,C b k d]) (denZ q)):Ji W (L #[E s,C a l c,E t,C b k d]) q:=⟨_,_,_,_,_,_,_,_,rfl,f,e⟩
theorem Kg(Q M:J)(q:Rat)(w:H)(l:Jk w Q q.num)(i:Jk w M (q.den:Int)):
 Calls I 86 #[Q,M] w λe m=>∃u,e=.returned u/\Ji m u q/\Bl w m:=by
 obtain⟨a,d,f,rfl⟩:=l.form;obtain⟨b,lb,g,rfl⟩:=i.form;obtain⟨s,hs⟩:=ex (decide (q.num<0));obtain⟨t,R⟩:=ex (decide ((q.den:Int)<0));rw[hs]at l ⊢;rw[R]at i ⊢;clear hs R;have p:=MF w s t a b d f lb g _ _ l i;obtain⟨W0,j⟩:=ex (((w.alloc (F #[E s,C a d f] 36)).alloc (F #[E t,C b lb g] 36)).alloc (F #[E false,C none 0 0,E false,C none 0 0] 38));have b0:Jj W0 w.heap.size 36 (E s) (C a d f):=by rw[<-j];exact((Jj.new w _ _ _).alloc _).alloc _
 have A:Jj W0 (w.heap.size+1) 36 (E t) (C b lb g):=by
  have h:=(Jj.new (w.alloc (F #[E s,C a d f] 36)) 36 (E t) (C b lb g)).alloc (F #[E false,C none 0 0,E false,C none 0 0] 38);rw[A1,j]at h;exact h
 have z:JE W0 (w.heap.size+1+1) 38 (E false) (C none 0 0) (E false) (C none 0 0):=by
  have h:=JE.new ((w.alloc (F #[E s,C a d f] 36)).alloc (F #[E t,C b lb g] 36)) 38 (E false) (C none 0 0) (E false) (C none 0 0);rw[A1,A1,j]at h;exact h
 rw[j]at p;have o:=p.2.2;obtain⟨y,O,HB,Y⟩:=D3 (λ(V:H) (u:J) (h:Bl W0 V) (Z:Jk V u 1)=>Gd _ u (q.den:Int) 1 V ((i.below o).below h) Z) (l.below o) (i.below o) j;obtain⟨k0,k1⟩:=b0.cp;obtain⟨S,T⟩:=A.cp;have r:=Ja (show(EJ (q.den:Int) 1=0)↔q.den=1 by unfold EJ;split<;>(try split)<;>omega);obtain⟨n,k⟩:=ex (EJ (q.den:Int) 1);rw[k]at y r;clear l i j k p;go_enter Tryz.func86,Tryz.ntmps86
 go_upto_region 1 with fail
 rw[Y.o];have c:Bl W0 W0.drew:=(BB _ W0).drew;go_region_held3 (λm=>m.cell? ⟨w.heap.size+1,0,none⟩=some (E t)/\m.cell? ⟨w.heap.size+1,1,none⟩=some (C b lb g)) (refine⟨?_,?_⟩<;>(first|(go_keep;done)|((repeat rw[JH om]);simp[*];done)))
  (first
   |(go_at_call 110;refine(KZ 1 om om _).mono ?_;rintro e w1 ⟨u1,rfl,X,ae⟩;have c:=Bt c ae;obtain⟨S,T⟩:=(A.below c).cp)
   |(go_at_call 87;refine(y.o _ _ c X).mono ?_;clear y;rintro e U ⟨rfl,ad⟩;have c:=Bt c ad;obtain⟨k0,k1⟩:=(b0.below c).cp;obtain⟨S,T⟩:=(A.below c).cp;obtain⟨r0,P,W,K⟩:=(z.below c).cq;obtain⟨f0,f1,f2,f3⟩:=(z.below c).fq))
 have D:=Bt o c;have N:=z.below c;by_cases k:n=0
 . have B:=Ja (show denZ q=0 from KO.2 (r.o.1 k));subst k;have x:Ji U (L #[E s,C a d f,E false,C none 0 0]) q:=Ji.mk (O.o.below c) (by rw[B.o];exact EK _);go_wp2_with fail
   exact BA (v:=L #[E s,C a d f,E false,C none 0 0]) (by simp[results,Tryz.results86,go_sem,r0,P,W,K]) rfl ⟨_,rfl,x.put4 N rfl rfl rfl rfl _ _ _ _,Jp D om _ _ _ _⟩
 . have B:=Ja (show denZ q=q.den by unfold denZ;rw[BE (λh=>k (r.o.2 h))]);have x:Ji U (L #[E s,C a d f,E t,C b lb g]) q:=Ji.mk (O.o.below c) (by rw[B.o];exact HB.o.below c);go_wp2_with fail
   exact BA (v:=L #[E s,C a d f,E t,C b lb g]) (by simp[results,Tryz.results86,go_sem,r0,P,W,K]) rfl ⟨_,rfl,x.put4 N rfl rfl rfl rfl _ _ _ _,Jp D om _ _ _ _⟩
theorem Hj(a:y≠0):(0:Int)<(Int.gcd x y:Nat):=by
 have:=Int.gcd_pos_of_ne_zero_right x a;omega
theorem Om(va vb:J)(x y:Int)(w:H)(ha:Jk w va x)(A:Jk w vb y)(hy:y≠0)(bi:DZ x)(cj:DZ y):
 Calls I 104 #[va,vb] w λe d=>∃u,e=.returned u/\Ji d u (Rat.divInt x y)/\Bl w d:=by
 obtain⟨HX,HY,z⟩:=Dm bi cj hy;clear bi cj hy;obtain⟨s,a,la,ca,rfl⟩:=Jk.form2 ha;obtain⟨t,b,lb,cb,rfl⟩:=Jk.form2 A;have M0:=MF w s t a b la ca lb cb _ _ ha A;obtain⟨W0,ak⟩:=ex (((w.alloc (F #[E s,C a la ca] 36)).alloc (F #[E t,C b lb cb] 36)).alloc (F #[E false,C none 0 0,E false,C none 0 0] 38));have Uh:=Ja ak;rw[ak]at M0;have M1:Hid (Mem w W0 [some (w.heap.size,.int (x)),some (w.heap.size+1,.int (y)),some (w.heap.size+1+1,.rat (0))]):=Ja M0;clear M0 ha A ak;go_enter Tryz.func104,Tryz.ntmps104
 go_upto_region 1 with fail
 rw[Uh.o];clear Uh;obtain⟨s1,a1,l1,c1,n1,i1⟩:=M1.o.int (i:=0) rfl;obtain⟨Ut,Us⟩:=n1.cp;obtain⟨s2,a2,l2,c2,n2,i2⟩:=M1.o.int (i:=1) rfl;obtain⟨Um,Uu⟩:=n2.cp;go_upto_region 2 with(go_at_call 83;refine(Id _ _ x y _ i1 i2 (by have:=HX.o.words;omega) (by have:=HY.o.words;omega)).mono ?_;rintro e w1 ⟨u,rfl,q,A⟩;obtain⟨bu,ci,bj,bh,rfl⟩:=Jk.form2 q)
 obtain⟨V3,p⟩:=ex (w1.alloc (F #[E bu,C ci bj bh] 36));obtain⟨f,av⟩:=ex (w1.heap.size);have n:Mem w (w1.alloc (F #[E bu,C ci bj bh] 36)) [some (w.heap.size,.int (x)),some (w.heap.size+1,.int (y)),some (w.heap.size+1+1,.rat (0)),some (w1.heap.size,.int (((Int.gcd x y:Nat):Int)))]:=Mem.push (M1.o.below A) (.int (((Int.gcd x y:Nat):Int))) q;rw[p,av]at n;rw[p];rw[av];have D:Hid (Mem w V3 [some (w.heap.size,.int (x)),some (w.heap.size+1,.int (y)),some (w.heap.size+1+1,.rat (0)),some (f,.int (((Int.gcd x y:Nat):Int)))]):=Ja (n);clear M1;clear n p av;clear n1 Ut Us i1 n2 Um Uu i2 q A;have HG:=Ja (DZ.gcd HX.o HY.o);by_cases hn:y<0
 . have K:=Ja hn;clear hn;obtain⟨s4,a4,l4,c4,n4,i4⟩:=D.o.int (i:=1) rfl;obtain⟨Uv,Ur⟩:=n4.cp;have o:=Ja (Gd _ _ y 0 V3 i4 (EK _));rw[show EJ y 0=-1 from by unfold EJ;rw[BI K.o]]at o;go_upto_region 3 with(go_at_call 87;refine o.o.mono ?_;rintro e l ⟨rfl,O⟩)
   have g:Hid (Mem w l [some (w.heap.size,.int (x)),some (w.heap.size+1,.int (y)),some (w.heap.size+1+1,.rat (0)),some (f,.int (((Int.gcd x y:Nat):Int)))]):=Ja (D.o.below O);clear D;clear n4 Uv Ur i4 o O;obtain⟨s5,a5,l5,c5,n5,i5⟩:=g.o.int (i:=3) rfl;obtain⟨Uj,Ui⟩:=n5.cp;go_upto_region 4 with(go_at_call 88;refine(OZ _ _ 0 (((Int.gcd x y:Nat):Int)) _ (EK _) i5 (by have:=DZ.zero.words;omega) (by have:=HG.o.words;omega)).mono ?_;rintro e w6 ⟨u6,rfl,ai,af⟩;obtain⟨bn,bm,bk,bz,rfl⟩:=Jk.form2 ai;obtain⟨Uj,Ui⟩:=(n5.below af).cp;obtain⟨Up,Uq⟩:=(n5.below af).fp)
   obtain⟨B,p⟩:=ex ((w6.setCell ⟨f,0,none⟩ (E bn)).setCell ⟨f,1,none⟩ (C bm bk bz));have n:Mem w ((w6.setCell ⟨f,0,none⟩ (E bn)).setCell ⟨f,1,none⟩ (C bm bk bz)) [some (w.heap.size,.int (x)),some (w.heap.size+1,.int (y)),some (w.heap.size+1+1,.rat (0)),some (f,.int (0-((Int.gcd x y:Nat):Int)))]:=Mem.putInt (g.o.below af) (i:=3) rfl ai;rw[p]at n;rw[p];have m:Hid (Mem w B [some (w.heap.size,.int (x)),some (w.heap.size+1,.int (y)),some (w.heap.size+1+1,.rat (0)),some (f,.int (0-((Int.gcd x y:Nat):Int)))]):=Ja (n);clear g;clear n p;clear n5 Uj Ui i5 ai af;clear Up Uq;obtain⟨T,S,Uk⟩:=Dm (show(0-((Int.gcd x y:Nat):Int))≠0 by have:=Hj (x:=x) z.o;omega) (show(0-((Int.gcd x y:Nat):Int))=(if y<0 then -((Int.gcd x y:Nat):Int)else((Int.gcd x y:Nat):Int))by rw[BI K.o];omega) (show DZ (0-((Int.gcd x y:Nat):Int))by rw[Int.zero_sub];exact HG.o.neg);obtain⟨s7,a7,l7,c7,n7,i7⟩:=m.o.int (i:=0) rfl;obtain⟨Ub,Ua⟩:=n7.cp;obtain⟨s8,a8,l8,c8,n8,i8⟩:=m.o.int (i:=1) rfl;obtain⟨Z,W⟩:=n8.cp;obtain⟨s9,a9,l9,c9,n9,i9⟩:=m.o.int (i:=3) rfl;obtain⟨Y,Qz⟩:=n9.cp;obtain⟨du,eb,dz,et,fc,b10,er,eh,k,r10,fa,en⟩:=m.o.rat (i:=2) rfl;obtain⟨Qk,Qc,Qa,Qg⟩:=k.cq;obtain⟨Qs,Qu,Qr,Qo⟩:=k.fq;obtain⟨Q,P,N⟩:=Dm (λ(V:H) (h:Bl B V)=>X3 _ _ x ((0-((Int.gcd x y:Nat):Int))) V (i7.below h) (i9.below h) T.o HX.o Uk.o) (λ(V:H) (h:Bl B V)=>X3 _ _ y ((0-((Int.gcd x y:Nat):Int))) V (i8.below h) (i9.below h) T.o HY.o Uk.o) (λ(V:H) (u v:J) (q:Jk V u (x/(0-((Int.gcd x y:Nat):Int)))) (hv:Jk V v (y/(0-((Int.gcd x y:Nat):Int))))=>Kg u v (Rat.divInt x y) V (by rw[KP z.o,<-S.o];exact q) (by rw[KQ z.o,<-S.o];exact hv));have Un:w.heap.size≠w.heap.size+1+1:=m.o.ne 0 2 rfl rfl DR;have Uo:w.heap.size+1≠w.heap.size+1+1:=m.o.ne 1 2 rfl rfl DR;have Ul:f≠w.heap.size+1+1:=m.o.ne 3 2 rfl rfl DR;have c:Bl B B.drew:=(BB _ B).drew;go_region_held3 (λd=>d.cell? ⟨w.heap.size,0,none⟩=some (E s7)/\d.cell? ⟨w.heap.size,1,none⟩=some (C a7 l7 c7)/\d.cell? ⟨w.heap.size+1,0,none⟩=some (E s8)/\d.cell? ⟨w.heap.size+1,1,none⟩=some (C a8 l8 c8)/\d.cell? ⟨f,0,none⟩=some (E s9)/\d.cell? ⟨f,1,none⟩=some (C a9 l9 c9)) (first|(with_reducible exact⟨Ub,Ua,Z,W,Y,Qz⟩)|(go_keep;done)|(refine⟨?_,?_,?_,?_,?_,?_⟩<;>((repeat rw[JH om]);first|assumption|(go_keep;done))))
    (first
     |(go_at_call 84;refine(Q.o _ c).mono ?_;clear Q;rintro e w2 ⟨u2,rfl,r,an⟩;have c:=Bt c an;obtain⟨Ub,Ua⟩:=(n7.below c).cp;obtain⟨Z,W⟩:=(n8.below c).cp;obtain⟨Y,Qz⟩:=(n9.below c).cp;obtain⟨Qk,Qc,Qa,Qg⟩:=(k.below c).cq;obtain⟨Qs,Qu,Qr,Qo⟩:=(k.below c).fq)
     |(go_at_call 84;refine(P.o _ c).mono ?_;clear P;rintro e w3 ⟨u3,rfl,bg,M⟩;have r:=r.below M;have c:=Bt c M;obtain⟨Ub,Ua⟩:=(n7.below c).cp;obtain⟨Z,W⟩:=(n8.below c).cp;obtain⟨Y,Qz⟩:=(n9.below c).cp;obtain⟨Qk,Qc,Qa,Qg⟩:=(k.below c).cq;obtain⟨Qs,Qu,Qr,Qo⟩:=(k.below c).fq)
     |(go_at_call 86;refine(N.o _ _ _ r bg).mono ?_;clear N;rintro e w4 ⟨u4,rfl,R,aw⟩;obtain⟨bc,ap,aj,bd,ay,aq,az,bf,rfl⟩:=Ji.form R;have c:=Bt c aw;obtain⟨Ub,Ua⟩:=(n7.below c).cp;obtain⟨Z,W⟩:=(n8.below c).cp;obtain⟨Y,Qz⟩:=(n9.below c).cp;obtain⟨Qk,Qc,Qa,Qg⟩:=(k.below c).cq;obtain⟨Qs,Qu,Qr,Qo⟩:=(k.below c).fq))
   all_goals go_wp2_with fail
   have Ug:=Bt m.o.2.2 c;exact BA (v:=L #[E bc,C ap aj bd,E ay,C aq az bf]) (by simp[results,Tryz.results104,go_sem,Qk,Qc,Qa,Qg]) rfl ⟨_,rfl,R.put4 (k.below c) rfl rfl rfl rfl _ _ _ _,Jp Ug om _ _ _ _⟩
 . have K:=Ja hn;clear hn;obtain⟨f8,ef,ei,fg,cg,bt⟩:=D.o.int (i:=1) rfl;obtain⟨Uf,Ue⟩:=cg.cp;have o:=Ja (Gd _ _ y 0 V3 bt (EK _));rw[show EJ y 0=1 from by have h1:=K.o;have h2:=z.o;unfold EJ;rw[BE om,BI om]]at o;go_upto_region 4 with(go_at_call 87;refine o.o.mono ?_;rintro e l ⟨rfl,O⟩)
   have g:Hid (Mem w l [some (w.heap.size,.int (x)),some (w.heap.size+1,.int (y)),some (w.heap.size+1+1,.rat (0)),some (f,.int (((Int.gcd x y:Nat):Int)))]):=Ja (D.o.below O);clear D;clear cg Uf Ue bt o O;have T:=Ja (show((Int.gcd x y:Nat):Int)≠0 by have:=Hj (x:=x) z.o;omega);have S:=Ja (show((Int.gcd x y:Nat):Int)=(if y<0 then -((Int.gcd x y:Nat):Int)else((Int.gcd x y:Nat):Int))by rw[BE (by have:=K.o;omega)]);obtain⟨cw,di,ck,dj,ad,cy⟩:=g.o.int (i:=0) rfl;obtain⟨Qd,Qe⟩:=ad.cp;obtain⟨cn,dh,ct,dt,ae,co⟩:=g.o.int (i:=1) rfl;obtain⟨Ql,Qh⟩:=ae.cp;obtain⟨dp,cl,cz,de,ah,ce⟩:=g.o.int (i:=3) rfl;obtain⟨U,Qi⟩:=ah.cp;obtain⟨ed,ew,dx,eq,f7,fb,dw,ff,j,fe,fh,fd⟩:=g.o.rat (i:=2) rfl;obtain⟨X,Qf,Qj,Qb⟩:=j.cq;obtain⟨Qv,Qw,Qp,Qq⟩:=j.fq;obtain⟨Q,P,N⟩:=Dm (λ(V:H) (h:Bl l V)=>X3 _ _ x (((Int.gcd x y:Nat):Int)) V (cy.below h) (ce.below h) T.o HX.o HG.o) (λ(V:H) (h:Bl l V)=>X3 _ _ y (((Int.gcd x y:Nat):Int)) V (co.below h) (ce.below h) T.o HY.o HG.o) (λ(V:H) (u v:J) (q:Jk V u (x/((Int.gcd x y:Nat):Int))) (hv:Jk V v (y/((Int.gcd x y:Nat):Int)))=>Kg u v (Rat.divInt x y) V (by rw[KP z.o,<-S.o];exact q) (by rw[KQ z.o,<-S.o];exact hv));have Un:w.heap.size≠w.heap.size+1+1:=g.o.ne 0 2 rfl rfl DR;have Uo:w.heap.size+1≠w.heap.size+1+1:=g.o.ne 1 2 rfl rfl DR;have Ul:f≠w.heap.size+1+1:=g.o.ne 3 2 rfl rfl DR;have c:Bl l l.drew:=(BB _ l).drew;go_region_held3 (λd=>d.cell? ⟨w.heap.size,0,none⟩=some (E cw)/\d.cell? ⟨w.heap.size,1,none⟩=some (C di ck dj)/\d.cell? ⟨w.heap.size+1,0,none⟩=some (E cn)/\d.cell? ⟨w.heap.size+1,1,none⟩=some (C dh ct dt)/\d.cell? ⟨f,0,none⟩=some (E dp)/\d.cell? ⟨f,1,none⟩=some (C cl cz de)) (first|(with_reducible exact⟨Qd,Qe,Ql,Qh,U,Qi⟩)|(go_keep;done)|(refine⟨?_,?_,?_,?_,?_,?_⟩<;>((repeat rw[JH om]);first|assumption|(go_keep;done))))
    (first
     |(go_at_call 84;refine(Q.o _ c).mono ?_;clear Q;rintro e w2 ⟨u2,rfl,r,an⟩;have c:=Bt c an;obtain⟨Qd,Qe⟩:=(ad.below c).cp;obtain⟨Ql,Qh⟩:=(ae.below c).cp;obtain⟨U,Qi⟩:=(ah.below c).cp;obtain⟨X,Qf,Qj,Qb⟩:=(j.below c).cq;obtain⟨Qv,Qw,Qp,Qq⟩:=(j.below c).fq)
     |(go_at_call 84;refine(P.o _ c).mono ?_;clear P;rintro e w3 ⟨u3,rfl,bg,M⟩;have r:=r.below M;have c:=Bt c M;obtain⟨Qd,Qe⟩:=(ad.below c).cp;obtain⟨Ql,Qh⟩:=(ae.below c).cp;obtain⟨U,Qi⟩:=(ah.below c).cp;obtain⟨X,Qf,Qj,Qb⟩:=(j.below c).cq;obtain⟨Qv,Qw,Qp,Qq⟩:=(j.below c).fq)
     |(go_at_call 86;refine(N.o _ _ _ r bg).mono ?_;clear N;rintro e w4 ⟨u4,rfl,R,aw⟩;obtain⟨bc,ap,aj,bd,ay,aq,az,bf,rfl⟩:=Ji.form R;have c:=Bt c aw;obtain⟨Qd,Qe⟩:=(ad.below c).cp;obtain⟨Ql,Qh⟩:=(ae.below c).cp;obtain⟨U,Qi⟩:=(ah.below c).cp;obtain⟨X,Qf,Qj,Qb⟩:=(j.below c).cq;obtain⟨Qv,Qw,Qp,Qq⟩:=(j.below c).fq))
   all_goals go_wp2_with fail
   have Ug:=Bt g.o.2.2 c;exact BA (v:=L #[E bc,C ap aj bd,E ay,C aq az bf]) (by simp[results,Tryz.results104,go_sem,X,Qf,Qj,Qb]) rfl ⟨_,rfl,R.put4 (j.below c) rfl rfl rfl rfl _ _ _ _,Jp Ug om _ _ _ _⟩
theorem MG(w:H)(s t n g:Bool)(a b e f:Option Addr)(l c k d m c' i j:Nat)(p q:Rat)(r:Ji w (L #[E s,C a l c,E t,C b k d]) p)(o:Ji w (L #[E n,C e m c',E g,C f i j]) q):
 Mem w (((w.alloc (F #[E s,C a l c,E t,C b k d] 38)).alloc (F #[E n,C e m c',E g,C f i j] 38)).alloc (F #[E false,C none 0 0,E false,C none 0 0] 38)) [some (w.heap.size,.rat p),some (w.heap.size+1,.rat q),some (w.heap.size+1+1,.rat 0)]:=by
 have h:=(((Mem.nil w).push (.rat p) r).push (.rat q) (o.below (Ba w _))).push (.rat 0) (EO _);rw[A1,A1,A1]at h;exact h
theorem UM(w:H)(s t n g:Bool)(a b e f:Option Addr)(l c k d m c' i j:Nat)(p q:Rat)(r:Ji w (L #[E s,C a l c,E t,C b k d]) p)(o:Ji w (L #[E n,C e m c',E g,C f i j]) q):
 Mem w ((w.alloc (F #[E s,C a l c,E t,C b k d] 38)).alloc (F #[E n,C e m c',E g,C f i j] 38)) [some (w.heap.size,.rat p),some (w.heap.size+1,.rat q)]:=by
 have h:=((Mem.nil w).push (.rat p) r).push (.rat q) (o.below (Ba w _));rw[A1]at h;exact h
theorem Kh(h:q.den=1):q=(q.num:Rat):=Rat.ext rfl h
theorem UO(b:p.den=1)(a:q.den=1):(p+q).num=p.num+q.num/\(p+q).den=1:=by
 have h:p+q=((p.num+q.num:Int):Rat):=by rw[Rat.intCast_add,<-Kh b,<-Kh a]
 rw[h];exact⟨rfl,rfl⟩
theorem UP(b:p.den=1)(a:q.den=1):(p*q).num=p.num*q.num/\(p*q).den=1:=by
 have h:p*q=((p.num*q.num:Int):Rat):=by rw[Rat.intCast_mul,<-Kh b,<-Kh a]
 rw[h];exact⟨rfl,rfl⟩
theorem UQ(p q:Rat)(i:Sq p)(f:Sq q)(a b d c e:Int)(g:((Int.gcd (p.den:Int) (q.den:Int):Nat):Int)=a)(v:(p.den:Int)/a=b)(n:(q.den:Int)/a=d)(o:p.num*d+q.num*b=c)(j:((Int.gcd c a:Nat):Int)=e):
 DZ a/\a≠0/\DZ b/\DZ d/\DZ c/\DZ e/\e≠0/\DZ (p.num*d)/\DZ (q.num*b)/\(p+q).num=c/e/\((p+q).den:Int)=b*(q.den/e):=by
 have hl:=RY p q a b d c e g.symm v.symm n.symm o.symm j.symm;have l:a≠0:=by rw[<-g];have:=Hj (x:=(p.den:Int)) (y:=q.den) (by have:=q.den_nz;omega);omega
 have u:DZ a:=by rw[<-g];exact i.den.gcd f.den
 have m:Sm 1000000 b:=by rw[<-v];exact i.sm.2.div
 have s:Sm 1000000 d:=by rw[<-n];exact f.sm.2.div
 have t:=i.sm.1.mul s;have r:=f.sm.1.mul m;have k:DZ c:=by rw[<-o];exact DZ.of (t.add r) om
 refine⟨u,l,DZ.of m om,DZ.of s om,k,by rw[<-j];exact k.gcd u,?_,DZ.of t om,DZ.of r om,hl.1,hl.2⟩;rw[<-j];have:=Hj (x:=c) l;omega
theorem Hk(va vb:J)(p q:Rat)(w:H)(ha:Ji w va p)(hb:Ji w vb q)(cz:Sq p)(bn:Sq q):
 Calls I 40 #[va,vb] w λe Z=>∃u,e=.returned u/\Ji Z u (p+q)/\Bl w Z:=by
 obtain⟨s,a,l,c,t,b,k,d,rfl⟩:=Ji.form ha;obtain⟨s',a',l',c',t',b',k',d',rfl⟩:=Ji.form hb;have M0:=MG w s t s' t' a b a' b' l c k d l' c' k' d' p q ha hb;obtain⟨W0,bh⟩:=ex (((w.alloc (F #[E s,C a l c,E t,C b k d] 38)).alloc (F #[E s',C a' l' c',E t',C b' k' d'] 38)).alloc (F #[E false,C none 0 0,E false,C none 0 0] 38));have Uf:=Ja bh;rw[bh]at M0;have M1:Hid (Mem w W0 [some (w.heap.size,.rat (p)),some (w.heap.size+1,.rat (q)),some (w.heap.size+1+1,.rat (0))]):=Ja M0;have Ub:Tryz.prog.follows .mixedOrders=true:=by kernel_rfl
 have HP:=Ja cz;have HQ:=Ja bn;clear M0 ha hb bh cz bn;go_enter Tryz.func40,Tryz.ntmps40
 go_upto_region 1 with fail
 rw[Uf.o];clear Uf;obtain⟨bb,bk⟩:=ex (decide (p.den=1/\q.den=1):Bool);have Qu:=Ja bk;clear bk;go_cut [15] (λc Z=>c=E bb/\Hid (Mem w Z [some (w.heap.size,.rat (p)),some (w.heap.size+1,.rat (q)),some (w.heap.size+1+1,.rat (0))]))
 case first=>
  obtain⟨s1,a1,l1,c1,t1,b1,k1,d1,n1,r1,i1,j1⟩:=M1.o.rat (i:=0) rfl;obtain⟨Uz,Uy,Ux,Uo⟩:=n1.cq;obtain⟨s2,a2,l2,c2,t2,b2,k2,d2,n2,r2,i2,j2⟩:=M1.o.rat (i:=1) rfl;obtain⟨Up,Wa,Ur,Wc⟩:=n2.cq;have H1:=Ja (Xr _ p W0 r1);have H2:=Ja (λ(V:H) (h:Bl W0 V)=>Xr _ q V (r2.below h));by_cases R:p.den=1
  . rw[BJ R]at H1;obtain⟨b2,aj⟩:=ex (decide (q.den=1));rw[aj]at H2;have Qw:=Ja (show b2=bb by rw[<-aj,<-Qu.o];exact decide_eq_decide.2 ⟨λh=>⟨R,h⟩,λh=>h.2⟩);clear aj R;go_wp2_with(first
     |(go_at_call 59;refine H1.o.mono ?_;clear H1;rintro e w1 ⟨rfl,ay⟩;obtain⟨Uz,Uy,Ux,Uo⟩:=(n1.below ay).cq;obtain⟨Up,Wa,Ur,Wc⟩:=(n2.below ay).cq)
     |(go_at_call 59;refine(H2.o _ ay).mono ?_;clear H2;rintro e w2 ⟨rfl,aj⟩))
    go_meet
    case rel=>exact⟨by rw[Qw.o],Ja ((M1.o.below ay).below aj)⟩
  . rw[BF R]at H1;have Qw:=Ja (show bb=false by rw[<-Qu.o];exact BF (λh=>R h.1));clear R;go_wp2_with(go_at_call 59;refine H1.o.mono ?_;clear H1;rintro e w1 ⟨rfl,ay⟩)
    go_meet
    case rel=>exact⟨by rw[Qw.o],Ja (M1.o.below ay)⟩
 obtain⟨rfl,o⟩:=hcut;have M2:Hid (Mem w wc [some (w.heap.size,.rat (p)),some (w.heap.size+1,.rat (q)),some (w.heap.size+1+1,.rat (0))]):=o;clear M1 o;cases bb with
 |true=>
  have Ua:=Bg Qu.o;have HW:=Ja (UO Ua.1 Ua.2);clear Ua Qu;obtain⟨s3,a3,l3,c3,t3,b3,k3,d3,n3,r3,i3,j3⟩:=M2.o.rat (i:=0) rfl;obtain⟨ib,gb,fx,fr⟩:=n3.cq;obtain⟨s4,a4,l4,c4,t4,b4,k4,d4,n4,r4,i4,j4⟩:=M2.o.rat (i:=1) rfl;obtain⟨gz,gg,gr,fu⟩:=n4.cq;obtain⟨s5,a5,l5,c5,t5,b5,k5,d5,n5,r5,i5,j5⟩:=M2.o.rat (i:=2) rfl;obtain⟨Uj,Ug,Uk,Un⟩:=n5.cq;obtain⟨Ut,Uv,Us,Uq⟩:=n5.fq;go_wp2_with(go_at_call 81;refine(Lw _ _ p.num q.num _ i3 i4 (by have:=HP.o.num.words;omega) (by have:=HQ.o.num.words;omega)).mono ?_;rintro e w1 ⟨u,rfl,hu,x⟩;obtain⟨bd,bf,bc,az,rfl⟩:=Jk.form2 hu;obtain⟨Uj,Ug,Uk,Un⟩:=(n5.below x).cq;obtain⟨Ut,Uv,Us,Uq⟩:=(n5.below x).fq)
  have hr:Ji w1 (L #[E bd,C bf bc az,E false,C none 0 0]) (p+q):=Ji.mk (by rw[HW.o.1];exact hu) (by rw[KO.2 HW.o.2];exact EK _);have Uc:=Bt M2.o.2.2 x;exact BA (v:=L #[E bd,C bf bc az,E false,C none 0 0]) (by simp[results,Tryz.results40,go_sem,Uj,Ug,Uk,Un]) rfl ⟨_,rfl,hr.put4 (n5.below x) rfl rfl rfl rfl _ _ _ _,Jp Uc om _ _ _ _⟩
 |false=>
  clear Qu;obtain⟨Y,bu⟩:=ex (((Int.gcd (p.den:Int) (q.den:Int):Nat):Int):Int);have Um:=Ja bu;clear bu;obtain⟨lf,cy⟩:=ex ((p.den:Int)/Y:Int);have Ul:=Ja cy;clear cy;obtain⟨rt,ck⟩:=ex ((q.den:Int)/Y:Int);have Ud:=Ja ck;clear ck;obtain⟨ab,bj⟩:=ex (p.num*rt+q.num*lf:Int);have Ue:=Ja bj;clear bj;obtain⟨ag,cw⟩:=ex (((Int.gcd ab Y:Nat):Int):Int);have Ui:=Ja cw;clear cw;obtain⟨S1,S2,S3,S4,S5,S6,S7,S8,S9,ce,bm⟩:=UQ p q HP.o HQ.o Y lf rt ab ag Um.o Ul.o Ud.o Ue.o Ui.o;obtain⟨T1,T2,T3,T4,T5,T6,T7,T8⟩:=GC S1 S2 S3 S4 S5 S6 S7 S8;obtain⟨T9,Uu,Uw⟩:=Dm S9 ce bm;clear S1 S2 S3 S4 S5 S6 S7 S8 S9 ce bm;go_upto_region 3 with fail
  refine Jn Ub [[],[0],[],[2,1],[1,3,3],[],[5,4,4,0,1,2,3,4,5]] (by kernel_rfl) DR
   (λD af V=>∃(ta tb tc td te tz:J) (x5:Option (Nat × Dat)),af={ tmps:=#[L #[E s,C a l c,E t,C b k d],L #[E s',C a' l' c',E t',C b' k' d'],G (some ⟨w.heap.size,0,none⟩),G (some ⟨w.heap.size+1,0,none⟩),G (some ⟨w.heap.size+1+1,0,none⟩),tz,undef,undef,undef,undef,u10,u11,u12,u13,u14,E false,u16,u17,u18,u19,u20,u21,ta,tb,tc,td,te,u27,u28,u29,u30,u31,u32,u33,u34,u35,u36,u37,u38,u39,u40,u41,u42,u43,u44,u45,u46,u47,u48,u49,u50,u51,u52,u53,u54,u55,u56],defers:=[] }/\Hid ((D 0=true->Has V ta (.rat (p)))/\(D 1=true->Has V tb (.int ((p.den:Int))))/\(D 2=true->Has V tc (.rat (q)))/\(D 3=true->Has V td (.int ((q.den:Int))))/\(D 4=true->Has V te (.int (Y)))/\((D 5=false->x5=none)/\(D 5=true->D 6=false->∃B:Nat,tz=G (some ⟨B,0,none⟩)/\x5=some (B,.int 0))/\(D 6=true->∃B:Nat,tz=G (some ⟨B,0,none⟩)/\x5=some (B,.int (Y)))))/\Hid (Mem w V [some (w.heap.size,.rat (p)),some (w.heap.size+1,.rat (q)),some (w.heap.size+1+1,.rat (0)),x5]))
   ⟨_,_,_,_,_,_,none,rfl,Ja ⟨DO,DO,DO,DO,DO,DO⟩,Ja ((M2.o).none).drew⟩ ?step6 ?fin6
  case step6=>
   rintro D af V i ds aw hi m ad ⟨ta,tb,tc,td,te,tz,x5,rfl,g,o⟩;have Uh:i<7:=(Ad.1 hi).1;obtain rfl|rfl|rfl|rfl|rfl|rfl|rfl:=Pz i om
   all_goals
    simp only[Ah,Ae,Ak]at hi;subst hi
   . clear m;obtain⟨s,a,l,c,t,b,k,d,n,r,i,j⟩:=o.o.rat (i:=0) rfl;obtain⟨e0,e1,e2,e3⟩:=n.cq;refine Za ?_;exact⟨_,_,_,_,_,_,_,rfl,(Di g λ_=>r),Ja (o.o)⟩
   . have Q:=(g.o.1 (m 0 DO));have T:=Ja (FO _ p V Q);clear m Q;refine Jb rfl rfl λK hK=>?_;go_simp;go_wp2_with(go_at_call 82;refine T.o.mono ?_;rintro e w5 ⟨v5,rfl,W,f⟩)
     obtain⟨z,_,A,P,M,O⟩:=g.o;exact⟨_,_,_,_,_,_,_,rfl,Ja ⟨λh=>(z h).below f,λ_=>W,λh=>(A h).below f,λh=>(P h).below f,λh=>(M h).below f,O⟩,Ja (o.o.below f)⟩
   . clear m;obtain⟨s,a,l,c,t,b,k,d,n,r,i,j⟩:=o.o.rat (i:=1) rfl;obtain⟨e0,e1,e2,e3⟩:=n.cq;refine Za ?_;exact⟨_,_,_,_,_,_,_,rfl,(Df g λ_=>r),Ja (o.o)⟩
   . have Q:=(g.o.2.2.1 (m 2 DO));have T:=Ja (FO _ q V Q);clear m Q;refine Jb rfl rfl λK hK=>?_;go_simp;go_wp2_with(go_at_call 82;refine T.o.mono ?_;rintro e w5 ⟨v5,rfl,W,f⟩)
     obtain⟨z,N,A,_,M,O⟩:=g.o;exact⟨_,_,_,_,_,_,_,rfl,Ja ⟨λh=>(z h).below f,λh=>(N h).below f,λh=>(A h).below f,λ_=>W,λh=>(M h).below f,O⟩,Ja (o.o.below f)⟩
   . have Q:=(g.o.2.1 (m 1 DO));have R:=(g.o.2.2.2.1 (m 3 DO));have T:=Ja ((by have h:=Id _ _ (p.den:Int) (q.den:Int) V Q R (by have:=HP.o.den.words;omega) (by have:=HQ.o.den.words;omega);rw[Um.o]at h;exact h));clear m Q R;refine Jb rfl rfl λK hK=>?_;go_simp;go_wp2_with(go_at_call 83;refine T.o.mono ?_;rintro e w5 ⟨v5,rfl,W,f⟩)
     obtain⟨z,N,A,P,_,O⟩:=g.o;exact⟨_,_,_,_,_,_,_,rfl,Ja ⟨λh=>(z h).below f,λh=>(N h).below f,λh=>(A h).below f,λh=>(P h).below f,λ_=>W,O⟩,Ja (o.o.below f)⟩
   . have hf:D 6=false:=DQ aw ad;obtain rfl:=Dk g ad;clear m;refine Za ?_;obtain⟨z,N,A,P,M,_⟩:=g.o;exact⟨_,_,_,_,_,_,_,rfl,Ja ⟨λh=>(z h).alloc _,λh=>(N h).alloc _,λh=>(A h).alloc _,λh=>(P h).alloc _,λh=>(M h).alloc _,⟨λh=>by simp at h,λ_ _=>⟨_,rfl,rfl⟩,λh=>by simp[hf]at h⟩⟩,Ja (o.o.fill (i:=3) rfl (.int 0) (EK _))⟩
   . obtain⟨B,rfl,rfl⟩:=Dn g (m 5 DO) ad;have Qa:=m 5 DO;have hv:=(g.o.2.2.2.2.1 (m 4 DO));obtain⟨s1,a1,l1,c1,rfl⟩:=Jk.form2 (show Jk V _ _ from hv);obtain⟨s,a,l,c,n,i⟩:=o.o.int (i:=3) rfl;have e0:=n.c0;have f0:=n.f0;have e1:=n.c1;have f1:=n.f1;clear m;refine Za ?_;obtain⟨z,N,A,P,M,_⟩:=g.o;exact⟨_,_,_,_,_,_,_,rfl,Ja ⟨λh=>(z h).set2 n rfl rfl _ _,λh=>(N h).set2 n rfl rfl _ _,λh=>(A h).set2 n rfl rfl _ _,λh=>(P h).set2 n rfl rfl _ _,λh=>(M h).set2 n rfl rfl _ _,⟨λh=>by simp[Qa]at h,λ_ h=>by simp at h,λ_=>⟨B,rfl,rfl⟩⟩⟩,Ja (o.o.putInt (i:=3) rfl hv)⟩
  rintro D af V7 ah ⟨ta,tb,tc,td,te,tz,x5,rfl,g,o⟩;obtain⟨B8,rfl,rfl⟩:=g.o.2.2.2.2.2.2.2 (ah 6 DR);clear g ah M2;have M3:Hid (Mem w V7 [some (w.heap.size,.rat (p)),some (w.heap.size+1,.rat (q)),some (w.heap.size+1+1,.rat (0)),some (B8,.int (Y))]):=o;clear o;go_upto_region 4 with fail
  refine Jn Ub [[],[0],[],[1,2,1],[],[4,3],[],[5,6,5],[],[],[8,3,7,0,1,2,3,8,9],[9,7,10,0,1,2,3,4,5,6,7,8,9,10]] (by kernel_rfl) DR
   (λD af V=>∃(tf tg ti tj tk tl tm tn tA tB:J) (x8 x9:Option (Nat × Dat)),af={ tmps:=#[L #[E s,C a l c,E t,C b k d],L #[E s',C a' l' c',E t',C b' k' d'],G (some ⟨w.heap.size,0,none⟩),G (some ⟨w.heap.size+1,0,none⟩),G (some ⟨w.heap.size+1+1,0,none⟩),G (some ⟨B8,0,none⟩),tA,tB,undef,undef,u10,u11,u12,u13,u14,E false,u16,u17,u18,u19,u20,u21,ta,tb,tc,td,te,tf,tg,ti,tj,tk,tl,tm,tn,u35,u36,u37,u38,u39,u40,u41,u42,u43,u44,u45,u46,u47,u48,u49,u50,u51,u52,u53,u54,u55,u56],defers:=[] }/\Hid ((D 0=true->Has V tf (.rat (p)))/\(D 1=true->Has V tg (.int ((p.den:Int))))/\(D 2=true->Has V ti (.int (Y)))/\(D 3=true->Has V tj (.int (lf)))/\(D 4=true->Has V tk (.rat (q)))/\(D 5=true->Has V tl (.int ((q.den:Int))))/\(D 6=true->Has V tm (.int (Y)))/\(D 7=true->Has V tn (.int (rt)))/\((D 8=false->x8=none)/\(D 8=true->D 10=false->∃B:Nat,tA=G (some ⟨B,0,none⟩)/\x8=some (B,.int 0))/\(D 10=true->∃B:Nat,tA=G (some ⟨B,0,none⟩)/\x8=some (B,.int (lf))))/\((D 9=false->x9=none)/\(D 9=true->D 11=false->∃B:Nat,tB=G (some ⟨B,0,none⟩)/\x9=some (B,.int 0))/\(D 11=true->∃B:Nat,tB=G (some ⟨B,0,none⟩)/\x9=some (B,.int (rt)))))/\Hid (Mem w V [some (w.heap.size,.rat (p)),some (w.heap.size+1,.rat (q)),some (w.heap.size+1+1,.rat (0)),some (B8,.int (Y)),x8,x9]))
   ⟨_,_,_,_,_,_,_,_,_,_,none,none,rfl,Ja ⟨DO,DO,DO,DO,DO,DO,DO,DO,DO,DO⟩,Ja (((M3.o).none).none).drew⟩ ?step9 ?fin9
  case step9=>
   rintro D af V i ds aw hi m ad ⟨tf,tg,ti,tj,tk,tl,tm,tn,tA,tB,x8,x9,rfl,g,o⟩;have Uh:i<12:=(Ad.1 hi).1;obtain rfl|rfl|rfl|rfl|rfl|rfl|rfl|rfl|rfl|rfl|rfl|rfl:=GO i om
   all_goals
    simp only[Ah,Ae,Ak]at hi;subst hi
   . clear m;obtain⟨s,a,l,c,t,b,k,d,n,r,i,j⟩:=o.o.rat (i:=0) rfl;obtain⟨e0,e1,e2,e3⟩:=n.cq;refine Za ?_;exact⟨_,_,_,_,_,_,_,_,_,_,_,_,rfl,(Di g λ_=>r),Ja (o.o)⟩
   . have Q:=(g.o.1 (m 0 DO));have T:=Ja (FO _ p V Q);clear m Q;refine Jb rfl rfl λK hK=>?_;go_simp;go_wp2_with(go_at_call 82;refine T.o.mono ?_;rintro e w5 ⟨v5,rfl,W,f⟩)
     obtain⟨z,_,A,P,M,O,S,U,X⟩:=g.o;exact⟨_,_,_,_,_,_,_,_,_,_,_,_,rfl,Ja ⟨λh=>(z h).below f,λ_=>W,λh=>(A h).below f,λh=>(P h).below f,λh=>(M h).below f,λh=>(O h).below f,λh=>(S h).below f,λh=>(U h).below f,X⟩,Ja (o.o.below f)⟩
   . clear m;obtain⟨s,a,l,c,n,i⟩:=o.o.int (i:=3) rfl;obtain⟨e0,e1⟩:=n.cp;refine Za ?_;exact⟨_,_,_,_,_,_,_,_,_,_,_,_,rfl,(Df g λ_=>i),Ja (o.o)⟩
   . have Q:=(g.o.2.1 (m 1 DO));have R:=(g.o.2.2.1 (m 2 DO));have T:=Ja ((by have h:=X3 _ _ (p.den:Int) Y V Q R T2.o HP.o.den T1.o;rw[Ul.o]at h;exact h));clear m Q R;refine Jb rfl rfl λK hK=>?_;go_simp;go_wp2_with(go_at_call 84;refine T.o.mono ?_;rintro e w5 ⟨v5,rfl,W,f⟩)
     obtain⟨z,N,A,_,M,O,S,U,X⟩:=g.o;exact⟨_,_,_,_,_,_,_,_,_,_,_,_,rfl,Ja ⟨λh=>(z h).below f,λh=>(N h).below f,λh=>(A h).below f,λ_=>W,λh=>(M h).below f,λh=>(O h).below f,λh=>(S h).below f,λh=>(U h).below f,X⟩,Ja (o.o.below f)⟩
   . clear m;obtain⟨s,a,l,c,t,b,k,d,n,r,i,j⟩:=o.o.rat (i:=1) rfl;obtain⟨e0,e1,e2,e3⟩:=n.cq;refine Za ?_;exact⟨_,_,_,_,_,_,_,_,_,_,_,_,rfl,(Dx g λ_=>r),Ja (o.o)⟩
   . have Q:=(g.o.2.2.2.2.1 (m 4 DO));have T:=Ja (FO _ q V Q);clear m Q;refine Jb rfl rfl λK hK=>?_;go_simp;go_wp2_with(go_at_call 82;refine T.o.mono ?_;rintro e w5 ⟨v5,rfl,W,f⟩)
     obtain⟨z,N,A,P,M,_,S,U,X⟩:=g.o;exact⟨_,_,_,_,_,_,_,_,_,_,_,_,rfl,Ja ⟨λh=>(z h).below f,λh=>(N h).below f,λh=>(A h).below f,λh=>(P h).below f,λh=>(M h).below f,λ_=>W,λh=>(S h).below f,λh=>(U h).below f,X⟩,Ja (o.o.below f)⟩
   . clear m;obtain⟨s,a,l,c,n,i⟩:=o.o.int (i:=3) rfl;obtain⟨e0,e1⟩:=n.cp;refine Za ?_;exact⟨_,_,_,_,_,_,_,_,_,_,_,_,rfl,(D4 g λ_=>i),Ja (o.o)⟩
   . have Q:=((Dk g) (m 5 DO));have R:=((Dn g) (m 6 DO));have T:=Ja ((by have h:=X3 _ _ (q.den:Int) Y V Q R T2.o HQ.o.den T1.o;rw[Ud.o]at h;exact h));clear m Q R;refine Jb rfl rfl λK hK=>?_;go_simp;go_wp2_with(go_at_call 84;refine T.o.mono ?_;rintro e w5 ⟨v5,rfl,W,f⟩)
     obtain⟨z,N,A,P,M,O,S,_,X⟩:=g.o;exact⟨_,_,_,_,_,_,_,_,_,_,_,_,rfl,Ja ⟨λh=>(z h).below f,λh=>(N h).below f,λh=>(A h).below f,λh=>(P h).below f,λh=>(M h).below f,λh=>(O h).below f,λh=>(S h).below f,λ_=>W,X⟩,Ja (o.o.below f)⟩
   . have hf:D 10=false:=DQ aw ad;obtain rfl:=g.o.2.2.2.2.2.2.2.2.1.1 ad;clear m;refine Za ?_;obtain⟨z,N,A,P,M,O,S,U,_,G9⟩:=g.o;exact⟨_,_,_,_,_,_,_,_,_,_,_,_,rfl,Ja ⟨λh=>(z h).alloc _,λh=>(N h).alloc _,λh=>(A h).alloc _,λh=>(P h).alloc _,λh=>(M h).alloc _,λh=>(O h).alloc _,λh=>(S h).alloc _,λh=>(U h).alloc _,⟨λh=>by simp at h,λ_ _=>⟨_,rfl,rfl⟩,λh=>by simp[hf]at h⟩,G9⟩,Ja (o.o.fill (i:=4) rfl (.int 0) (EK _))⟩
   . have hf:D 11=false:=DQ aw ad;obtain rfl:=Dt g ad;clear m;refine Za ?_;obtain⟨z,N,A,P,M,O,S,U,X,_⟩:=g.o;exact⟨_,_,_,_,_,_,_,_,_,_,_,_,rfl,Ja ⟨λh=>(z h).alloc _,λh=>(N h).alloc _,λh=>(A h).alloc _,λh=>(P h).alloc _,λh=>(M h).alloc _,λh=>(O h).alloc _,λh=>(S h).alloc _,λh=>(U h).alloc _,X,⟨λh=>by simp at h,λ_ _=>⟨_,rfl,rfl⟩,λh=>by simp[hf]at h⟩⟩,Ja (o.o.fill (i:=5) rfl (.int 0) (EK _))⟩
   . obtain⟨B,rfl,rfl⟩:=g.o.2.2.2.2.2.2.2.2.1.2.1 (m 8 DO) ad;have Qa:=m 8 DO;have hv:=(g.o.2.2.2.1 (m 3 DO));obtain⟨s1,a1,l1,c1,rfl⟩:=Jk.form2 (show Jk V _ _ from hv);obtain⟨s,a,l,c,n,i⟩:=o.o.int (i:=4) rfl;have e0:=n.c0;have f0:=n.f0;have e1:=n.c1;have f1:=n.f1;clear m;refine Za ?_;obtain⟨z,N,A,P,M,O,S,U,_,G9⟩:=g.o;exact⟨_,_,_,_,_,_,_,_,_,_,_,_,rfl,Ja ⟨λh=>(z h).set2 n rfl rfl _ _,λh=>(N h).set2 n rfl rfl _ _,λh=>(A h).set2 n rfl rfl _ _,λh=>(P h).set2 n rfl rfl _ _,λh=>(M h).set2 n rfl rfl _ _,λh=>(O h).set2 n rfl rfl _ _,λh=>(S h).set2 n rfl rfl _ _,λh=>(U h).set2 n rfl rfl _ _,⟨λh=>by simp[Qa]at h,λ_ h=>by simp at h,λ_=>⟨B,rfl,rfl⟩⟩,G9⟩,Ja (o.o.putInt (i:=4) rfl hv)⟩
   . obtain⟨B,rfl,rfl⟩:=Do g (m 9 DO) ad;have Qa:=m 9 DO;have hv:=((Dq g) (m 7 DO));obtain⟨s1,a1,l1,c1,rfl⟩:=Jk.form2 (show Jk V _ _ from hv);obtain⟨s,a,l,c,n,i⟩:=o.o.int (i:=5) rfl;have e0:=n.c0;have f0:=n.f0;have e1:=n.c1;have f1:=n.f1;clear m;refine Za ?_;obtain⟨z,N,A,P,M,O,S,U,X,_⟩:=g.o;exact⟨_,_,_,_,_,_,_,_,_,_,_,_,rfl,Ja ⟨λh=>(z h).set2 n rfl rfl _ _,λh=>(N h).set2 n rfl rfl _ _,λh=>(A h).set2 n rfl rfl _ _,λh=>(P h).set2 n rfl rfl _ _,λh=>(M h).set2 n rfl rfl _ _,λh=>(O h).set2 n rfl rfl _ _,λh=>(S h).set2 n rfl rfl _ _,λh=>(U h).set2 n rfl rfl _ _,X,⟨λh=>by simp[Qa]at h,λ_ h=>by simp at h,λ_=>⟨B,rfl,rfl⟩⟩⟩,Ja (o.o.putInt (i:=5) rfl hv)⟩
  rintro D af ff ah ⟨tf,tg,ti,tj,tk,tl,tm,tn,tA,tB,x8,x9,rfl,g,o⟩;obtain⟨B11,rfl,rfl⟩:=g.o.2.2.2.2.2.2.2.2.1.2.2 (ah 10 DR);obtain⟨B12,rfl,rfl⟩:=g.o.2.2.2.2.2.2.2.2.2.2.2 (ah 11 DR);clear g ah M3;have M4:Hid (Mem w ff [some (w.heap.size,.rat (p)),some (w.heap.size+1,.rat (q)),some (w.heap.size+1+1,.rat (0)),some (B8,.int (Y)),some (B11,.int (lf)),some (B12,.int (rt))]):=o;clear o;go_upto_region 5 with fail
  refine Jn Ub [[],[0],[],[1,2],[],[4],[],[5,6,3],[3,7,7],[],[9,8,8,0,1,2,3,4,5,6,7,8,9]] (by kernel_rfl) DR
   (λD af V=>∃(tp tq tr ts tt tu tv tw tx tC:J) (x9:Option (Nat × Dat)),af={ tmps:=#[L #[E s,C a l c,E t,C b k d],L #[E s',C a' l' c',E t',C b' k' d'],G (some ⟨w.heap.size,0,none⟩),G (some ⟨w.heap.size+1,0,none⟩),G (some ⟨w.heap.size+1+1,0,none⟩),G (some ⟨B8,0,none⟩),G (some ⟨B11,0,none⟩),G (some ⟨B12,0,none⟩),tC,undef,u10,u11,u12,u13,u14,E false,u16,u17,u18,u19,u20,u21,ta,tb,tc,td,te,tf,tg,ti,tj,tk,tl,tm,tn,tp,tq,tr,ts,tt,tu,tv,tw,tx,u44,u45,u46,u47,u48,u49,u50,u51,u52,u53,u54,u55,u56],defers:=[] }/\Hid ((D 0=true->tp=G (some ⟨w.heap.size,0,none⟩))/\(D 1=true->Has V tq (.int (Rat.num (p))))/\(D 2=true->Has V tr (.int (rt)))/\(D 3=true->Has V ts (.int (p.num*rt)))/\(D 4=true->tt=G (some ⟨w.heap.size+1,0,none⟩))/\(D 5=true->Has V tu (.int (Rat.num (q))))/\(D 6=true->Has V tv (.int (lf)))/\(D 7=true->Has V tw (.int (q.num*lf)))/\(D 8=true->Has V tx (.int (ab)))/\((D 9=false->x9=none)/\(D 9=true->D 10=false->∃B:Nat,tC=G (some ⟨B,0,none⟩)/\x9=some (B,.int 0))/\(D 10=true->∃B:Nat,tC=G (some ⟨B,0,none⟩)/\x9=some (B,.int (ab)))))/\Hid (Mem w V [some (w.heap.size,.rat (p)),some (w.heap.size+1,.rat (q)),some (w.heap.size+1+1,.rat (0)),some (B8,.int (Y)),some (B11,.int (lf)),some (B12,.int (rt)),x9]))
   ⟨_,_,_,_,_,_,_,_,_,_,none,rfl,Ja ⟨DO,DO,DO,DO,DO,DO,DO,DO,DO,DO⟩,Ja ((M4.o).none).drew⟩ ?step13 ?fin13
  case step13=>
   rintro D af V i ds aw hi m ad ⟨tp,tq,tr,ts,tt,tu,tv,tw,tx,tC,x9,rfl,g,o⟩;have Uh:i<11:=(Ad.1 hi).1;obtain rfl|rfl|rfl|rfl|rfl|rfl|rfl|rfl|rfl|rfl|rfl:=Ef i om
   all_goals
    simp only[Ah,Ae,Ak]at hi;subst hi
   . clear m;refine Za ?_;exact⟨_,_,_,_,_,_,_,_,_,_,_,rfl,(Di g),Ja (o.o)⟩
   . obtain rfl:=(g.o.1 (m 0 DO));clear m;obtain⟨s,a,l,c,t,b,k,d,n,r,i,j⟩:=o.o.rat (i:=0) rfl;obtain⟨e0,e1,e2,e3⟩:=n.cq;refine Za ?_;exact⟨_,_,_,_,_,_,_,_,_,_,_,rfl,(Dv (Di g) λ_=>i),Ja (o.o)⟩
   . clear m;obtain⟨s,a,l,c,n,i⟩:=o.o.int (i:=5) rfl;obtain⟨e0,e1⟩:=n.cp;refine Za ?_;exact⟨_,_,_,_,_,_,_,_,_,_,_,rfl,(Df g λ_=>i),Ja (o.o)⟩
   . have Q:=(g.o.2.1 (m 1 DO));have R:=(g.o.2.2.1 (m 2 DO));have T:=Ja (XY _ _ p.num rt V Q R (by have R:=HP.o.num.words;have h2:=T4.o.words;omega));clear m Q R;refine Jb rfl rfl λK hK=>?_;go_simp;go_wp2_with(go_at_call 85;refine T.o.mono ?_;rintro e w5 ⟨v5,rfl,W,f⟩)
     obtain⟨z,N,A,_,M,O,S,U,X,G9⟩:=g.o;exact⟨_,_,_,_,_,_,_,_,_,_,_,rfl,Ja ⟨z,λh=>(N h).below f,λh=>(A h).below f,λ_=>W,M,λh=>(O h).below f,λh=>(S h).below f,λh=>(U h).below f,λh=>(X h).below f,G9⟩,Ja (o.o.below f)⟩
   . clear m;refine Za ?_;exact⟨_,_,_,_,_,_,_,_,_,_,_,rfl,(Dx g),Ja (o.o)⟩
   . obtain rfl:=(g.o.2.2.2.2.1 (m 4 DO));clear m;obtain⟨s,a,l,c,t,b,k,d,n,r,i,j⟩:=o.o.rat (i:=1) rfl;obtain⟨e0,e1,e2,e3⟩:=n.cq;refine Za ?_;exact⟨_,_,_,_,_,_,_,_,_,_,_,rfl,(D0 (Dx g) λ_=>i),Ja (o.o)⟩
   . clear m;obtain⟨s,a,l,c,n,i⟩:=o.o.int (i:=4) rfl;obtain⟨e0,e1⟩:=n.cp;refine Za ?_;exact⟨_,_,_,_,_,_,_,_,_,_,_,rfl,(D4 g λ_=>i),Ja (o.o)⟩
   . have Q:=((Dk g) (m 5 DO));have R:=((Dn g) (m 6 DO));have T:=Ja (XY _ _ q.num lf V Q R (by have R:=HQ.o.num.words;have h2:=T3.o.words;omega));clear m Q R;refine Jb rfl rfl λK hK=>?_;go_simp;go_wp2_with(go_at_call 85;refine T.o.mono ?_;rintro e w5 ⟨v5,rfl,W,f⟩)
     obtain⟨z,N,A,P,M,O,S,_,X,G9⟩:=g.o;exact⟨_,_,_,_,_,_,_,_,_,_,_,rfl,Ja ⟨z,λh=>(N h).below f,λh=>(A h).below f,λh=>(P h).below f,M,λh=>(O h).below f,λh=>(S h).below f,λ_=>W,λh=>(X h).below f,G9⟩,Ja (o.o.below f)⟩
   . have Q:=(g.o.2.2.2.1 (m 3 DO));have R:=((Dq g) (m 7 DO));have T:=Ja ((by have h:=Lw _ _ (p.num*rt) (q.num*lf) V Q R (by have:=T8.o.words;omega) (by have:=T9.o.words;omega);rw[Ue.o]at h;exact h));clear m Q R;refine Jb rfl rfl λK hK=>?_;go_simp;go_wp2_with(go_at_call 81;refine T.o.mono ?_;rintro e w5 ⟨v5,rfl,W,f⟩)
     obtain⟨z,N,A,P,M,O,S,U,_,G9⟩:=g.o;exact⟨_,_,_,_,_,_,_,_,_,_,_,rfl,Ja ⟨z,λh=>(N h).below f,λh=>(A h).below f,λh=>(P h).below f,M,λh=>(O h).below f,λh=>(S h).below f,λh=>(U h).below f,λ_=>W,G9⟩,Ja (o.o.below f)⟩
   . have hf:D 10=false:=DQ aw ad;obtain rfl:=Dt g ad;clear m;refine Za ?_;obtain⟨z,N,A,P,M,O,S,U,X,_⟩:=g.o;exact⟨_,_,_,_,_,_,_,_,_,_,_,rfl,Ja ⟨z,λh=>(N h).alloc _,λh=>(A h).alloc _,λh=>(P h).alloc _,M,λh=>(O h).alloc _,λh=>(S h).alloc _,λh=>(U h).alloc _,λh=>(X h).alloc _,⟨λh=>by simp at h,λ_ _=>⟨_,rfl,rfl⟩,λh=>by simp[hf]at h⟩⟩,Ja (o.o.fill (i:=6) rfl (.int 0) (EK _))⟩
   . obtain⟨B,rfl,rfl⟩:=Do g (m 9 DO) ad;have Qa:=m 9 DO;have hv:=((Ds g) (m 8 DO));obtain⟨s1,a1,l1,c1,rfl⟩:=Jk.form2 (show Jk V _ _ from hv);obtain⟨s,a,l,c,n,i⟩:=o.o.int (i:=6) rfl;have e0:=n.c0;have f0:=n.f0;have e1:=n.c1;have f1:=n.f1;clear m;refine Za ?_;obtain⟨z,N,A,P,M,O,S,U,X,_⟩:=g.o;exact⟨_,_,_,_,_,_,_,_,_,_,_,rfl,Ja ⟨z,λh=>(N h).set2 n rfl rfl _ _,λh=>(A h).set2 n rfl rfl _ _,λh=>(P h).set2 n rfl rfl _ _,M,λh=>(O h).set2 n rfl rfl _ _,λh=>(S h).set2 n rfl rfl _ _,λh=>(U h).set2 n rfl rfl _ _,λh=>(X h).set2 n rfl rfl _ _,⟨λh=>by simp[Qa]at h,λ_ h=>by simp at h,λ_=>⟨B,rfl,rfl⟩⟩⟩,Ja (o.o.putInt (i:=6) rfl hv)⟩
  rintro D af bt ah ⟨tp,tq,tr,ts,tt,tu,tv,tw,tx,tC,x9,rfl,g,o⟩;obtain⟨ak,rfl,rfl⟩:=g.o.2.2.2.2.2.2.2.2.2.2.2 (ah 10 DR);clear g ah M4;have M5:Hid (Mem w bt [some (w.heap.size,.rat (p)),some (w.heap.size+1,.rat (q)),some (w.heap.size+1+1,.rat (0)),some (B8,.int (Y)),some (B11,.int (lf)),some (B12,.int (rt)),some (ak,.int (ab))]):=o;clear o;go_upto_region 6 with fail
  obtain⟨ia,gy,gw,gk,cj,bz⟩:=M5.o.int (i:=6) rfl;obtain⟨Qz,Qy⟩:=cj.cp;obtain⟨gi,fy,ft,gt,cl,ct⟩:=M5.o.int (i:=3) rfl;obtain⟨Qx,Qv⟩:=cl.cp;have T:=Ja (Id _ _ ab Y bt bz ct (by have:=T5.o.words;omega) (by have:=T1.o.words;omega));rw[Ui.o]at T;go_upto_region 7 with(go_at_call 83;refine T.o.mono ?_;clear T;rintro e w1 ⟨u,rfl,hu,hb⟩;obtain⟨bd,bf,bc,az,rfl⟩:=Jk.form2 hu)
  obtain⟨ai,hV⟩:=ex (w1.alloc (F #[E bd,C bf bc az] 36));obtain⟨bg,bi⟩:=ex (w1.heap.size);have o:Mem w (w1.alloc (F #[E bd,C bf bc az] 36)) [some (w.heap.size,.rat (p)),some (w.heap.size+1,.rat (q)),some (w.heap.size+1+1,.rat (0)),some (B8,.int (Y)),some (B11,.int (lf)),some (B12,.int (rt)),some (ak,.int (ab)),some (w1.heap.size,.int (ag))]:=Mem.push (M5.o.below hb) (.int (ag)) hu;rw[hV,bi]at o;rw[hV];rw[bi];have M6:Hid (Mem w ai [some (w.heap.size,.rat (p)),some (w.heap.size+1,.rat (q)),some (w.heap.size+1+1,.rat (0)),some (B8,.int (Y)),some (B11,.int (lf)),some (B12,.int (rt)),some (ak,.int (ab)),some (bg,.int (ag))]):=Ja (o);clear M5;clear o hV bi;clear cj Qz Qy bz cl Qx Qv ct hu hb;obtain⟨ef,fk,du,eh,aq,fd⟩:=M6.o.int (i:=6) rfl;obtain⟨Qk,Qn⟩:=aq.cp;obtain⟨f7,fa,dp,ei,ap,co⟩:=M6.o.int (i:=7) rfl;obtain⟨Qf,Qh⟩:=ap.cp;obtain⟨fe,dh,fh,fm,av,ew⟩:=M6.o.int (i:=4) rfl;obtain⟨Qg,Qb⟩:=av.cp;obtain⟨dj,de,fo,ed,eb,er,fl,fc,an,fg,fv,gn⟩:=M6.o.rat (i:=1) rfl;obtain⟨Ql,Qi,Qm,Qe⟩:=an.cq;obtain⟨gu,ig,fs,gp,fw,ie,ii,gc,ae,gj,gh,ij⟩:=M6.o.rat (i:=2) rfl;obtain⟨Qd,Qj,Qc,Qo⟩:=ae.cq;obtain⟨Qr,Qp,Qs,Qq⟩:=ae.fq;obtain⟨H1,H2,H3,H4,H5⟩:=GB (λ(V:H) (h:Bl ai V)=>X3 _ _ ab ag V (fd.below h) (co.below h) T7.o T5.o T6.o) (λ(V:H) (h:Bl ai V)=>FO _ q V (fg.below h)) (λ(V:H) (u:J) (h:Bl ai V) (hu:Jk V u (q.den:Int))=>X3 u _ (q.den:Int) ag V hu (co.below h) T7.o HQ.o.den T6.o) (λ(V:H) (u:J) (h:Bl ai V) (hu:Jk V u ((q.den:Int)/ag))=>XY _ u lf ((q.den:Int)/ag) V (ew.below h) hu (by have R:=T3.o.words;have h2:=(DZ.div (y:=ag) HQ.o.den).words;omega)) (λ(V:H) (u v:J) (hu:Jk V u (ab/ag)) (hv:Jk V v (lf*((q.den:Int)/ag)))=>Kg u v (p+q) V (by rw[Uu.o];exact hu) (by rw[Uw.o];exact hv));have ic:ak≠w.heap.size+1+1:=M6.o.ne 6 2 rfl rfl DR;have gl:bg≠w.heap.size+1+1:=M6.o.ne 7 2 rfl rfl DR;have ga:B11≠w.heap.size+1+1:=M6.o.ne 4 2 rfl rfl DR;have go:w.heap.size+1≠w.heap.size+1+1:=M6.o.ne 1 2 rfl rfl DR;have x:Bl ai ai.drew:=(BB _ ai).drew;go_region_held3 (λZ=>Z.cell? ⟨ak,0,none⟩=some (E ef)/\Z.cell? ⟨ak,1,none⟩=some (C fk du eh)/\Z.cell? ⟨bg,0,none⟩=some (E f7)/\Z.cell? ⟨bg,1,none⟩=some (C fa dp ei)/\Z.cell? ⟨B11,0,none⟩=some (E fe)/\Z.cell? ⟨B11,1,none⟩=some (C dh fh fm)/\Z.cell? ⟨w.heap.size+1,0,none⟩=some (E dj)/\Z.cell? ⟨w.heap.size+1,1,none⟩=some (C de fo ed)/\Z.cell? ⟨w.heap.size+1,2,none⟩=some (E eb)/\Z.cell? ⟨w.heap.size+1,3,none⟩=some (C er fl fc)) (first|(with_reducible exact⟨Qk,Qn,Qf,Qh,Qg,Qb,Ql,Qi,Qm,Qe⟩)|(go_keep;done)|(refine⟨?_,?_,?_,?_,?_,?_,?_,?_,?_,?_⟩<;>((repeat rw[JH om]);first|assumption|(go_keep;done))))
   (first
    |(go_at_call 84;refine(H1.o _ x).mono ?_;clear H1;rintro e w2 ⟨u2,rfl,Qt,aj⟩;have x:=Bt x aj;obtain⟨Qk,Qn⟩:=(aq.below x).cp;obtain⟨Qf,Qh⟩:=(ap.below x).cp;obtain⟨Qg,Qb⟩:=(av.below x).cp;obtain⟨Ql,Qi,Qm,Qe⟩:=(an.below x).cq;obtain⟨Qd,Qj,Qc,Qo⟩:=(ae.below x).cq;obtain⟨Qr,Qp,Qs,Qq⟩:=(ae.below x).fq)
    |(go_at_call 82;refine(H2.o _ x).mono ?_;clear H2;rintro e w3 ⟨u3,rfl,en,cg⟩;have Qt:=Qt.below cg;have x:=Bt x cg;obtain⟨Qk,Qn⟩:=(aq.below x).cp;obtain⟨Qf,Qh⟩:=(ap.below x).cp;obtain⟨Qg,Qb⟩:=(av.below x).cp;obtain⟨Ql,Qi,Qm,Qe⟩:=(an.below x).cq;obtain⟨Qd,Qj,Qc,Qo⟩:=(ae.below x).cq;obtain⟨Qr,Qp,Qs,Qq⟩:=(ae.below x).fq)
    |(go_at_call 84;refine(H3.o _ _ x en).mono ?_;clear H3;rintro e w4 ⟨u4,rfl,fj,cn⟩;have Qt:=Qt.below cn;have x:=Bt x cn;obtain⟨Qk,Qn⟩:=(aq.below x).cp;obtain⟨Qf,Qh⟩:=(ap.below x).cp;obtain⟨Qg,Qb⟩:=(av.below x).cp;obtain⟨Ql,Qi,Qm,Qe⟩:=(an.below x).cq;obtain⟨Qd,Qj,Qc,Qo⟩:=(ae.below x).cq;obtain⟨Qr,Qp,Qs,Qq⟩:=(ae.below x).fq)
    |(go_at_call 85;refine(H4.o _ _ x fj).mono ?_;clear H4;rintro e w5 ⟨u5,rfl,et,f⟩;have Qt:=Qt.below f;have x:=Bt x f;obtain⟨Qk,Qn⟩:=(aq.below x).cp;obtain⟨Qf,Qh⟩:=(ap.below x).cp;obtain⟨Qg,Qb⟩:=(av.below x).cp;obtain⟨Ql,Qi,Qm,Qe⟩:=(an.below x).cq;obtain⟨Qd,Qj,Qc,Qo⟩:=(ae.below x).cq;obtain⟨Qr,Qp,Qs,Qq⟩:=(ae.below x).fq)
    |(go_at_call 86;refine(H5.o _ _ _ Qt et).mono ?_;clear H5;rintro e w6 ⟨u6,rfl,ci,fi⟩;obtain⟨dw,di,eq,dx,dt,f8,fb,dz,rfl⟩:=Ji.form ci;have x:=Bt x fi;obtain⟨Qk,Qn⟩:=(aq.below x).cp;obtain⟨Qf,Qh⟩:=(ap.below x).cp;obtain⟨Qg,Qb⟩:=(av.below x).cp;obtain⟨Ql,Qi,Qm,Qe⟩:=(an.below x).cq;obtain⟨Qd,Qj,Qc,Qo⟩:=(ae.below x).cq;obtain⟨Qr,Qp,Qs,Qq⟩:=(ae.below x).fq))
  all_goals go_wp2_with fail
  have Uc:=Bt M6.o.2.2 x;have Wb:=M6.o.ge 2 rfl;exact BA (v:=L #[E dw,C di eq dx,E dt,C f8 fb dz]) (by simp[results,Tryz.results40,go_sem,Qd,Qj,Qc,Qo]) rfl ⟨_,rfl,ci.put4 (ae.below x) rfl rfl rfl rfl _ _ _ _,Jp Uc Wb _ _ _ _⟩
