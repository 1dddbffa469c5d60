import Derived.Test.YthnpdhlepglmlaaGreatDoorV21
set_option linter.all false
open Go.IntKind renaming u64->B,i64->yD
open Go.Value renaming int->C,slice->D
open Go.Obj renaming cells->E
set_option maxRecDepth 99999
set_option maxHeartbeats 0
namespace Go.Proofs.YthnpdhlepglmlaaGreatDoor
open Proofs.Tryz
open Go.RowKit Go.Shelf
attribute [local go_sem] Oper.semAt_some
def Vp{W:World}{B:Nat}{t:TypeId}{a b u0 u1:Value}(x0 x1 y0 y1:Value)(h:JC W B t a b)(k:JC W (B+1) t u0 u1):
 JC ((((W.setCell ⟨B,0,none⟩ x0).setCell ⟨B,1,none⟩ x1).setCell ⟨B+1,0,none⟩ y0).setCell ⟨B+1,1,none⟩ y1).drew B t x0 x1/\JC ((((W.setCell ⟨B,0,none⟩ x0).setCell ⟨B,1,none⟩ x1).setCell ⟨B+1,0,none⟩ y0).setCell ⟨B+1,1,none⟩ y1).drew (B+1) t y0 y1:=
 ⟨((((h.set0 x0).set1 x1).far DI y0).far DI y1).drew,((((k.far DI x0).far DI x1).set0 y0).set1 y1).drew⟩
def lG(ab R la t ca:Nat)(b:om)(lb cb x y d s H L:Nat)(w:World)(h1:(la:Int)-1=t)(bi:ab<w.heap.size)
(ka:w.cell? ⟨ab,R+t,none⟩=some (C B (d:Nat)))(bj:d<Y)(hs:s<=63)(HS:Hid ((64:Int)-(Lib.bitLen d:Int)=(s:Int)))(df:la<=1099511627776)(co:t<la)
(aj:Hid (∀V:World,Bl w V->Calls Tryz.prog 255 #[D (some ⟨ab,R,none⟩) la ca,C .i64 (la:Nat),C B (s:Nat)] V λe w'=>e=.returned (C B (H:Nat))/\Bl V w'))
(am:Hid (∀V:World,Bl w V->Calls Tryz.prog 255 #[D b lb cb,C .i64 (la:Nat),C B (s:Nat)] V λe w'=>e=.returned (C B (L:Nat))/\Bl V w'))
(F:H<Y)(bg:L<=H)(az:Hid (∀sg h l a nb i c,Hr H L sg h l a nb i c->c<=l->nb+c<=h-l->I7 x y a nb i c)):
 Calls Tryz.prog 223 #[D (some ⟨ab,R,none⟩) la ca,D b lb cb] w λe w'=>∃g pb a nb:Nat,e=.returned (.tuple #[.agg #[C B (g:Nat),C B (pb:Nat)],.agg #[C B (a:Nat),C B (nb:Nat)]])/\(g<Y/\pb<Y/\a<Y/\nb<Y)/\(pb=0\/I7 x y g pb a nb)/\Bl w w':=by
 have i1:yD.wrap ((la:Int)-1)=(t:Int):=by rw[h1];exact BV _ O
 have i3:yD.wrap (t:Int)=(t:Int):=BV _ O;have dz:B.wrap (s:Int)=(s:Int):=Bj _ O;obtain⟨W0,K⟩:=ex ((w.alloc (E #[C B 0,C B 0] 261)).alloc (E #[C B 0,C B 0] 261));have Qk:Bl w W0:=by rw[<-K];exact(Ba w _).alloc DI _
 have b4:JC W0 w.heap.size 261 (C B 0) (C B 0):=by rw[<-K];exact(JC.new w _ _ _).alloc _
 have b5:JC W0 (w.heap.size+1) 261 (C B 0) (C B 0):=by
  have h:=JC.new (w.alloc (E #[C B 0,C B 0] 261)) 261 (C B 0) (C B 0);rw[Ax,K]at h;exact h
 have Qv:=(Qk.cell (p:=⟨ab,R+t,none⟩) bi).trans ka;have Qn:=Z K;have Qm:=Z (show ∀V:World,Calls Tryz.prog 254 #[C B (d:Nat)] V λe w'=>e=.returned (C .i64 (s:Nat))/\w'=V from λV=>by
  have h:=Tryz.bits_LeadingZeros64 (d:Nat) V O (by unfold Y at bj;omega);rw[Fo,HS.o]at h;exact h)
 clear K ka HS;go_enter func223,ntmps223
 go_upto_region 1 with fail
 try rw[Qn.o]
 go_upto_region 2 with(go_at_call 254;refine(Qm.o _).mono ?_;rintro e w' ⟨rfl,e1⟩;have e2:=e1.symm;subst e2;clear e1)
 have hq:=Qk;go_upto_region 3 with(first
  |(go_at_call 255;refine(aj.o _ hq).mono ?_;clear aj;rintro e w1 ⟨rfl,ae⟩;have hq:=Bt hq ae)
  |(go_at_call 255;refine(am.o _ hq).mono ?_;clear am;rintro e w2 ⟨rfl,ah⟩;have hq:=Bt hq ah))
 go_wp2_with fail
 obtain⟨A,m⟩:=ex (((w2.alloc (E #[C B 0,C B 0] 261)).alloc (E #[C B 1,C B 0] 261)).alloc (E #[C B 0,C B 1] 261));have Qp:Bl w A:=by rw[<-m];exact((hq.alloc hq.size _).alloc (by have:=hq.size;simp;omega) _).alloc (by have:=hq.size;simp;omega) _
 have u:JC A w2.heap.size 261 (C B (0:Nat)) (C B (0:Nat)):=by rw[<-m];exact((JC.new w2 _ _ _).alloc _).alloc _
 have n:JC A (w2.heap.size+1) 261 (C B (1:Nat)) (C B (0:Nat)):=by
  have h:=(JC.new (w2.alloc (E #[C B 0,C B 0] 261)) 261 (C B 1) (C B 0)).alloc (E #[C B 0,C B 1] 261);rw[Ax,m]at h;exact h
 have o:JC A (w2.heap.size+1+1) 261 (C B (0:Nat)) (C B (1:Nat)):=by
  have h:=JC.new ((w2.alloc (E #[C B 0,C B 0] 261)).alloc (E #[C B 1,C B 0] 261)) 261 (C B 0) (C B 1);rw[Ax,Ax,m]at h;exact h
 have Q:=Bt ae ah;have j:JC A w.heap.size 261 (C B 0) (C B 0):=by rw[<-m];exact(((b4.below Q).alloc _).alloc _).alloc _
 have k:JC A (w.heap.size+1) 261 (C B 0) (C B 0):=by rw[<-m];exact(((b5.below Q).alloc _).alloc _).alloc _
 have Qw:w.heap.size+1<w2.heap.size:=by have:=(b5.below Q).lt;exact this
 rw[m];obtain⟨B9,an⟩:=ex (w2.heap.size);rw[an]at u n o Qw ⊢;clear m Q b4 b5 ae ah hq Qk an Qv Qm Qn;go_loopw [7,8] (λhv lv wr=>∃h l g pb a nb i c:Nat,hv=C B (h:Nat)/\lv=C B (l:Nat)/\Hid (∃sg,Hr H L sg h l a nb i c)/\Hid (pb=0\/I7 x y g pb a nb)/\(h<Y/\g<Y/\pb<Y/\a<Y/\nb<Y/\i<Y/\c<Y)/\
  JC wr B9 261 (C B (g:Nat)) (C B (pb:Nat))/\JC wr (B9+1) 261 (C B (a:Nat)) (C B (nb:Nat))/\JC wr (B9+1+1) 261 (C B (i:Nat)) (C B (c:Nat))/\JC wr w.heap.size 261 (C B 0) (C B 0)/\JC wr (w.heap.size+1) 261 (C B 0) (C B 0)/\Bl w wr) (λ_ lv _=>(intOf lv).toNat)
 case atStart=>exact⟨H,L,0,0,1,0,0,1,J,J,⟨1,Hr.start bg⟩,An J,⟨F,by unfold Y;omega,by unfold Y;omega,by unfold Y;omega,by unfold Y;omega,by unfold Y;omega,by unfold Y;omega⟩,u,n,o,j,k,Qp⟩
 case round=>
  clear u n o j k Qp;obtain⟨h,l,g,pb,a,nb,i,c,rfl,rfl,ai,S,⟨z1,z2,z3,z4,z5,z6,z7⟩,u,n,o,j,k,hB⟩:=hrel;obtain⟨sg,hle⟩:=ai.o;have dh:=hle.2.2.2.2.2.2.2;have dx:=hle.2.2.2.2.2.2.1;obtain⟨fh,fi⟩:=u.cp;obtain⟨ed,ei⟩:=n.cp;obtain⟨f9,fg⟩:=o.cp;by_cases c1:c<=l
  . obtain⟨y1,y2⟩:=hle.small O;obtain⟨e,he⟩:∃e:Nat,(h:Int)-(l:Int)=(e:Int):=⟨h-l,O⟩;obtain⟨f,hf⟩:∃f:Nat,(nb:Int)+(c:Int)=(f:Int):=⟨nb+c,O⟩;have we:B.wrap (e:Int)=(e:Int):=Bj _ (by unfold Y at z1;omega);have wf:B.wrap (f:Int)=(f:Int):=Bj _ (by unfold Y at F;omega);by_cases c2:f<=e
    . have Qi:=Z (az.o _ _ _ _ _ _ _ hle c1 O);have I:=hle.step (show 1<=l by omega);have z:=Z I;obtain⟨q,hq⟩:=ex (h/l);obtain⟨r,hr⟩:=ex (h%l);rw[hq,hr]at I z;have dt:r<l:=by rw[<-hr];exact CC _ O
      have dj:(h:Int)/(l:Int)=(q:Int):=O
      have Uc:(h:Int)%(l:Int)=(r:Int):=O
      have Ql:a+q*i<=L:=by
       have h1:=I.2.2.1;have h2:=Ce (a+q*i) (show 0<l by omega);omega
      have Qo:nb+q*c<=H:=by
       have h1:=I.2.1;have h2:=Ce (nb+q*c) (show 0<l by omega);omega
      obtain⟨P,hP⟩:=ex (q*i);obtain⟨G,ay⟩:=ex (q*c);rw[hP]at Ql z;rw[ay]at Qo z;obtain⟨M,ap⟩:=ex (a+P);obtain⟨N,aq⟩:=ex (nb+G);rw[ap]at Ql z;rw[aq]at Qo z;have p1:(q:Int)*(i:Int)=(P:Int):=O
      have p2:(q:Int)*(c:Int)=(G:Int):=O
      have p3:(a:Int)+(P:Int)=(M:Int):=O
      have p4:(nb:Int)+(G:Int)=(N:Int):=O
      have v1:B.wrap (P:Int)=(P:Int):=Bj _ (by unfold Y at F;omega);have v2:B.wrap (G:Int)=(G:Int):=Bj _ (by unfold Y at F;omega);have v3:B.wrap (M:Int)=(M:Int):=Bj _ (by unfold Y at F;omega);have v4:B.wrap (N:Int)=(N:Int):=Bj _ (by unfold Y at F;omega);have di:q<=h:=by rw[<-hq];exact FB _ _
      have v5:B.wrap (q:Int)=(q:Int):=Bj _ (by unfold Y at z1;omega);have de:¬(l=0):=O
      obtain⟨cj,cn⟩:=u.fp;obtain⟨bm,bn⟩:=n.fp;obtain⟨bu,bz⟩:=o.fp;clear I hle hP ay ap aq hq hr y1 y2 ai S;go_upto_region 6 with fail
      go_quiet (fail)
      go_wp2_with fail
      go_region
      go_wp2_with fail
      have g9:JC (wr.drewN (nq+1)) B9 261 (C B (g:Nat)) (C B (pb:Nat)):=u;have Ub:JC (wr.drewN (nq+1)) (B9+1) 261 (C B (a:Nat)) (C B (nb:Nat)):=n;have Qs:JC (wr.drewN (nq+1)) (B9+1+1) 261 (C B (i:Nat)) (C B (c:Nat)):=o;have g4:JC (wr.drewN (nq+1)) w.heap.size 261 (C B 0) (C B 0):=j;have g5:JC (wr.drewN (nq+1)) (w.heap.size+1) 261 (C B 0) (C B 0):=k;have gB:Bl w (wr.drewN (nq+1)):=Ml hB _;rw[Uc];refine⟨⟨l,r,a,nb,i,c,M,N,J,J,⟨_,z.o⟩,Ap Qi.o,⟨O,z4,z5,z6,z7,O,O⟩,?_,?_,?_,?_,?_,?_⟩,by simp[intOf];omega⟩
      . exact(((((g9.set0 _).set1 _).far DI _).far DI _).far Dh _).far Dh _
      . exact(((((Ub.far DI _).far DI _).set0 _).set1 _).far DI _).far DI _
      . exact(((((Qs.far Dh _).far Dh _).far DI _).far DI _).set0 _).set1 _
      . exact(((((g4.far Dh _).far Dh _).far Dh _).far Dh _).far Dh _).far Dh _
      . exact(((((g5.far Dh _).far Dh _).far Dh _).far Dh _).far Dh _).far Dh _
      . exact(((((gB.setCell (p:=⟨_,0,none⟩) Dh _).setCell (p:=⟨_,1,none⟩) Dh _).setCell (p:=⟨_,0,none⟩) Dh _).setCell (p:=⟨_,1,none⟩) Dh _).setCell (p:=⟨_,0,none⟩) Dh _).setCell (p:=⟨_,1,none⟩) Dh _
    . clear hle;obtain⟨Qx,Qq⟩:=j.cp;obtain⟨Qy,Qu⟩:=k.cp;obtain⟨Qr,Qt⟩:=j.fp;obtain⟨Qz,Ua⟩:=k.fp;go_wp2_with fail
      go_region
      go_wp2_with fail
      obtain⟨q4,q5⟩:=Vp (C B (g:Nat)) (C B (pb:Nat)) (C B (a:Nat)) (C B (nb:Nat)) j k;obtain⟨W,X⟩:=q4.cp;obtain⟨U,T⟩:=q5.cp;exact BA (v:=.tuple #[.agg #[C B (g:Nat),C B (pb:Nat)],.agg #[C B (a:Nat),C B (nb:Nat)]]) (by simp[results,results223,go_sem,W,X,U,T]) J ⟨g,pb,a,nb,J,⟨z2,z3,z4,z5⟩,S.o,((((hB.setCell (p:=⟨_,0,none⟩) Dh _).setCell (p:=⟨_,1,none⟩) Dh _).setCell (p:=⟨_,0,none⟩) Dh _).setCell (p:=⟨_,1,none⟩) Dh _).drew⟩
  . clear hle;obtain⟨Qx,Qq⟩:=j.cp;obtain⟨Qy,Qu⟩:=k.cp;obtain⟨Qr,Qt⟩:=j.fp;obtain⟨Qz,Ua⟩:=k.fp;go_wp2_with fail
    go_region
    go_wp2_with fail
    obtain⟨q4,q5⟩:=Vp (C B (g:Nat)) (C B (pb:Nat)) (C B (a:Nat)) (C B (nb:Nat)) j k;obtain⟨W,X⟩:=q4.cp;obtain⟨U,T⟩:=q5.cp;exact BA (v:=.tuple #[.agg #[C B (g:Nat),C B (pb:Nat)],.agg #[C B (a:Nat),C B (nb:Nat)]]) (by simp[results,results223,go_sem,W,X,U,T]) J ⟨g,pb,a,nb,J,⟨z2,z3,z4,z5⟩,S.o,((((hB.setCell (p:=⟨_,0,none⟩) Dh _).setCell (p:=⟨_,1,none⟩) Dh _).setCell (p:=⟨_,0,none⟩) Dh _).setCell (p:=⟨_,1,none⟩) Dh _).drew⟩
def lH(a:om)(la ca:Nat)(b:om)(lb cb x y:Nat)(w:World)(F:Row B w (D a la ca) (Jh Y x))(G:Row B w (D b lb cb) (Jh Y y))(A:y<=x)(aq:2<=lb):
 Calls Tryz.prog 223 #[D a la ca,D b lb cb] w λe w'=>∃n pb i nb:Nat,e=.returned (.tuple #[.agg #[C B (n:Nat),C B (pb:Nat)],.agg #[C B (i:Nat),C B (nb:Nat)]])/\(n<Y/\pb<Y/\i<Y/\nb<Y)/\(pb=0\/I7 x y n pb i nb)/\Bl w w':=by
 obtain⟨ah,aj,ay,m,ae⟩:=JM F;obtain⟨ai,am,az,ap,an⟩:=JM G;have I:lb<=la:=by rw[ah,ai];exact LC A
 obtain⟨k,hk⟩:∃k,la=k+2:=⟨la-2,O⟩;obtain⟨ab,r,rfl,X,ka⟩:=ae (k+1) O;have c:=JA Jg x;have z:(Jh Y x).length=k+2:=O
 have v:(Jh Y x)[k+1]?.getD 0≠0:=by
  intro e;have Q:=JN Y (Jh Y x) (k+1);rw[Ai O,e,C8,Cr,Jz Jg]at Q;have h4:=Y7 c (k+1);have u:=QK Jg z O;rw[show k+2-1=k+1 from J]at u;omega
 have f:(Jh Y x)[k+1]?.getD 0<Y:=c.getD uo _;obtain⟨d,g⟩:=ex ((Jh Y x)[k+1]?.getD 0);rw[g]at ka v f;obtain⟨K,L,t⟩:=bitLen_spec d v (by rw[<-LE];exact f);have W:Lib.bitLen d<=64:=by
  rcases Ca 64 (Lib.bitLen d)with h|h
  . exfalso
    have u:2^64<=2^(Lib.bitLen d-1):=AB O O;rw[LE]at f;omega
  . exact h
 obtain⟨s,hs⟩:∃s,s=64-Lib.bitLen d:=⟨_,J⟩;obtain⟨o,v2⟩:=Vh (s:=s) c z g L t K W hs;rw[Jz Jg]at o v2;have H:d<2^(64-s):=by rw[hs,show 64-(64-Lib.bitLen d)=Lib.bitLen d from by omega];exact t
 have j:0<Y^k*2^(64-s):=DG (CV uo) (Cp _);have U:Hc x k s<Y:=by
  unfold Hc;rw[Cb j];have hp:=Mh (s:=s) O;have M:Y*(Y^k*2^(64-s))*2^s=Y^(k+2):=by
   rw[CJ,CJ,A4 (2^(64-s)),hp,Cy,Cy,A4 Y,CJ]
  rw[<-M]at o;exact Nat.lt_of_mul_lt_mul_right o
 have p:=λ(V:World) (h:Bl w V)=>Vo (some ⟨ab,r,none⟩) la ca (Jh Y x) k (k+1) la s V (Row.below F h) c hk O O O (Aa _) m (λ_=>by rw[g];exact H);have q:=λ(V:World) (h:Bl w V)=>Vo b lb cb (Jh Y y) k (k+1) la s V (Row.below G h) (JA Jg y) hk O O O I m (λe=>by
  have R:=JN Y (Jh Y y) (k+1);rw[Ai O,Jz Jg]at R;have T:=JN Y (Jh Y x) (k+1);rw[Ai O,Jz Jg,g]at T;have h8:=Y7 c (k+1);have h9:(Jh Y y)[k+1]?.getD 0<=d:=by
   rcases Ca d ((Jh Y y)[k+1]?.getD 0)with h|h
   . exfalso
     have:=Am (Y^(k+1)) (show d+1<=(Jh Y y)[k+1]?.getD 0 from h);rw[Fm,Nat.mul_one]at this;omega
   . exact h
  omega)
 rw[Jz Jg]at p q;refine lG ab r la (k+1) ca b lb cb x y d s (Hc x k s) (Hc y k s) w O X ka f O (show _=_ by omega) m O p q U (Nat.div_le_div_right A) ?_;intro sg h l i nb c xb hle N P;refine hle.out (S:=Y^k*2^(64-s)) (al:=x%(Y^k*2^(64-s))) (be:=y%(Y^k*2^(64-s))) ?_ ?_ (CC _ j) (CC _ j) N P
 . grind[Hc,Cv]
 grind[Hc,Cv]
def Oa(W:World)(p:Addr):Nat:=match W.cell? p with|some (.int _ z)=>z.toNat|_=>0
def rowVal(W:World):Value->Nat
 |D (some p) l _=>val Y ((List.range l).map λj=>Oa W ⟨p.block,p.off+j,none⟩)
 |_=>0
def UN.rowVal{W:World}{a:om}{l c n:Nat}(h:UN W (D a l c) n):rowVal W (D a l c)=n:=by
 obtain⟨f,_,_,_,g⟩:=JM h;rcases A5 l with d|d
 . subst d;have hn:=(Yb Jg).1 (AW f.symm);subst hn;cases a<;>rfl
 . obtain⟨b,off,rfl,_,_⟩:=g 0 d;show val Y ((List.range l).map λj=>Oa W ⟨b,off+j,none⟩)=n;have e:(List.range l).map (λj=>Oa W ⟨b,off+j,none⟩)=Jh Y n:=by
    refine List.ext_getElem DH λj i k=>?_;grind[Oa]
   rw[e,Jz Jg]
def lI(a:om)(la ca:Nat)(b:om)(lb cb x y:Nat)(w:World)(ra:Row B w (D a la ca) (Jh Y x))(rb:Row B w (D b lb cb) (Jh Y y))(az:la<1000000000000)(bg:lb<1000000000000):
 Calls Tryz.prog 167 #[D a la ca,D b lb cb] w λe w'=>∃u,e=.returned u/\UN w' u (Nat.gcd x y)/\Bl w w':=by
 have G:=Z (RC _ _ (Jh Y x) (Jh Y y) w ra rb (JA Jg x) (JA Jg y) (Kb Jg x) (Kb Jg y));rw[Jz Jg,Jz Jg]at G;obtain⟨cm,ae⟩:=ex (D9 x y:Int);rw[ae]at G;obtain⟨R,U,Q⟩:=DZ ae ra rb;clear ae ra rb;go_enter func167,ntmps167
 go_upto_if 14 with(go_at_call 104;refine G.o.mono ?_;rintro e w1 ⟨rfl,r⟩)
 go_cut [0,1] λrv z wr=>∃(a0:om) (f c0 X:Nat) (g:om) (l1 c1 d:Nat),rv=D a0 f c0/\z=D g l1 c1/\Hid (UN wr (D a0 f c0) X)/\Hid (UN wr (D g l1 c1) d)/\Hid (d<=X/\Nat.gcd X d=Nat.gcd x y)/\f<1000000000000/\Bl w wr
 case first=>
  by_cases Qw:cm<0
  . have Qx:x<y:=by
     have h:=R.o;unfold D9 at h;omega
    go_wp2_with fail
    go_meet
    case rel=>exact⟨_,_,_,y,_,_,_,x,J,J,Z (UN.below Q.o r),Z (UN.below U.o r),Z ⟨O,Fa _ _⟩,bg,r⟩
  . have Qx:¬(x<y):=λh=>by
     have m:=R.o;rw[Lu h]at m;omega
    go_wp2_with fail
    go_meet
    case rel=>exact⟨_,_,_,x,_,_,_,y,J,J,Z (UN.below U.o r),Z (UN.below Q.o r),Z ⟨O,J⟩,az,r⟩
 case rest=>
  obtain⟨a0,f,c0,X,g,l1,c1,d,rfl,rfl,m,I,A,h4,h5⟩:=hcut;clear G R U Q r;go_wp2_with fail
  go_loopw [0,1] (λrv z wr=>∃(a0:om) (f c0 X:Nat) (g:om) (l1 c1 d:Nat),rv=D a0 f c0/\z=D g l1 c1/\Hid (UN wr (D a0 f c0) X)/\Hid (UN wr (D g l1 c1) d)/\Hid (d<=X/\Nat.gcd X d=Nat.gcd x y)/\f<1000000000000/\Bl w wr)
   (λrv z wr=>rowVal wr rv+rowVal wr z)
  case atStart=>exact⟨a0,f,c0,X,g,l1,c1,d,J,J,m,I,A,h4,h5⟩
  case round=>
   clear m I A h4 h5;obtain⟨a0,f,c0,X,g,l1,c1,d,rfl,rfl,hX,i,o,bi,K⟩:=hrel;have bm:l1<=f:=by rw[UN.len hX.o,UN.len i.o];exact LC o.o.1
   by_cases bj:1<l1
   . have Qw:(1:Int)<(l1:Int):=O
     have P:d≠0:=λe=>by
      have h:=UN.len i.o;rw[e,JV]at h;simp at h;omega
     have Qu:=Z (lH a0 f c0 g l1 c1 X d _ hX.o i.o o.o.1 O);go_upto_region 5 with(go_at_call 223;refine Qu.o.mono ?_;rintro e w2 ⟨n,pb,s,nb,rfl,⟨b1,b2,b3,b4⟩,ai,j⟩)
     obtain⟨k,F⟩:=ex ((w2.alloc (E #[C B (n:Nat),C B (pb:Nat)] 261)).alloc (E #[C B (s:Nat),C B (nb:Nat)] 261));have T:=Bt K j;have t:Bl wr k:=by rw[<-F];exact(j.alloc j.size _).alloc (by have:=j.size;simp;omega) _
     have Qd:=Bt K t;have m5:JC k w2.heap.size 261 (C B (n:Nat)) (C B (pb:Nat)):=by rw[<-F];exact(JC.new w2 _ _ _).alloc _
     have m6:JC k (w2.heap.size+1) 261 (C B (s:Nat)) (C B (nb:Nat)):=by
      have h:=JC.new (w2.alloc (E #[C B (n:Nat),C B (pb:Nat)] 261)) 261 (C B (s:Nat)) (C B (nb:Nat));rw[Ax,F]at h;exact h
     have W:=UN.below hX.o t;have H:=UN.below i.o t;rw[F];clear F Qu j T;obtain⟨k0,k1⟩:=m5.cp;obtain⟨k2,k3⟩:=m6.cp;by_cases M:pb=0
     . subst M;have S:=Z (RU a0 f c0 g l1 c1 X d k W H P O);clear ai;go_wp2_with(go_at_call 225;refine S.o.mono ?_;rintro e w4 ⟨u,v,rfl,hu,hv,L⟩;obtain⟨ua,uc,rfl⟩:=UN.form hu;obtain⟨va,vc,rfl⟩:=UN.form hv)
       have Qi:=CC X (show d>0 by omega);have Qq:=UN.below H L;refine⟨⟨g,l1,c1,d,va,_,vc,X%d,J,J,Z Qq,Z hv,Z ⟨O,by rw[<-o.o.2,Fa d,<-Nat.gcd_rec,Fa]⟩,O,Bt Qd L⟩,?_⟩;rw[UN.rowVal Qq,UN.rowVal hv,UN.rowVal hX.o,UN.rowVal i.o];have:=o.o.1;omega
     . have q:=ai.resolve_left M;have Qs:nb*d≠0:=by
        have:=q.2.2.2;exact Nat.mul_ne_zero O P
       obtain⟨Qr,Qp,Qa,Qo,Qg⟩:=Hv (λ(V:World) (h:Bl k V)=>Vn n pb a0 f c0 g l1 c1 X d V (UN.below W h) (UN.below H h) b1 b2 O O (Nat.mul_ne_zero M P)) (λ(V:World) (h:Bl k V)=>Vn s nb a0 f c0 g l1 c1 X d V (UN.below W h) (UN.below H h) b3 b4 O O Qs) (q.less M O) q.gcd q.2.2.1;have Qf:=Z (show EC (n*X) (pb*d)<=X by
        have e1:=q.1;have e2:=CI (EC (n*X) (pb*d)) q.2.2.2;omega)
       clear q ai Qs;generalize EC (n*X) (pb*d)=D1 at *;generalize EC (s*X) (nb*d)=D2 at *;have hq:Bl k k.drew:=(BB _ k).drew;go_upto_region 6 with fail
       go_region_held3 (λw'=>w'.cell? ⟨w2.heap.size,0,none⟩=some (C B (n:Nat))/\w'.cell? ⟨w2.heap.size,1,none⟩=some (C B (pb:Nat))/\w'.cell? ⟨w2.heap.size+1,0,none⟩=some (C B (s:Nat))/\w'.cell? ⟨w2.heap.size+1,1,none⟩=some (C B (nb:Nat))) (exact⟨k0,k1,k2,k3⟩)
        (first
         |(go_at_call 224;refine(Qr.o _ hq).mono ?_;clear Qr;rintro e w4 ⟨u4,rfl,ap,L⟩;obtain⟨xa,xc,rfl⟩:=UN.form ap;have hq:=Bt hq L;obtain⟨k0,k1⟩:=(m5.below hq).cp;obtain⟨k2,k3⟩:=(m6.below hq).cp)
         |(go_at_call 224;refine(Qp.o _ hq).mono ?_;clear Qp;rintro e w5 ⟨u5,rfl,aj,am⟩;obtain⟨ya,yc,rfl⟩:=UN.form aj;have hq:=Bt hq am;obtain⟨k0,k1⟩:=(m5.below hq).cp;obtain⟨k2,k3⟩:=(m6.below hq).cp))
       all_goals go_wp2_with fail
       have aq:=UN.below ap am;refine⟨⟨xa,_,xc,D1,ya,_,yc,D2,J,J,Z aq,Z aj,Z ⟨Nat.le_of_lt Qg.o,Qo.o.trans o.o.2⟩,?_,Bt Qd hq⟩,?_⟩
       . have m:=LC Qf.o;rw[<-UN.len hX.o]at m;omega
       . rw[UN.rowVal aq,UN.rowVal aj,UN.rowVal hX.o,UN.rowVal i.o];exact Qa.o
   . rcases A5 l1 with h0|h0
     . subst h0;have Qt:=(Yb Jg).1 (AW (UN.len i.o).symm);have HC:=Z (VE a0 f c0 _ wr hX.o);have N:=Z (show X=Nat.gcd x y by rw[<-o.o.2,Qt,Nat.gcd_zero_right]);clear Qt;go_wp2_with(go_at_call 226;refine HC.o.mono ?_;rintro e w2 ⟨za,zc,rfl,hz,j⟩)
       go_ret;exact⟨_,J,by rw[<-N.o];exact hz,Bt K j⟩
     . obtain rfl:l1=1:=O
       obtain⟨ah,bn,bu⟩:=RR (UN.len i.o).symm;obtain⟨bb,bo,rfl,ay,kb⟩:=(JM i.o).2.2.2.2 0 O;rw[ah]at kb;have Qy:wr.cell? ⟨bb,bo,none⟩=some (C B (d:Nat)):=kb;have S:=Z (RU a0 f c0 (some ⟨bb,bo,none⟩) 1 c1 X d wr hX.o i.o O O);have Qi:=CC X (show d>0 by omega);have N:=Z (show Nat.gcd d (X%d)=Nat.gcd x y by rw[<-o.o.2,Fa d,<-Nat.gcd_rec,Fa]);have Qv:=Z (show ∀(V:World) (v:om) (l c:Nat),UN V (D v l c) (X%d)->Calls Tryz.prog 227 #[D (some ⟨V.heap.size,0,none⟩) 1 1,D v l c] (V.alloc (E #[C B (d:Nat)] 223)) λe w'=>∃u,e=.returned u/\UN w' u (Nat.gcd x y)/\Below (V.alloc (E #[C B (d:Nat)] 223)).heap.size (V.alloc (E #[C B (d:Nat)] 223)) w' from λV v l c h=>by
        have m:=(DR.made (xs:=[d]) (BD V (E #[C B (d:Nat)] 223))).row 0 1 1 DI O O O;have I:Row B (V.alloc (E #[C B (d:Nat)] 223)) (D (some ⟨V.heap.size,0,none⟩) 1 1) (Jh Y d):=by rw[ah];exact m
        have A:=lB (some ⟨V.heap.size,0,none⟩) 1 v l c d (X%d) _ I (UN.below h (Ba V _)) O;rw[N.o]at A;exact A)
       clear kb ah;go_upto_region 12 with(go_at_call 225;refine S.o.mono ?_;rintro e w2 ⟨u,v,rfl,hu,hv,j⟩;obtain⟨ua,uc,rfl⟩:=UN.form hu;obtain⟨va,vc,rfl⟩:=UN.form hv)
       have bz:=(j.cell (p:=⟨bb,bo,none⟩) ay).trans Qy;go_wp2_with(go_at_call 227;refine(Qv.o _ _ _ _ hv).mono ?_;rintro e w3 ⟨u3,rfl,an,t⟩;obtain⟨ta,tc,rfl⟩:=UN.form an)
       go_ret;have T:=Bt K j;exact⟨_,J,an,Vl T t⟩

