import Derived.Test.YtcahejkcdcjjgaaGreatDoorW21
set_option linter.all false
open Go.IntKind renaming u64->B,i64->Zz
open Go.Value renaming int->C,slice->D
open Go.Obj renaming cells->E
set_option maxRecDepth 99999
set_option maxHeartbeats 0
namespace Go.Proofs.YtcahejkcdcjjgaaGreatDoor
open Proofs.Tryz
open Go.RowKit Go.Shelf
attribute [local go_sem] Oper.semAt_some
def N6{W:World}{B:Nat}{t:TypeId}{c d u0 u1:Value}(x0 x1 a b:Value)(h:Ji W B t c d)(k:Ji W (B+1) t u0 u1):
 Ji ((((W.setCell ⟨B,0,none⟩ x0).setCell ⟨B,1,none⟩ x1).setCell ⟨B+1,0,none⟩ a).setCell ⟨B+1,1,none⟩ b).drew B t x0 x1/\Ji ((((W.setCell ⟨B,0,none⟩ x0).setCell ⟨B,1,none⟩ x1).setCell ⟨B+1,0,none⟩ a).setCell ⟨B+1,1,none⟩ b).drew (B+1) t a b:=
 ⟨((((h.set0 x0).set1 x1).far DJ a).far DJ b).drew,((((k.far DJ x0).far DJ x1).set0 a).set1 b).drew⟩
def TK(R X la G ca:Nat)(b:Zu)(lb cb x y d s z I:Nat)(w:World)(h1:(la:Int)-1=G)(bc:R<w.heap.size)
(ka:w.cell? ⟨R,X+G,none⟩=some (C B (d:Nat)))(bd:d<Y)(hs:s<=63)(HS:Hid ((64:Int)-(Lib.bitLen d:Int)=(s:Int)))(bt:la<=1099511627776)(bm:G<la)
(ai:Hid (∀V:World,Bl w V->Calls Tryz.prog 177 #[D (some ⟨R,X,none⟩) la ca,C .i64 (la:Nat),C B (s:Nat)] V λe u=>e=.returned (C B (z:Nat))/\Bl V u))
(aj:Hid (∀V:World,Bl w V->Calls Tryz.prog 177 #[D b lb cb,C .i64 (la:Nat),C B (s:Nat)] V λe u=>e=.returned (C B (I:Nat))/\Bl V u))
(M:z<Y)(az:I<=z)(ay:Hid (∀sg h l a nb k c,Em z I sg h l a nb k c->c<=l->nb+c<=h-l->FK x y a nb k c)):
 Calls Tryz.prog 149 #[D (some ⟨R,X,none⟩) la ca,D b lb cb] w λe u=>∃j g a nb:Nat,e=.returned (.tuple #[.agg #[C B (j:Nat),C B (g:Nat)],.agg #[C B (a:Nat),C B (nb:Nat)]])/\(j<Y/\g<Y/\a<Y/\nb<Y)/\(g=0\/FK x y j g a nb)/\Bl w u:=by
 have i1:Zz.wrap ((la:Int)-1)=(G:Int):=by rw[h1];exact BS _ O
 have i3:Zz.wrap (G:Int)=(G:Int):=BS _ O;have ck:B.wrap (s:Int)=(s:Int):=Bn _ O;obtain⟨W0,S⟩:=ex ((w.alloc (E #[C B 0,C B 0] 180)).alloc (E #[C B 0,C B 0] 180));have Qk:Bl w W0:=by rw[<-S];exact(Ba w _).alloc DJ _
 have b4:Ji W0 w.heap.size 180 (C B 0) (C B 0):=by rw[<-S];exact(Ji.new w _ _ _).alloc _
 have b5:Ji W0 (w.heap.size+1) 180 (C B 0) (C B 0):=by
  have h:=Ji.new (w.alloc (E #[C B 0,C B 0] 180)) 180 (C B 0) (C B 0);rw[A1,S]at h;exact h
 have Qv:=(Qk.cell (p:=⟨R,X+G,none⟩) bc).trans ka;have Qn:=Z S;have Qm:=Z (show ∀V:World,Calls Tryz.prog 176 #[C B (d:Nat)] V λe u=>e=.returned (C .i64 (s:Nat))/\u=V from λV=>by
  have h:=Tryz.bits_LeadingZeros64 (d:Nat) V O (by unfold Y at bd;omega);rw[Ck,HS.o]at h;exact h)
 clear S ka HS;go_enter func149,ntmps149
 go_upto_region 1 with fail
 try rw[Qn.o]
 go_upto_region 2 with(go_at_call 176;refine(Qm.o _).mono ?_;rintro e u ⟨rfl,e1⟩;have e2:=e1.symm;subst e2;clear e1)
 have i:=Qk;go_upto_region 3 with(first
  |(go_at_call 177;refine(ai.o _ i).mono ?_;clear ai;rintro e w1 ⟨rfl,ad⟩;have i:=Bt i ad)
  |(go_at_call 177;refine(aj.o _ i).mono ?_;clear aj;rintro e o ⟨rfl,ae⟩;have i:=Bt i ae))
 go_wp2_with fail
 obtain⟨L,t⟩:=ex (((o.alloc (E #[C B 0,C B 0] 180)).alloc (E #[C B 1,C B 0] 180)).alloc (E #[C B 0,C B 1] 180));have Qp:Bl w L:=by rw[<-t];exact((i.alloc i.size _).alloc (by have:=i.size;simp;omega) _).alloc (by have:=i.size;simp;omega) _
 have H:Ji L o.heap.size 180 (C B (0:Nat)) (C B (0:Nat)):=by rw[<-t];exact((Ji.new o _ _ _).alloc _).alloc _
 have A:Ji L (o.heap.size+1) 180 (C B (1:Nat)) (C B (0:Nat)):=by
  have h:=(Ji.new (o.alloc (E #[C B 0,C B 0] 180)) 180 (C B 1) (C B 0)).alloc (E #[C B 0,C B 1] 180);rw[A1,t]at h;exact h
 have F:Ji L (o.heap.size+1+1) 180 (C B (0:Nat)) (C B (1:Nat)):=by
  have h:=Ji.new ((o.alloc (E #[C B 0,C B 0] 180)).alloc (E #[C B 1,C B 0] 180)) 180 (C B 0) (C B 1);rw[A1,A1,t]at h;exact h
 have W:=Bt ad ae;have m:Ji L w.heap.size 180 (C B 0) (C B 0):=by rw[<-t];exact(((b4.below W).alloc _).alloc _).alloc _
 have n:Ji L (w.heap.size+1) 180 (C B 0) (C B 0):=by rw[<-t];exact(((b5.below W).alloc _).alloc _).alloc _
 have Qw:w.heap.size+1<o.heap.size:=by have:=(b5.below W).lt;exact this
 rw[t];obtain⟨B9,ak⟩:=ex (o.heap.size);rw[ak]at H A F Qw ⊢;clear t W b4 b5 ad ae i Qk ak Qv Qm Qn;go_loopw [7,8] (λhv lv wr=>∃h l j g a nb k c:Nat,hv=C B (h:Nat)/\lv=C B (l:Nat)/\Hid (∃sg,Em z I sg h l a nb k c)/\Hid (g=0\/FK x y j g a nb)/\(h<Y/\j<Y/\g<Y/\a<Y/\nb<Y/\k<Y/\c<Y)/\
  Ji wr B9 180 (C B (j:Nat)) (C B (g:Nat))/\Ji wr (B9+1) 180 (C B (a:Nat)) (C B (nb:Nat))/\Ji wr (B9+1+1) 180 (C B (k:Nat)) (C B (c:Nat))/\Ji wr w.heap.size 180 (C B 0) (C B 0)/\Ji wr (w.heap.size+1) 180 (C B 0) (C B 0)/\Bl w wr) (λ_ lv _=>(intOf lv).toNat)
 case atStart=>exact⟨z,I,0,0,1,0,0,1,J,J,⟨1,Em.start az⟩,Ar J,⟨M,by unfold Y;omega,by unfold Y;omega,by unfold Y;omega,by unfold Y;omega,by unfold Y;omega,by unfold Y;omega⟩,H,A,F,m,n,Qp⟩
 case round=>
  clear H A F m n Qp;obtain⟨h,l,j,g,a,nb,k,c,rfl,rfl,ah,HO,⟨z1,z2,z3,z4,z5,z6,z7⟩,H,A,F,m,n,hB⟩:=hrel;obtain⟨sg,hle⟩:=ah.o;have bu:=hle.2.2.2.2.2.2.2;have cj:=hle.2.2.2.2.2.2.1;obtain⟨de,dh⟩:=H.cp;obtain⟨cn,co⟩:=A.cp;obtain⟨cy,cz⟩:=F.cp;by_cases c1:c<=l
  . obtain⟨y1,y2⟩:=hle.small O;obtain⟨e,he⟩:∃e:Nat,(h:Int)-(l:Int)=(e:Int):=⟨h-l,O⟩;obtain⟨f,hf⟩:∃f:Nat,(nb:Int)+(c:Int)=(f:Int):=⟨nb+c,O⟩;have we:B.wrap (e:Int)=(e:Int):=Bn _ (by unfold Y at z1;omega);have wf:B.wrap (f:Int)=(f:Int):=Bn _ (by unfold Y at M;omega);by_cases c2:f<=e
    . have Qi:=Z (ay.o _ _ _ _ _ _ _ hle c1 O);have Q:=hle.step (show 1<=l by omega);have K:=Z Q;obtain⟨q,i⟩:=ex (h/l);obtain⟨r,hr⟩:=ex (h%l);rw[i,hr]at Q K;have cg:r<l:=by rw[<-hr];exact AV _ O
      have ce:(h:Int)/(l:Int)=(q:Int):=O
      have Uc:(h:Int)%(l:Int)=(r:Int):=O
      have Ql:a+q*k<=I:=by
       have h1:=Q.2.2.1;have h2:=Cl (a+q*k) (show 0<l by omega);omega
      have Qo:nb+q*c<=z:=by
       have h1:=Q.2.1;have h2:=Cl (nb+q*c) (show 0<l by omega);omega
      obtain⟨P,hP⟩:=ex (q*k);obtain⟨N,aq⟩:=ex (q*c);rw[hP]at Ql K;rw[aq]at Qo K;obtain⟨T,an⟩:=ex (a+P);obtain⟨U,ap⟩:=ex (nb+N);rw[an]at Ql K;rw[ap]at Qo K;have p1:(q:Int)*(k:Int)=(P:Int):=O
      have p2:(q:Int)*(c:Int)=(N:Int):=O
      have p3:(a:Int)+(P:Int)=(T:Int):=O
      have p4:(nb:Int)+(N:Int)=(U:Int):=O
      have v1:B.wrap (P:Int)=(P:Int):=Bn _ (by unfold Y at M;omega);have v2:B.wrap (N:Int)=(N:Int):=Bn _ (by unfold Y at M;omega);have v3:B.wrap (T:Int)=(T:Int):=Bn _ (by unfold Y at M;omega);have v4:B.wrap (U:Int)=(U:Int):=Bn _ (by unfold Y at M;omega);have bz:q<=h:=by rw[<-i];exact CN _ _
      have v5:B.wrap (q:Int)=(q:Int):=Bn _ (by unfold Y at z1;omega);have bn:¬(l=0):=O
      obtain⟨bj,bk⟩:=H.fp;obtain⟨bf,bg⟩:=A.fp;obtain⟨bh,bi⟩:=F.fp;clear Q hle hP aq an ap i hr y1 y2 ah HO;go_upto_region 6 with fail
      go_quiet (fail)
      go_wp2_with fail
      go_region
      go_wp2_with fail
      have g9:Ji (wr.drewN (nq+1)) B9 180 (C B (j:Nat)) (C B (g:Nat)):=H;have Ub:Ji (wr.drewN (nq+1)) (B9+1) 180 (C B (a:Nat)) (C B (nb:Nat)):=A;have Qs:Ji (wr.drewN (nq+1)) (B9+1+1) 180 (C B (k:Nat)) (C B (c:Nat)):=F;have g4:Ji (wr.drewN (nq+1)) w.heap.size 180 (C B 0) (C B 0):=m;have g5:Ji (wr.drewN (nq+1)) (w.heap.size+1) 180 (C B 0) (C B 0):=n;have gB:Bl w (wr.drewN (nq+1)):=Ho hB _;rw[Uc];refine⟨⟨l,r,a,nb,k,c,T,U,J,J,⟨_,K.o⟩,Ax Qi.o,⟨O,z4,z5,z6,z7,O,O⟩,?_,?_,?_,?_,?_,?_⟩,by simp[intOf];omega⟩
      . exact(((((g9.set0 _).set1 _).far DJ _).far DJ _).far so _).far so _
      . exact(((((Ub.far DJ _).far DJ _).set0 _).set1 _).far DJ _).far DJ _
      . exact(((((Qs.far so _).far so _).far DJ _).far DJ _).set0 _).set1 _
      . exact(((((g4.far so _).far so _).far so _).far so _).far so _).far so _
      . exact(((((g5.far so _).far so _).far so _).far so _).far so _).far so _
      . exact(((((gB.setCell (p:=⟨_,0,none⟩) so _).setCell (p:=⟨_,1,none⟩) so _).setCell (p:=⟨_,0,none⟩) so _).setCell (p:=⟨_,1,none⟩) so _).setCell (p:=⟨_,0,none⟩) so _).setCell (p:=⟨_,1,none⟩) so _
    . clear hle;obtain⟨Qx,Qq⟩:=m.cp;obtain⟨Qy,Qu⟩:=n.cp;obtain⟨Qr,Qt⟩:=m.fp;obtain⟨Qz,Ua⟩:=n.fp;have n1:¬(w.heap.size+1=w.heap.size):=O
      have n2:¬(B9=w.heap.size):=O
      have n3:¬(B9+1=w.heap.size):=O
      have n4:¬(B9=w.heap.size+1):=O
      have n5:¬(B9+1=w.heap.size+1):=O
      go_wp2_with fail
      go_region
      go_wp2_with fail
      obtain⟨q4,q5⟩:=N6 (C B (j:Nat)) (C B (g:Nat)) (C B (a:Nat)) (C B (nb:Nat)) m n;obtain⟨Qh,Qj⟩:=q4.cp;obtain⟨Qg,Qf⟩:=q5.cp;exact BA (v:=.tuple #[.agg #[C B (j:Nat),C B (g:Nat)],.agg #[C B (a:Nat),C B (nb:Nat)]]) (by simp[results,results149,go_sem,Qh,Qj,Qg,Qf]) J ⟨j,g,a,nb,J,⟨z2,z3,z4,z5⟩,HO.o,((((hB.setCell (p:=⟨_,0,none⟩) so _).setCell (p:=⟨_,1,none⟩) so _).setCell (p:=⟨_,0,none⟩) so _).setCell (p:=⟨_,1,none⟩) so _).drew⟩
  . clear hle;obtain⟨Qx,Qq⟩:=m.cp;obtain⟨Qy,Qu⟩:=n.cp;obtain⟨Qr,Qt⟩:=m.fp;obtain⟨Qz,Ua⟩:=n.fp;have n1:¬(w.heap.size+1=w.heap.size):=O
    have n2:¬(B9=w.heap.size):=O
    have n3:¬(B9+1=w.heap.size):=O
    have n4:¬(B9=w.heap.size+1):=O
    have n5:¬(B9+1=w.heap.size+1):=O
    go_wp2_with fail
    go_region
    go_wp2_with fail
    obtain⟨q4,q5⟩:=N6 (C B (j:Nat)) (C B (g:Nat)) (C B (a:Nat)) (C B (nb:Nat)) m n;obtain⟨Qh,Qj⟩:=q4.cp;obtain⟨Qg,Qf⟩:=q5.cp;exact BA (v:=.tuple #[.agg #[C B (j:Nat),C B (g:Nat)],.agg #[C B (a:Nat),C B (nb:Nat)]]) (by simp[results,results149,go_sem,Qh,Qj,Qg,Qf]) J ⟨j,g,a,nb,J,⟨z2,z3,z4,z5⟩,HO.o,((((hB.setCell (p:=⟨_,0,none⟩) so _).setCell (p:=⟨_,1,none⟩) so _).setCell (p:=⟨_,0,none⟩) so _).setCell (p:=⟨_,1,none⟩) so _).drew⟩
def TL(a:Zu)(la g:Nat)(b:Zu)(lb i x y:Nat)(w:World)(L:Row B w (D a la g) (Jb Y x))(M:Row B w (D b lb i) (Jb Y y))(K:y<=x)(aq:2<=lb):
 Calls Tryz.prog 149 #[D a la g,D b lb i] w λe w'=>∃q n m nb:Nat,e=.returned (.tuple #[.agg #[C B (q:Nat),C B (n:Nat)],.agg #[C B (m:Nat),C B (nb:Nat)]])/\(q<Y/\n<Y/\m<Y/\nb<Y)/\(n=0\/FK x y q n m nb)/\Bl w w':=by
 obtain⟨ah,aj,az,p,ae⟩:=Jq L;obtain⟨ai,ak,bc,ap,an⟩:=Jq M;have P:lb<=la:=by rw[ah,ai];exact YO K
 obtain⟨k,H⟩:∃k,la=k+2:=⟨la-2,O⟩;obtain⟨v,z,rfl,ad,ka⟩:=ae (k+1) O;have c:=Jm Jd x;have I:(Jb Y x).length=k+2:=O
 have G:(Jb Y x)[k+1]?.getD 0≠0:=by
  intro e;have X:=Jp Y (Jb Y x) (k+1);rw[Ac O,e,Cb,A6,Jn Jd]at X;have h4:=Ya c (k+1);have F:=YM Jd I O;rw[show k+2-1=k+1 from J]at F;omega
 have f:(Jb Y x)[k+1]?.getD 0<Y:=c.getD uo _;obtain⟨d,j⟩:=ex ((Jb Y x)[k+1]?.getD 0);rw[j]at ka G f;obtain⟨Q,R,A⟩:=bitLen_spec d G (by rw[<-F4];exact f);have hL:Lib.bitLen d<=64:=by
  rcases AF 64 (Lib.bitLen d)with h|h
  . exfalso
    have F:2^64<=2^(Lib.bitLen d-1):=Au O O;rw[F4]at f;omega
  . exact h
 obtain⟨s,hs⟩:∃s,s=64-Lib.bitLen d:=⟨_,J⟩;obtain⟨r,v2⟩:=Ny (s:=s) c I j R A Q hL hs;rw[Jn Jd]at r v2;have N:d<2^(64-s):=by rw[hs,show 64-(64-Lib.bitLen d)=Lib.bitLen d from by omega];exact A
 have o:0<Y^k*2^(64-s):=DH (Fb uo) (A4 _);have hH:Eg x k s<Y:=by
  unfold Eg;rw[AC o];have hp:=Hl (s:=s) O;have T:Y*(Y^k*2^(64-s))*2^s=Y^(k+2):=by
   rw[Cg,Cg,AO (2^(64-s)),hp,Cc,Cc,AO Y,Cg]
  rw[<-T]at r;exact Nat.lt_of_mul_lt_mul_right r
 have t:=λ(V:World) (h:Bl w V)=>N5 (some ⟨v,z,none⟩) la g (Jb Y x) k (k+1) la s V (Row.below L h) c H O O O (Aa _) p (λ_=>by rw[j];exact N);have u:=λ(V:World) (h:Bl w V)=>N5 b lb i (Jb Y y) k (k+1) la s V (Row.below M h) (Jm Jd y) H O O O P p (λe=>by
  have ay:=Ya (Jm Jd y) (k+1);have h6:=Jp Y (Jb Y y) (k+1);rw[Ac O,Jn Jd]at h6;have h7:=Jp Y (Jb Y x) (k+1);rw[Ac O,Jn Jd,j]at h7;have h8:=Ya c (k+1);have h9:(Jb Y y)[k+1]?.getD 0<=d:=by
   rcases AF d ((Jb Y y)[k+1]?.getD 0)with h|h
   . exfalso
     have:=AA (Y^(k+1)) (show d+1<=(Jb Y y)[k+1]?.getD 0 from h);rw[CU,Nat.mul_one]at this;omega
   . exact h
  omega)
 rw[Jn Jd]at t u;refine TK v z la (k+1) g b lb i x y d s (Eg x k s) (Eg y k s) w O ad ka f O (show _=_ by omega) p O t u hH (Nat.div_le_div_right K) ?_;intro sg h l m nb c xb hle U W;refine hle.out (S:=Y^k*2^(64-s)) (al:=x%(Y^k*2^(64-s))) (be:=y%(Y^k*2^(64-s))) ?_ ?_ (AV _ o) (AV _ o) U W
 . grind[Eg,AZ]
 grind[Eg,AZ]
def Fh(W:World)(p:Addr):Nat:=match W.cell? p with|some (.int _ z)=>z.toNat|_=>0
def rowVal(W:World):Value->Nat
 |D (some p) l _=>val Y ((List.range l).map λj=>Fh W ⟨p.block,p.off+j,none⟩)
 |_=>0
def UN.rowVal{W:World}{a:Zu}{l c n:Nat}(h:UN W (D a l c) n):rowVal W (D a l c)=n:=by
 obtain⟨g,_,_,_,i⟩:=Jq h;rcases AQ l with d|d
 . subst d;have k:=(Jz Jd).1 (Aj g.symm);subst k;cases a<;>rfl
 . obtain⟨b,f,rfl,_,_⟩:=i 0 d;show val Y ((List.range l).map λj=>Fh W ⟨b,f+j,none⟩)=n;have e:(List.range l).map (λj=>Fh W ⟨b,f+j,none⟩)=Jb Y n:=by
    refine List.ext_getElem DY λj m o=>?_;grind[Fh]
   rw[e,Jn Jd]
def TN(a:Zu)(la ca:Nat)(b:Zu)(lb cb x y:Nat)(w:World)(ra:Row B w (D a la ca) (Jb Y x))(rb:Row B w (D b lb cb) (Jb Y y))(ay:la<1000000000000)(az:lb<1000000000000):
 Calls Tryz.prog 116 #[D a la ca,D b lb cb] w λe q=>∃u,e=.returned u/\UN q u (Nat.gcd x y)/\Bl w q:=by
 have Q:=Z (LN _ _ (Jb Y x) (Jb Y y) w ra rb (Jm Jd x) (Jm Jd y) (J8 Jd x) (J8 Jd y));rw[Jn Jd,Jn Jd]at Q;obtain⟨cm,ad⟩:=ex (YG x y:Int);rw[ad]at Q;obtain⟨Qj,Qm,Qh⟩:=Db ad ra rb;clear ad ra rb;go_enter func116,ntmps116
 go_upto_if 14 with(go_at_call 114;refine Q.o.mono ?_;rintro e w1 ⟨rfl,H⟩)
 go_cut [0,1] λrv M wr=>∃(i:Zu) (g c0 X:Nat) (j:Zu) (f c1 d:Nat),rv=D i g c0/\M=D j f c1/\Hid (UN wr (D i g c0) X)/\Hid (UN wr (D j f c1) d)/\Hid (d<=X/\Nat.gcd X d=Nat.gcd x y)/\g<1000000000000/\Bl w wr
 case first=>
  by_cases Qw:cm<0
  . have Qx:x<y:=by
     have h:=Qj.o;unfold YG at h;omega
    go_wp2_with fail
    go_meet
    case rel=>exact⟨_,_,_,y,_,_,_,x,J,J,Z (UN.below Qh.o H),Z (UN.below Qm.o H),Z ⟨O,CO _ _⟩,az,H⟩
  . have Qx:¬(x<y):=λh=>by
     have t:=Qj.o;rw[XF h]at t;omega
    go_wp2_with fail
    go_meet
    case rel=>exact⟨_,_,_,x,_,_,_,y,J,J,Z (UN.below Qm.o H),Z (UN.below Qh.o H),Z ⟨O,J⟩,ay,H⟩
 case rest=>
  obtain⟨i,g,c0,X,j,f,c1,d,rfl,rfl,t,S,N,h4,h5⟩:=hcut;clear Q Qj Qm Qh H;go_wp2_with fail
  go_loopw [0,1] (λrv M wr=>∃(i:Zu) (g c0 X:Nat) (j:Zu) (f c1 d:Nat),rv=D i g c0/\M=D j f c1/\Hid (UN wr (D i g c0) X)/\Hid (UN wr (D j f c1) d)/\Hid (d<=X/\Nat.gcd X d=Nat.gcd x y)/\g<1000000000000/\Bl w wr)
   (λrv M wr=>rowVal wr rv+rowVal wr M)
  case atStart=>exact⟨i,g,c0,X,j,f,c1,d,J,J,t,S,N,h4,h5⟩
  case round=>
   clear t S N h4 h5;obtain⟨i,g,c0,X,j,f,c1,d,rfl,rfl,z,n,F,bc,T⟩:=hrel;have bf:f<=g:=by rw[UN.len z.o,UN.len n.o];exact YO F.o.1
   by_cases bd:1<f
   . have Qw:(1:Int)<(f:Int):=O
     have Qe:d≠0:=λe=>by
      have h:=UN.len n.o;rw[e,Jv]at h;simp at h;omega
     have Qu:=Z (TL i g c0 j f c1 X d _ z.o n.o F.o.1 O);go_upto_region 5 with(go_at_call 149;refine Qu.o.mono ?_;rintro e m ⟨A,s,K,nb,rfl,⟨b1,b2,b3,b4⟩,ah,o⟩)
     obtain⟨r,P⟩:=ex ((m.alloc (E #[C B (A:Nat),C B (s:Nat)] 180)).alloc (E #[C B (K:Nat),C B (nb:Nat)] 180));have Ql:=Bt T o;have L:Bl wr r:=by rw[<-P];exact(o.alloc o.size _).alloc (by have:=o.size;simp;omega) _
     have Qd:=Bt T L;have m5:Ji r m.heap.size 180 (C B (A:Nat)) (C B (s:Nat)):=by rw[<-P];exact(Ji.new m _ _ _).alloc _
     have m6:Ji r (m.heap.size+1) 180 (C B (K:Nat)) (C B (nb:Nat)):=by
      have h:=Ji.new (m.alloc (E #[C B (A:Nat),C B (s:Nat)] 180)) 180 (C B (K:Nat)) (C B (nb:Nat));rw[A1,P]at h;exact h
     have Qn:=UN.below z.o L;have R:=UN.below n.o L;rw[P];clear P Qu o Ql;obtain⟨k0,k1⟩:=m5.cp;obtain⟨k2,k3⟩:=m6.cp;by_cases W:s=0
     . subst W;have Qk:=Z (Lf i g c0 j f c1 X d r Qn R Qe O);clear ah;go_wp2_with(go_at_call 151;refine Qk.o.mono ?_;rintro e w4 ⟨u,v,rfl,hu,I,U⟩;obtain⟨ua,uc,rfl⟩:=UN.form hu;obtain⟨va,vc,rfl⟩:=UN.form I)
       have Qi:=AV X (show d>0 by omega);have Qq:=UN.below R U;refine⟨⟨j,f,c1,d,va,_,vc,X%d,J,J,Z Qq,Z I,Z ⟨O,by rw[<-F.o.2,CO d,<-Nat.gcd_rec,CO]⟩,O,Bt Qd U⟩,?_⟩;rw[UN.rowVal Qq,UN.rowVal I,UN.rowVal z.o,UN.rowVal n.o];have:=F.o.1;omega
     . have G:=ah.resolve_left W;have Qs:nb*d≠0:=by
        have:=G.2.2.2;exact C9 O Qe
       obtain⟨Qr,Qp,Qa,Qo,Qg⟩:=FX (λ(V:World) (h:Bl r V)=>N4 A s i g c0 j f c1 X d V (UN.below Qn h) (UN.below R h) b1 b2 O O (C9 W Qe)) (λ(V:World) (h:Bl r V)=>N4 K nb i g c0 j f c1 X d V (UN.below Qn h) (UN.below R h) b3 b4 O O Qs) (G.less W O) G.gcd G.2.2.1;have Qf:=Z (show Xt (A*X) (s*d)<=X by
        have e1:=G.1;have e2:=Ch (Xt (A*X) (s*d)) G.2.2.2;omega)
       clear G ah Qs;generalize Xt (A*X) (s*d)=D1 at *;generalize Xt (K*X) (nb*d)=D2 at *;have k:Bl r r.drew:=(BB _ r).drew;go_upto_region 6 with fail
       go_region_held3 (λq=>q.cell? ⟨m.heap.size,0,none⟩=some (C B (A:Nat))/\q.cell? ⟨m.heap.size,1,none⟩=some (C B (s:Nat))/\q.cell? ⟨m.heap.size+1,0,none⟩=some (C B (K:Nat))/\q.cell? ⟨m.heap.size+1,1,none⟩=some (C B (nb:Nat))) (exact⟨k0,k1,k2,k3⟩)
        (first
         |(go_at_call 150;refine(Qr.o _ k).mono ?_;clear Qr;rintro e w4 ⟨u4,rfl,an,U⟩;obtain⟨xa,xc,rfl⟩:=UN.form an;have k:=Bt k U;obtain⟨k0,k1⟩:=(m5.below k).cp;obtain⟨k2,k3⟩:=(m6.below k).cp)
         |(go_at_call 150;refine(Qp.o _ k).mono ?_;clear Qp;rintro e w5 ⟨u5,rfl,ai,aj⟩;obtain⟨ya,yc,rfl⟩:=UN.form ai;have k:=Bt k aj;obtain⟨k0,k1⟩:=(m5.below k).cp;obtain⟨k2,k3⟩:=(m6.below k).cp))
       all_goals go_wp2_with fail
       have ap:=UN.below an aj;refine⟨⟨xa,_,xc,D1,ya,_,yc,D2,J,J,Z ap,Z ai,Z ⟨Nat.le_of_lt Qg.o,Qo.o.trans F.o.2⟩,?_,Bt Qd k⟩,?_⟩
       . have t:=YO Qf.o;rw[<-UN.len z.o]at t;omega
       . rw[UN.rowVal ap,UN.rowVal ai,UN.rowVal z.o,UN.rowVal n.o];exact Qa.o
   . rcases AQ f with h0|h0
     . subst h0;have Qt:=(Jz Jd).1 (Aj (UN.len n.o).symm);have HC:=Z (NS i g c0 _ wr z.o);have HE:=Z (show X=Nat.gcd x y by rw[<-F.o.2,Qt,Nat.gcd_zero_right]);clear Qt;go_wp2_with(go_at_call 131;refine HC.o.mono ?_;rintro e m ⟨za,zc,rfl,hz,o⟩)
       go_ret;exact⟨_,J,by rw[<-HE.o];exact hz,Bt T o⟩
     . obtain rfl:f=1:=O
       obtain⟨ae,bg,bh⟩:=Lc (UN.len n.o).symm;obtain⟨bb,bo,rfl,aq,kb⟩:=(Jq n.o).2.2.2.2 0 O;rw[ae]at kb;have Qy:wr.cell? ⟨bb,bo,none⟩=some (C B (d:Nat)):=kb;have Qk:=Z (Lf i g c0 (some ⟨bb,bo,none⟩) 1 c1 X d wr z.o n.o O O);have Qi:=AV X (show d>0 by omega);have HE:=Z (show Nat.gcd d (X%d)=Nat.gcd x y by rw[<-F.o.2,CO d,<-Nat.gcd_rec,CO]);have Qv:=Z (show ∀(V:World) (v:Zu) (l c:Nat),UN V (D v l c) (X%d)->Calls Tryz.prog 152 #[D (some ⟨V.heap.size,0,none⟩) 1 1,D v l c] (V.alloc (E #[C B (d:Nat)] 163)) λe q=>∃u,e=.returned u/\UN q u (Nat.gcd x y)/\Below (V.alloc (E #[C B (d:Nat)] 163)).heap.size (V.alloc (E #[C B (d:Nat)] 163)) q from λV v l c h=>by
        have t:=(DO.made (xs:=[d]) (BC V (E #[C B (d:Nat)] 163))).row 0 1 1 DJ O O O;have S:Row B (V.alloc (E #[C B (d:Nat)] 163)) (D (some ⟨V.heap.size,0,none⟩) 1 1) (Jb Y d):=by rw[ae];exact t
        have N:=TF (some ⟨V.heap.size,0,none⟩) 1 v l c d (X%d) _ S (UN.below h (Ba V _)) O;rw[HE.o]at N;exact N)
       clear kb ae;go_upto_region 12 with(go_at_call 151;refine Qk.o.mono ?_;rintro e m ⟨u,v,rfl,hu,I,o⟩;obtain⟨ua,uc,rfl⟩:=UN.form hu;obtain⟨va,vc,rfl⟩:=UN.form I)
       have bi:=(o.cell (p:=⟨bb,bo,none⟩) aq).trans Qy;go_wp2_with(go_at_call 152;refine(Qv.o _ _ _ _ I).mono ?_;rintro e w3 ⟨u3,rfl,ak,L⟩;obtain⟨ta,tc,rfl⟩:=UN.form ak)
       go_ret;have Ql:=Bt T o;exact⟨_,J,ak,N2 Ql L⟩

