import Derived.Test.YteldjhhjnchdeaaGreatDoorT21
set_option linter.all false
open Go.IntKind renaming u64->B,i64->kW
open Go.Value renaming int->C,slice->D
open Go.Obj renaming cells->E
set_option maxRecDepth 99999
set_option maxHeartbeats 0
namespace Go.Proofs.YteldjhhjnchdeaaGreatDoor
open Proofs.Tryz
open Go.RowKit Go.Shelf
attribute [local go_sem] Oper.semAt_some
def RJ{W:World}{B:Nat}{t:TypeId}{c d u0 u1:Value}(x0 x1 a b:Value)(h:Jn W B t c d)(k:Jn W (B+1) t u0 u1):
 Jn ((((W.setCell ⟨B,0,none⟩ x0).setCell ⟨B,1,none⟩ x1).setCell ⟨B+1,0,none⟩ a).setCell ⟨B+1,1,none⟩ b).drew B t x0 x1/\Jn ((((W.setCell ⟨B,0,none⟩ x0).setCell ⟨B,1,none⟩ x1).setCell ⟨B+1,0,none⟩ a).setCell ⟨B+1,1,none⟩ b).drew (B+1) t a b:=
 ⟨((((h.set0 x0).set1 x1).far DK a).far DK b).drew,((((k.far DK x0).far DK x1).set0 a).set1 b).drew⟩
def aA(Q W la A ca:Nat)(b:kR)(lb cb x y d s H L:Nat)(w:World)(h1:(la:Int)-1=A)(az:Q<w.heap.size)
(ka:w.cell? ⟨Q,W+A,none⟩=some (C B (d:Nat)))(bc:d<Z)(hs:s<=63)(HS:Hid ((64:Int)-(Lib.bitLen d:Int)=(s:Int)))(bt:la<=1099511627776)(bm:A<la)
(ai:Hid (∀V:World,Bl w V->Calls Tryz.prog 167 #[D (some ⟨Q,W,none⟩) la ca,C .i64 (la:Nat),C B (s:Nat)] V λe t=>e=.returned (C B (H:Nat))/\Bl V t))
(aj:Hid (∀V:World,Bl w V->Calls Tryz.prog 167 #[D b lb cb,C .i64 (la:Nat),C B (s:Nat)] V λe t=>e=.returned (C B (L:Nat))/\Bl V t))
(K:H<Z)(ay:L<=H)(aq:Hid (∀X h l a nb j c,F4 H L X h l a nb j c->c<=l->nb+c<=h-l->Gm x y a nb j c)):
 Calls Tryz.prog 144 #[D (some ⟨Q,W,none⟩) la ca,D b lb cb] w λe t=>∃i g a nb:Nat,e=.returned (.tuple #[.agg #[C B (i:Nat),C B (g:Nat)],.agg #[C B (a:Nat),C B (nb:Nat)]])/\(i<Z/\g<Z/\a<Z/\nb<Z)/\(g=0\/Gm x y i g a nb)/\Bl w t:=by
 have i1:kW.wrap ((la:Int)-1)=(A:Int):=by rw[h1];exact BS _ O
 have i3:kW.wrap (A:Int)=(A:Int):=BS _ O;have co:B.wrap (s:Int)=(s:Int):=Br _ O;obtain⟨W0,R⟩:=ex ((w.alloc (E #[C B 0,C B 0] 169)).alloc (E #[C B 0,C B 0] 169));have Qk:Bl w W0:=by rw[<-R];exact(Ba w _).alloc DK _
 have b4:Jn W0 w.heap.size 169 (C B 0) (C B 0):=by rw[<-R];exact(Jn.new w _ _ _).alloc _
 have b5:Jn W0 (w.heap.size+1) 169 (C B 0) (C B 0):=by
  have h:=Jn.new (w.alloc (E #[C B 0,C B 0] 169)) 169 (C B 0) (C B 0);rw[A1,R]at h;exact h
 have Qv:=(Qk.cell (p:=⟨Q,W+A,none⟩) az).trans ka;have Qn:=Y R;have Qm:=Y (show ∀V:World,Calls Tryz.prog 166 #[C B (d:Nat)] V λe t=>e=.returned (C .i64 (s:Nat))/\t=V from λV=>by
  have h:=Tryz.bits_LeadingZeros64 (d:Nat) V O (by unfold Z at bc;omega);rw[Cv,HS.o]at h;exact h)
 clear R ka HS;go_enter func144,ntmps144
 go_upto_region 1 with fail
 try rw[Qn.o]
 go_upto_region 2 with(go_at_call 166;refine(Qm.o _).mono ?_;rintro e t ⟨rfl,e1⟩;have e2:=e1.symm;subst e2;clear e1)
 have hq:=Qk;go_upto_region 3 with(first
  |(go_at_call 167;refine(ai.o _ hq).mono ?_;clear ai;rintro e w1 ⟨rfl,ad⟩;have hq:=Bt hq ad)
  |(go_at_call 167;refine(aj.o _ hq).mono ?_;clear aj;rintro e n ⟨rfl,ae⟩;have hq:=Bt hq ae))
 go_wp2_with fail
 obtain⟨I,o⟩:=ex (((n.alloc (E #[C B 0,C B 0] 169)).alloc (E #[C B 1,C B 0] 169)).alloc (E #[C B 0,C B 1] 169));have Qp:Bl w I:=by rw[<-o];exact((hq.alloc hq.size _).alloc (by have:=hq.size;simp;omega) _).alloc (by have:=hq.size;simp;omega) _
 have F:Jn I n.heap.size 169 (C B (0:Nat)) (C B (0:Nat)):=by rw[<-o];exact((Jn.new n _ _ _).alloc _).alloc _
 have u:Jn I (n.heap.size+1) 169 (C B (1:Nat)) (C B (0:Nat)):=by
  have h:=(Jn.new (n.alloc (E #[C B 0,C B 0] 169)) 169 (C B 1) (C B 0)).alloc (E #[C B 0,C B 1] 169);rw[A1,o]at h;exact h
 have z:Jn I (n.heap.size+1+1) 169 (C B (0:Nat)) (C B (1:Nat)):=by
  have h:=Jn.new ((n.alloc (E #[C B 0,C B 0] 169)).alloc (E #[C B 1,C B 0] 169)) 169 (C B 0) (C B 1);rw[A1,A1,o]at h;exact h
 have U:=Bt ad ae;have k:Jn I w.heap.size 169 (C B 0) (C B 0):=by rw[<-o];exact(((b4.below U).alloc _).alloc _).alloc _
 have m:Jn I (w.heap.size+1) 169 (C B 0) (C B 0):=by rw[<-o];exact(((b5.below U).alloc _).alloc _).alloc _
 have Qw:w.heap.size+1<n.heap.size:=by have:=(b5.below U).lt;exact this
 rw[o];obtain⟨B9,ak⟩:=ex (n.heap.size);rw[ak]at F u z Qw ⊢;clear o U b4 b5 ad ae hq Qk ak Qv Qm Qn;go_loopw [7,8] (λhv lv wr=>∃h l i g a nb j c:Nat,hv=C B (h:Nat)/\lv=C B (l:Nat)/\Hid (∃X,F4 H L X h l a nb j c)/\Hid (g=0\/Gm x y i g a nb)/\(h<Z/\i<Z/\g<Z/\a<Z/\nb<Z/\j<Z/\c<Z)/\
  Jn wr B9 169 (C B (i:Nat)) (C B (g:Nat))/\Jn wr (B9+1) 169 (C B (a:Nat)) (C B (nb:Nat))/\Jn wr (B9+1+1) 169 (C B (j:Nat)) (C B (c:Nat))/\Jn wr w.heap.size 169 (C B 0) (C B 0)/\Jn wr (w.heap.size+1) 169 (C B 0) (C B 0)/\Bl w wr) (λ_ lv _=>(intOf lv).toNat)
 case atStart=>exact⟨H,L,0,0,1,0,0,1,J,J,⟨1,F4.start ay⟩,Am J,⟨K,by unfold Z;omega,by unfold Z;omega,by unfold Z;omega,by unfold Z;omega,by unfold Z;omega,by unfold Z;omega⟩,F,u,z,k,m,Qp⟩
 case round=>
  clear F u z k m Qp;obtain⟨h,l,i,g,a,nb,j,c,rfl,rfl,ah,HO,⟨z1,z2,z3,z4,z5,z6,z7⟩,F,u,z,k,m,hB⟩:=hrel;obtain⟨X,hle⟩:=ah.o;have bu:=hle.2.2.2.2.2.2.2;have cn:=hle.2.2.2.2.2.2.1;obtain⟨dt,du⟩:=F.cp;obtain⟨de,dh⟩:=u.cp;obtain⟨di,dj⟩:=z.cp;by_cases c1:c<=l
  . obtain⟨y1,y2⟩:=hle.small O;obtain⟨e,he⟩:∃e:Nat,(h:Int)-(l:Int)=(e:Int):=⟨h-l,O⟩;obtain⟨f,hf⟩:∃f:Nat,(nb:Int)+(c:Int)=(f:Int):=⟨nb+c,O⟩;have we:B.wrap (e:Int)=(e:Int):=Br _ (by unfold Z at z1;omega);have wf:B.wrap (f:Int)=(f:Int):=Br _ (by unfold Z at K;omega);by_cases c2:f<=e
    . have Qi:=Y (aq.o _ _ _ _ _ _ _ hle c1 O);have N:=hle.step (show 1<=l by omega);have G:=Y N;obtain⟨q,hq⟩:=ex (h/l);obtain⟨r,hr⟩:=ex (h%l);rw[hq,hr]at N G;have ck:r<l:=by rw[<-hr];exact AZ _ O
      have cj:(h:Int)/(l:Int)=(q:Int):=O
      have Uc:(h:Int)%(l:Int)=(r:Int):=O
      have Ql:a+q*j<=L:=by
       have h1:=N.2.2.1;have h2:=A6 (a+q*j) (show 0<l by omega);omega
      have Qo:nb+q*c<=H:=by
       have h1:=N.2.1;have h2:=A6 (nb+q*c) (show 0<l by omega);omega
      obtain⟨P,hP⟩:=ex (q*j);obtain⟨M,ap⟩:=ex (q*c);rw[hP]at Ql G;rw[ap]at Qo G;obtain⟨S,am⟩:=ex (a+P);obtain⟨T,an⟩:=ex (nb+M);rw[am]at Ql G;rw[an]at Qo G;have p1:(q:Int)*(j:Int)=(P:Int):=O
      have p2:(q:Int)*(c:Int)=(M:Int):=O
      have p3:(a:Int)+(P:Int)=(S:Int):=O
      have p4:(nb:Int)+(M:Int)=(T:Int):=O
      have v1:B.wrap (P:Int)=(P:Int):=Br _ (by unfold Z at K;omega);have v2:B.wrap (M:Int)=(M:Int):=Br _ (by unfold Z at K;omega);have v3:B.wrap (S:Int)=(S:Int):=Br _ (by unfold Z at K;omega);have v4:B.wrap (T:Int)=(T:Int):=Br _ (by unfold Z at K;omega);have ce:q<=h:=by rw[<-hq];exact Fb _ _
      have v5:B.wrap (q:Int)=(q:Int):=Br _ (by unfold Z at z1;omega);have bn:¬(l=0):=O
      obtain⟨bj,bk⟩:=F.fp;obtain⟨bf,bg⟩:=u.fp;obtain⟨bh,bi⟩:=z.fp;clear N hle hP ap am an hq hr y1 y2 ah HO;go_upto_region 6 with fail
      go_quiet (fail)
      go_wp2_with fail
      go_region
      go_wp2_with fail
      have g9:Jn (wr.drewN (nq+1)) B9 169 (C B (i:Nat)) (C B (g:Nat)):=F;have Ub:Jn (wr.drewN (nq+1)) (B9+1) 169 (C B (a:Nat)) (C B (nb:Nat)):=u;have Qs:Jn (wr.drewN (nq+1)) (B9+1+1) 169 (C B (j:Nat)) (C B (c:Nat)):=z;have g4:Jn (wr.drewN (nq+1)) w.heap.size 169 (C B 0) (C B 0):=k;have g5:Jn (wr.drewN (nq+1)) (w.heap.size+1) 169 (C B 0) (C B 0):=m;have gB:Bl w (wr.drewN (nq+1)):=Kq hB _;rw[Uc];refine⟨⟨l,r,a,nb,j,c,S,T,J,J,⟨_,G.o⟩,Ax Qi.o,⟨O,z4,z5,z6,z7,O,O⟩,?_,?_,?_,?_,?_,?_⟩,by simp[intOf];omega⟩
      . exact(((((g9.set0 _).set1 _).far DK _).far DK _).far so _).far so _
      . exact(((((Ub.far DK _).far DK _).set0 _).set1 _).far DK _).far DK _
      . exact(((((Qs.far so _).far so _).far DK _).far DK _).set0 _).set1 _
      . exact(((((g4.far so _).far so _).far so _).far so _).far so _).far so _
      . exact(((((g5.far so _).far so _).far so _).far so _).far so _).far so _
      . exact(((((gB.setCell (p:=⟨_,0,none⟩) so _).setCell (p:=⟨_,1,none⟩) so _).setCell (p:=⟨_,0,none⟩) so _).setCell (p:=⟨_,1,none⟩) so _).setCell (p:=⟨_,0,none⟩) so _).setCell (p:=⟨_,1,none⟩) so _
    . clear hle;obtain⟨Qx,Qq⟩:=k.cp;obtain⟨Qy,Qu⟩:=m.cp;obtain⟨Qr,Qt⟩:=k.fp;obtain⟨Qz,Ua⟩:=m.fp;have n1:¬(w.heap.size+1=w.heap.size):=O
      have n2:¬(B9=w.heap.size):=O
      have n3:¬(B9+1=w.heap.size):=O
      have n4:¬(B9=w.heap.size+1):=O
      have n5:¬(B9+1=w.heap.size+1):=O
      go_wp2_with fail
      go_region
      go_wp2_with fail
      obtain⟨q4,q5⟩:=RJ (C B (i:Nat)) (C B (g:Nat)) (C B (a:Nat)) (C B (nb:Nat)) k m;obtain⟨Qh,Qj⟩:=q4.cp;obtain⟨Qg,Qf⟩:=q5.cp;exact BA (v:=.tuple #[.agg #[C B (i:Nat),C B (g:Nat)],.agg #[C B (a:Nat),C B (nb:Nat)]]) (by simp[results,results144,go_sem,Qh,Qj,Qg,Qf]) J ⟨i,g,a,nb,J,⟨z2,z3,z4,z5⟩,HO.o,((((hB.setCell (p:=⟨_,0,none⟩) so _).setCell (p:=⟨_,1,none⟩) so _).setCell (p:=⟨_,0,none⟩) so _).setCell (p:=⟨_,1,none⟩) so _).drew⟩
  . clear hle;obtain⟨Qx,Qq⟩:=k.cp;obtain⟨Qy,Qu⟩:=m.cp;obtain⟨Qr,Qt⟩:=k.fp;obtain⟨Qz,Ua⟩:=m.fp;have n1:¬(w.heap.size+1=w.heap.size):=O
    have n2:¬(B9=w.heap.size):=O
    have n3:¬(B9+1=w.heap.size):=O
    have n4:¬(B9=w.heap.size+1):=O
    have n5:¬(B9+1=w.heap.size+1):=O
    go_wp2_with fail
    go_region
    go_wp2_with fail
    obtain⟨q4,q5⟩:=RJ (C B (i:Nat)) (C B (g:Nat)) (C B (a:Nat)) (C B (nb:Nat)) k m;obtain⟨Qh,Qj⟩:=q4.cp;obtain⟨Qg,Qf⟩:=q5.cp;exact BA (v:=.tuple #[.agg #[C B (i:Nat),C B (g:Nat)],.agg #[C B (a:Nat),C B (nb:Nat)]]) (by simp[results,results144,go_sem,Qh,Qj,Qg,Qf]) J ⟨i,g,a,nb,J,⟨z2,z3,z4,z5⟩,HO.o,((((hB.setCell (p:=⟨_,0,none⟩) so _).setCell (p:=⟨_,1,none⟩) so _).setCell (p:=⟨_,0,none⟩) so _).setCell (p:=⟨_,1,none⟩) so _).drew⟩
def aB(a:kR)(la ca:Nat)(b:kR)(lb cb x y:Nat)(w:World)(I:Row B w (D a la ca) (Jc Z x))(K:Row B w (D b lb cb) (Jc Z y))(H:y<=x)(ap:2<=lb):
 Calls Tryz.prog 144 #[D a la ca,D b lb cb] w λe w'=>∃o j i nb:Nat,e=.returned (.tuple #[.agg #[C B (o:Nat),C B (j:Nat)],.agg #[C B (i:Nat),C B (nb:Nat)]])/\(o<Z/\j<Z/\i<Z/\nb<Z)/\(j=0\/Gm x y o j i nb)/\Bl w w':=by
 obtain⟨ah,aj,ay,n,ae⟩:=Js I;obtain⟨ai,ak,az,an,am⟩:=Js K;have M:lb<=la:=by rw[ah,ai];exact Xq H
 obtain⟨k,F⟩:∃k,la=k+2:=⟨la-2,O⟩;obtain⟨t,u,rfl,ad,ka⟩:=ae (k+1) O;have c:=Jo Je x;have G:(Jc Z x).length=k+2:=O
 have A:(Jc Z x)[k+1]?.getD 0≠0:=by
  intro e;have U:=Jr Z (Jc Z x) (k+1);rw[Ad O,e,Cr,Cb,Jp Je]at U;have h4:=Yu c (k+1);have z:=Xn Je G O;rw[show k+2-1=k+1 from J]at z;omega
 have f:(Jc Z x)[k+1]?.getD 0<Z:=c.getD uo _;obtain⟨d,g⟩:=ex ((Jc Z x)[k+1]?.getD 0);rw[g]at ka A f;obtain⟨N,P,v⟩:=bitLen_spec d A (by rw[<-Ib];exact f);have hL:Lib.bitLen d<=64:=by
  rcases AP 64 (Lib.bitLen d)with h|h
  . exfalso
    have z:2^64<=2^(Lib.bitLen d-1):=Ag O O;rw[Ib]at f;omega
  . exact h
 obtain⟨s,hs⟩:∃s,s=64-Lib.bitLen d:=⟨_,J⟩;obtain⟨p,v2⟩:=RB (s:=s) c G g P v N hL hs;rw[Jp Je]at p v2;have L:d<2^(64-s):=by rw[hs,show 64-(64-Lib.bitLen d)=Lib.bitLen d from by omega];exact v
 have m:0<Z^k*2^(64-s):=DI (CL uo) (Ca _);have hH:FW x k s<Z:=by
  unfold FW;rw[AF m];have hp:=Kn (s:=s) O;have Q:Z*(Z^k*2^(64-s))*2^s=Z^(k+2):=by
   rw[Ch,Ch,AB (2^(64-s)),hp,Cc,Cc,AB Z,Ch]
  rw[<-Q]at p;exact Nat.lt_of_mul_lt_mul_right p
 have q:=λ(V:World) (h:Bl w V)=>RI (some ⟨t,u,none⟩) la ca (Jc Z x) k (k+1) la s V (Row.below I h) c F O O O (Aa _) n (λ_=>by rw[g];exact L);have r:=λ(V:World) (h:Bl w V)=>RI b lb cb (Jc Z y) k (k+1) la s V (Row.below K h) (Jo Je y) F O O O M n (λe=>by
  have aq:=Yu (Jo Je y) (k+1);have W:=Jr Z (Jc Z y) (k+1);rw[Ad O,Jp Je]at W;have X:=Jr Z (Jc Z x) (k+1);rw[Ad O,Jp Je,g]at X;have h8:=Yu c (k+1);have h9:(Jc Z y)[k+1]?.getD 0<=d:=by
   rcases AP d ((Jc Z y)[k+1]?.getD 0)with h|h
   . exfalso
     have:=Ai (Z^(k+1)) (show d+1<=(Jc Z y)[k+1]?.getD 0 from h);rw[Fc,Nat.mul_one]at this;omega
   . exact h
  omega)
 rw[Jp Je]at q r;refine aA t u la (k+1) ca b lb cb x y d s (FW x k s) (FW y k s) w O ad ka f O (show _=_ by omega) n O q r hH (Nat.div_le_div_right H) ?_;intro sg h l i nb c xb hle R T;refine hle.out (S:=Z^k*2^(64-s)) (al:=x%(Z^k*2^(64-s))) (be:=y%(Z^k*2^(64-s))) ?_ ?_ (AZ _ m) (AZ _ m) R T
 . grind[FW,A4]
 grind[FW,A4]
def Hy(W:World)(p:Addr):Nat:=match W.cell? p with|some (.int _ z)=>z.toNat|_=>0
def rowVal(W:World):Value->Nat
 |D (some p) l _=>val Z ((List.range l).map λj=>Hy W ⟨p.block,p.off+j,none⟩)
 |_=>0
def UN.rowVal{W:World}{a:kR}{l c n:Nat}(h:UN W (D a l c) n):rowVal W (D a l c)=n:=by
 obtain⟨g,_,_,_,i⟩:=Js h;rcases AW l with d|d
 . subst d;have k:=(JF Je).1 (Ao g.symm);subst k;cases a<;>rfl
 . obtain⟨b,f,rfl,_,_⟩:=i 0 d;show val Z ((List.range l).map λj=>Hy W ⟨b,f+j,none⟩)=n;have e:(List.range l).map (λj=>Hy W ⟨b,f+j,none⟩)=Jc Z n:=by
    refine List.ext_getElem DX λj g1 g2=>?_;grind[Hy]
   rw[e,Jp Je]
def aC(a:kR)(la ca:Nat)(b:kR)(lb cb x y:Nat)(w:World)(ra:Row B w (D a la ca) (Jc Z x))(rb:Row B w (D b lb cb) (Jc Z y))(aq:la<1000000000000)(ay:lb<1000000000000):
 Calls Tryz.prog 122 #[D a la ca,D b lb cb] w λe n=>∃u,e=.returned u/\UN n u (Nat.gcd x y)/\Bl w n:=by
 have N:=Y (Nu _ _ (Jc Z x) (Jc Z y) w ra rb (Jo Je x) (Jo Je y) (Yr Je x) (Yr Je y));rw[Jp Je,Jp Je]at N;obtain⟨cm,ad⟩:=ex (Xf x y:Int);rw[ad]at N;obtain⟨Qj,Qm,Qh⟩:=Dc ad ra rb;clear ad ra rb;go_enter func122,ntmps122
 go_upto_if 14 with(go_at_call 132;refine N.o.mono ?_;rintro e w1 ⟨rfl,F⟩)
 go_cut [0,1] λrv K wr=>∃(g:kR) (f c0 X:Nat) (i:kR) (l1 c1 d:Nat),rv=D g f c0/\K=D i l1 c1/\Hid (UN wr (D g f c0) X)/\Hid (UN wr (D i l1 c1) d)/\Hid (d<=X/\Nat.gcd X d=Nat.gcd x y)/\f<1000000000000/\Bl w wr
 case first=>
  by_cases Qw:cm<0
  . have Qx:x<y:=by
     have h:=Qj.o;unfold Xf at h;omega
    go_wp2_with fail
    go_meet
    case rel=>exact⟨_,_,_,y,_,_,_,x,J,J,Y (UN.below Qh.o F),Y (UN.below Qm.o F),Y ⟨O,CB _ _⟩,ay,F⟩
  . have Qx:¬(x<y):=λh=>by
     have r:=Qj.o;rw[Gc h]at r;omega
    go_wp2_with fail
    go_meet
    case rel=>exact⟨_,_,_,x,_,_,_,y,J,J,Y (UN.below Qm.o F),Y (UN.below Qh.o F),Y ⟨O,J⟩,aq,F⟩
 case rest=>
  obtain⟨g,f,c0,X,i,l1,c1,d,rfl,rfl,r,Q,L,h4,h5⟩:=hcut;clear N Qj Qm Qh F;go_wp2_with fail
  go_loopw [0,1] (λrv K wr=>∃(g:kR) (f c0 X:Nat) (i:kR) (l1 c1 d:Nat),rv=D g f c0/\K=D i l1 c1/\Hid (UN wr (D g f c0) X)/\Hid (UN wr (D i l1 c1) d)/\Hid (d<=X/\Nat.gcd X d=Nat.gcd x y)/\f<1000000000000/\Bl w wr)
   (λrv K wr=>rowVal wr rv+rowVal wr K)
  case atStart=>exact⟨g,f,c0,X,i,l1,c1,d,J,J,r,Q,L,h4,h5⟩
  case round=>
   clear r Q L h4 h5;obtain⟨g,f,c0,X,i,l1,c1,d,rfl,rfl,s,k,z,az,R⟩:=hrel;have bf:l1<=f:=by rw[UN.len s.o,UN.len k.o];exact Xq z.o.1
   by_cases bc:1<l1
   . have Qw:(1:Int)<(l1:Int):=O
     have W:d≠0:=λe=>by
      have h:=UN.len k.o;rw[e,JD]at h;simp at h;omega
     have Qu:=Y (aB g f c0 i l1 c1 X d _ s.o k.o z.o.1 O);go_upto_region 5 with(go_at_call 144;refine Qu.o.mono ?_;rintro e j ⟨t,q,H,nb,rfl,⟨b1,b2,b3,b4⟩,ah,m⟩)
     obtain⟨o,M⟩:=ex ((j.alloc (E #[C B (t:Nat),C B (q:Nat)] 169)).alloc (E #[C B (H:Nat),C B (nb:Nat)] 169));have Ql:=Bt R m;have I:Bl wr o:=by rw[<-M];exact(m.alloc m.size _).alloc (by have:=m.size;simp;omega) _
     have Qd:=Bt R I;have m5:Jn o j.heap.size 169 (C B (t:Nat)) (C B (q:Nat)):=by rw[<-M];exact(Jn.new j _ _ _).alloc _
     have m6:Jn o (j.heap.size+1) 169 (C B (H:Nat)) (C B (nb:Nat)):=by
      have h:=Jn.new (j.alloc (E #[C B (t:Nat),C B (q:Nat)] 169)) 169 (C B (H:Nat)) (C B (nb:Nat));rw[A1,M]at h;exact h
     have Qn:=UN.below s.o I;have P:=UN.below k.o I;rw[M];clear M Qu m Ql;obtain⟨k0,k1⟩:=m5.cp;obtain⟨k2,k3⟩:=m6.cp;by_cases T:q=0
     . subst T;have Qk:=Y (OH g f c0 i l1 c1 X d o Qn P W O);clear ah;go_wp2_with(go_at_call 146;refine Qk.o.mono ?_;rintro e w4 ⟨u,v,rfl,hu,G,S⟩;obtain⟨ua,uc,rfl⟩:=UN.form hu;obtain⟨va,vc,rfl⟩:=UN.form G)
       have Qi:=AZ X (show d>0 by omega);have Qq:=UN.below P S;refine⟨⟨i,l1,c1,d,va,_,vc,X%d,J,J,Y Qq,Y G,Y ⟨O,by rw[<-z.o.2,CB d,<-Nat.gcd_rec,CB]⟩,O,Bt Qd S⟩,?_⟩;rw[UN.rowVal Qq,UN.rowVal G,UN.rowVal s.o,UN.rowVal k.o];have:=z.o.1;omega
     . have A:=ah.resolve_left T;have Qs:nb*d≠0:=by
        have:=A.2.2.2;exact FF O W
       obtain⟨Qr,Qp,Qa,Qo,Qg⟩:=GL (λ(V:World) (h:Bl o V)=>RH t q g f c0 i l1 c1 X d V (UN.below Qn h) (UN.below P h) b1 b2 O O (FF T W)) (λ(V:World) (h:Bl o V)=>RH H nb g f c0 i l1 c1 X d V (UN.below Qn h) (UN.below P h) b3 b4 O O Qs) (A.less T O) A.gcd A.2.2.1;have Qf:=Y (show Dw (t*X) (q*d)<=X by
        have e1:=A.1;have e2:=Cg (Dw (t*X) (q*d)) A.2.2.2;omega)
       clear A ah Qs;generalize Dw (t*X) (q*d)=D1 at *;generalize Dw (H*X) (nb*d)=D2 at *;have hq:Bl o o.drew:=(BB _ o).drew;go_upto_region 6 with fail
       go_region_held3 (λn=>n.cell? ⟨j.heap.size,0,none⟩=some (C B (t:Nat))/\n.cell? ⟨j.heap.size,1,none⟩=some (C B (q:Nat))/\n.cell? ⟨j.heap.size+1,0,none⟩=some (C B (H:Nat))/\n.cell? ⟨j.heap.size+1,1,none⟩=some (C B (nb:Nat))) (exact⟨k0,k1,k2,k3⟩)
        (first
         |(go_at_call 145;refine(Qr.o _ hq).mono ?_;clear Qr;rintro e w4 ⟨u4,rfl,am,S⟩;obtain⟨xa,xc,rfl⟩:=UN.form am;have hq:=Bt hq S;obtain⟨k0,k1⟩:=(m5.below hq).cp;obtain⟨k2,k3⟩:=(m6.below hq).cp)
         |(go_at_call 145;refine(Qp.o _ hq).mono ?_;clear Qp;rintro e w5 ⟨u5,rfl,ai,aj⟩;obtain⟨ya,yc,rfl⟩:=UN.form ai;have hq:=Bt hq aj;obtain⟨k0,k1⟩:=(m5.below hq).cp;obtain⟨k2,k3⟩:=(m6.below hq).cp))
       all_goals go_wp2_with fail
       have an:=UN.below am aj;refine⟨⟨xa,_,xc,D1,ya,_,yc,D2,J,J,Y an,Y ai,Y ⟨FL Qg.o,Qo.o.trans z.o.2⟩,?_,Bt Qd hq⟩,?_⟩
       . have r:=Xq Qf.o;rw[<-UN.len s.o]at r;omega
       . rw[UN.rowVal an,UN.rowVal ai,UN.rowVal s.o,UN.rowVal k.o];exact Qa.o
   . rcases AW l1 with h0|h0
     . subst h0;have Qt:=(JF Je).1 (Ao (UN.len k.o).symm);have HC:=Y (QF g f c0 _ wr s.o);have U:=Y (show X=Nat.gcd x y by rw[<-z.o.2,Qt,Nat.gcd_zero_right]);clear Qt;go_wp2_with(go_at_call 147;refine HC.o.mono ?_;rintro e j ⟨za,zc,rfl,hz,m⟩)
       go_ret;exact⟨_,J,by rw[<-U.o];exact hz,Bt R m⟩
     . obtain rfl:l1=1:=O
       obtain⟨ae,bg,bh⟩:=OD (UN.len k.o).symm;obtain⟨bb,bo,rfl,ap,kb⟩:=(Js k.o).2.2.2.2 0 O;rw[ae]at kb;have Qy:wr.cell? ⟨bb,bo,none⟩=some (C B (d:Nat)):=kb;have Qk:=Y (OH g f c0 (some ⟨bb,bo,none⟩) 1 c1 X d wr s.o k.o O O);have Qi:=AZ X (show d>0 by omega);have U:=Y (show Nat.gcd d (X%d)=Nat.gcd x y by rw[<-z.o.2,CB d,<-Nat.gcd_rec,CB]);have Qv:=Y (show ∀(V:World) (v:kR) (l c:Nat),UN V (D v l c) (X%d)->Calls Tryz.prog 148 #[D (some ⟨V.heap.size,0,none⟩) 1 1,D v l c] (V.alloc (E #[C B (d:Nat)] 156)) λe n=>∃u,e=.returned u/\UN n u (Nat.gcd x y)/\Below (V.alloc (E #[C B (d:Nat)] 156)).heap.size (V.alloc (E #[C B (d:Nat)] 156)) n from λV v l c h=>by
        have r:=(DP.made (xs:=[d]) (BC V (E #[C B (d:Nat)] 156))).row 0 1 1 DK O O O;have Q:Row B (V.alloc (E #[C B (d:Nat)] 156)) (D (some ⟨V.heap.size,0,none⟩) 1 1) (Jc Z d):=by rw[ae];exact r
        have L:=Z4 (some ⟨V.heap.size,0,none⟩) 1 v l c d (X%d) _ Q (UN.below h (Ba V _)) O;rw[U.o]at L;exact L)
       clear kb ae;go_upto_region 12 with(go_at_call 146;refine Qk.o.mono ?_;rintro e j ⟨u,v,rfl,hu,G,m⟩;obtain⟨ua,uc,rfl⟩:=UN.form hu;obtain⟨va,vc,rfl⟩:=UN.form G)
       have bi:=(m.cell (p:=⟨bb,bo,none⟩) ap).trans Qy;go_wp2_with(go_at_call 148;refine(Qv.o _ _ _ _ G).mono ?_;rintro e w3 ⟨u3,rfl,ak,I⟩;obtain⟨ta,tc,rfl⟩:=UN.form ak)
       go_ret;have Ql:=Bt R m;exact⟨_,J,ak,RF Ql I⟩

