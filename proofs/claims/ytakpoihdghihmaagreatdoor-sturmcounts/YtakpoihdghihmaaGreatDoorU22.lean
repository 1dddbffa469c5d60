import Derived.Test.YtakpoihdghihmaaGreatDoorU21
set_option linter.all false
open Go.IntKind renaming u64->B,i64->nP
open Go.Value renaming int->C,slice->D
open Go.Obj renaming cells->E
set_option maxRecDepth 99999
set_option maxHeartbeats 0
namespace Go.Proofs.YtakpoihdghihmaaGreatDoor
open Proofs.Tryz
open Go.RowKit Go.Shelf
attribute [local go_sem] Oper.semAt_some
def SV{W:World}{B:Nat}{t:TypeId}{c d u0 u1:Value}(x0 x1 a b:Value)(h:Jp W B t c d)(k:Jp W (B+1) t u0 u1):
 Jp ((((W.setCell ⟨B,0,none⟩ x0).setCell ⟨B,1,none⟩ x1).setCell ⟨B+1,0,none⟩ a).setCell ⟨B+1,1,none⟩ b).drew B t x0 x1/\Jp ((((W.setCell ⟨B,0,none⟩ x0).setCell ⟨B,1,none⟩ x1).setCell ⟨B+1,0,none⟩ a).setCell ⟨B+1,1,none⟩ b).drew (B+1) t a b:=
 ⟨((((h.set0 x0).set1 x1).far DG a).far DG b).drew,((((k.far DG x0).far DG x1).set0 a).set1 b).drew⟩
def cD(N U la z ca:Nat)(b:nJ)(lb cb x y d s H L:Nat)(w:World)(h1:(la:Int)-1=z)(az:N<w.heap.size)
(ka:w.cell? ⟨N,U+z,none⟩=some (C B (d:Nat)))(bc:d<Z)(hs:s<=63)(HS:Hid ((64:Int)-(Lib.bitLen d:Int)=(s:Int)))(bt:la<=1099511627776)(bm:z<la)
(ai:Hid (∀V:World,Bl w V->Calls Tryz.prog 201 #[D (some ⟨N,U,none⟩) la ca,C .i64 (la:Nat),C B (s:Nat)] V λe o=>e=.returned (C B (H:Nat))/\Bl V o))
(aj:Hid (∀V:World,Bl w V->Calls Tryz.prog 201 #[D b lb cb,C .i64 (la:Nat),C B (s:Nat)] V λe o=>e=.returned (C B (L:Nat))/\Bl V o))
(I:H<Z)(ay:L<=H)(aq:Hid (∀sg h l a nb i c,GT H L sg h l a nb i c->c<=l->nb+c<=h-l->Hq x y a nb i c)):
 Calls Tryz.prog 174 #[D (some ⟨N,U,none⟩) la ca,D b lb cb] w λe o=>∃g pb a nb:Nat,e=.returned (.tuple #[.agg #[C B (g:Nat),C B (pb:Nat)],.agg #[C B (a:Nat),C B (nb:Nat)]])/\(g<Z/\pb<Z/\a<Z/\nb<Z)/\(pb=0\/Hq x y g pb a nb)/\Bl w o:=by
 have i1:nP.wrap ((la:Int)-1)=(z:Int):=by rw[h1];exact BR _ O
 have i3:nP.wrap (z:Int)=(z:Int):=BR _ O;have co:B.wrap (s:Int)=(s:Int):=Bn _ O;obtain⟨W0,Q⟩:=ex ((w.alloc (E #[C B 0,C B 0] 202)).alloc (E #[C B 0,C B 0] 202));have Qk:Bl w W0:=by rw[<-Q];exact(Ba w _).alloc DG _
 have b4:Jp W0 w.heap.size 202 (C B 0) (C B 0):=by rw[<-Q];exact(Jp.new w _ _ _).alloc _
 have b5:Jp W0 (w.heap.size+1) 202 (C B 0) (C B 0):=by
  have h:=Jp.new (w.alloc (E #[C B 0,C B 0] 202)) 202 (C B 0) (C B 0);rw[Ax,Q]at h;exact h
 have Qv:=(Qk.cell (p:=⟨N,U+z,none⟩) az).trans ka;have Qn:=Y Q;have Qm:=Y (show ∀V:World,Calls Tryz.prog 200 #[C B (d:Nat)] V λe o=>e=.returned (C .i64 (s:Nat))/\o=V from λV=>by
  have h:=Tryz.bits_LeadingZeros64 (d:Nat) V O (by unfold Z at bc;omega);rw[CE,HS.o]at h;exact h)
 clear Q ka HS;go_enter func174,ntmps174
 go_upto_region 1 with fail
 try rw[Qn.o]
 go_upto_region 2 with(go_at_call 200;refine(Qm.o _).mono ?_;rintro e o ⟨rfl,e1⟩;have e2:=e1.symm;subst e2;clear e1)
 have hq:=Qk;go_upto_region 3 with(first
  |(go_at_call 201;refine(ai.o _ hq).mono ?_;clear ai;rintro e w1 ⟨rfl,ad⟩;have hq:=Bt hq ad)
  |(go_at_call 201;refine(aj.o _ hq).mono ?_;clear aj;rintro e m ⟨rfl,ae⟩;have hq:=Bt hq ae))
 go_wp2_with fail
 obtain⟨G,n⟩:=ex (((m.alloc (E #[C B 0,C B 0] 202)).alloc (E #[C B 1,C B 0] 202)).alloc (E #[C B 0,C B 1] 202));have Qp:Bl w G:=by rw[<-n];exact((hq.alloc hq.size _).alloc (by have:=hq.size;simp;omega) _).alloc (by have:=hq.size;simp;omega) _
 have A:Jp G m.heap.size 202 (C B (0:Nat)) (C B (0:Nat)):=by rw[<-n];exact((Jp.new m _ _ _).alloc _).alloc _
 have t:Jp G (m.heap.size+1) 202 (C B (1:Nat)) (C B (0:Nat)):=by
  have h:=(Jp.new (m.alloc (E #[C B 0,C B 0] 202)) 202 (C B 1) (C B 0)).alloc (E #[C B 0,C B 1] 202);rw[Ax,n]at h;exact h
 have u:Jp G (m.heap.size+1+1) 202 (C B (0:Nat)) (C B (1:Nat)):=by
  have h:=Jp.new ((m.alloc (E #[C B 0,C B 0] 202)).alloc (E #[C B 1,C B 0] 202)) 202 (C B 0) (C B 1);rw[Ax,Ax,n]at h;exact h
 have T:=Bt ad ae;have j:Jp G w.heap.size 202 (C B 0) (C B 0):=by rw[<-n];exact(((b4.below T).alloc _).alloc _).alloc _
 have k:Jp G (w.heap.size+1) 202 (C B 0) (C B 0):=by rw[<-n];exact(((b5.below T).alloc _).alloc _).alloc _
 have Qw:w.heap.size+1<m.heap.size:=by have:=(b5.below T).lt;exact this
 rw[n];obtain⟨B9,ak⟩:=ex (m.heap.size);rw[ak]at A t u Qw ⊢;clear n T b4 b5 ad ae hq Qk ak Qv Qm Qn;go_loopw [7,8] (λhv lv wr=>∃h l g pb a nb i c:Nat,hv=C B (h:Nat)/\lv=C B (l:Nat)/\Hid (∃sg,GT H L sg h l a nb i c)/\Hid (pb=0\/Hq x y g pb a nb)/\(h<Z/\g<Z/\pb<Z/\a<Z/\nb<Z/\i<Z/\c<Z)/\
  Jp wr B9 202 (C B (g:Nat)) (C B (pb:Nat))/\Jp wr (B9+1) 202 (C B (a:Nat)) (C B (nb:Nat))/\Jp wr (B9+1+1) 202 (C B (i:Nat)) (C B (c:Nat))/\Jp wr w.heap.size 202 (C B 0) (C B 0)/\Jp wr (w.heap.size+1) 202 (C B 0) (C B 0)/\Bl w wr) (λ_ lv _=>(intOf lv).toNat)
 case atStart=>exact⟨H,L,0,0,1,0,0,1,J,J,⟨1,GT.start ay⟩,An J,⟨I,by unfold Z;omega,by unfold Z;omega,by unfold Z;omega,by unfold Z;omega,by unfold Z;omega,by unfold Z;omega⟩,A,t,u,j,k,Qp⟩
 case round=>
  clear A t u j k Qp;obtain⟨h,l,g,pb,a,nb,i,c,rfl,rfl,ah,W,⟨z1,z2,z3,z4,z5,z6,z7⟩,A,t,u,j,k,hB⟩:=hrel;obtain⟨sg,hle⟩:=ah.o;have bu:=hle.2.2.2.2.2.2.2;have cn:=hle.2.2.2.2.2.2.1;obtain⟨dk,dm⟩:=A.cp;obtain⟨de,dh⟩:=t.cp;obtain⟨di,dj⟩:=u.cp;by_cases c1:c<=l
  . obtain⟨y1,y2⟩:=hle.small O;obtain⟨e,he⟩:∃e:Nat,(h:Int)-(l:Int)=(e:Int):=⟨h-l,O⟩;obtain⟨f,hf⟩:∃f:Nat,(nb:Int)+(c:Int)=(f:Int):=⟨nb+c,O⟩;have we:B.wrap (e:Int)=(e:Int):=Bn _ (by unfold Z at z1;omega);have wf:B.wrap (f:Int)=(f:Int):=Bn _ (by unfold Z at I;omega);by_cases c2:f<=e
    . have Qi:=Y (aq.o _ _ _ _ _ _ _ hle c1 O);have M:=hle.step (show 1<=l by omega);have F:=Y M;obtain⟨q,hq⟩:=ex (h/l);obtain⟨r,hr⟩:=ex (h%l);rw[hq,hr]at M F;have ck:r<l:=by rw[<-hr];exact A9 _ O
      have cj:(h:Int)/(l:Int)=(q:Int):=O
      have Uc:(h:Int)%(l:Int)=(r:Int):=O
      have Ql:a+q*i<=L:=by
       have h1:=M.2.2.1;have h2:=Cf (a+q*i) (show 0<l by omega);omega
      have Qo:nb+q*c<=H:=by
       have h1:=M.2.1;have h2:=Cf (nb+q*c) (show 0<l by omega);omega
      obtain⟨P,hP⟩:=ex (q*i);obtain⟨K,ap⟩:=ex (q*c);rw[hP]at Ql F;rw[ap]at Qo F;obtain⟨R,am⟩:=ex (a+P);obtain⟨S,an⟩:=ex (nb+K);rw[am]at Ql F;rw[an]at Qo F;have p1:(q:Int)*(i:Int)=(P:Int):=O
      have p2:(q:Int)*(c:Int)=(K:Int):=O
      have p3:(a:Int)+(P:Int)=(R:Int):=O
      have p4:(nb:Int)+(K:Int)=(S:Int):=O
      have v1:B.wrap (P:Int)=(P:Int):=Bn _ (by unfold Z at I;omega);have v2:B.wrap (K:Int)=(K:Int):=Bn _ (by unfold Z at I;omega);have v3:B.wrap (R:Int)=(R:Int):=Bn _ (by unfold Z at I;omega);have v4:B.wrap (S:Int)=(S:Int):=Bn _ (by unfold Z at I;omega);have ce:q<=h:=by rw[<-hq];exact Fw _ _
      have v5:B.wrap (q:Int)=(q:Int):=Bn _ (by unfold Z at z1;omega);have bn:¬(l=0):=O
      obtain⟨bj,bk⟩:=A.fp;obtain⟨bf,bg⟩:=t.fp;obtain⟨bh,bi⟩:=u.fp;clear M hle hP ap am an hq hr y1 y2 ah W;go_upto_region 6 with fail
      go_quiet (fail)
      go_wp2_with fail
      go_region
      go_wp2_with fail
      have g9:Jp (wr.drewN (nq+1)) B9 202 (C B (g:Nat)) (C B (pb:Nat)):=A;have Ub:Jp (wr.drewN (nq+1)) (B9+1) 202 (C B (a:Nat)) (C B (nb:Nat)):=t;have Qs:Jp (wr.drewN (nq+1)) (B9+1+1) 202 (C B (i:Nat)) (C B (c:Nat)):=u;have g4:Jp (wr.drewN (nq+1)) w.heap.size 202 (C B 0) (C B 0):=j;have g5:Jp (wr.drewN (nq+1)) (w.heap.size+1) 202 (C B 0) (C B 0):=k;have gB:Bl w (wr.drewN (nq+1)):=LW hB _;rw[Uc];refine⟨⟨l,r,a,nb,i,c,R,S,J,J,⟨_,F.o⟩,Au Qi.o,⟨O,z4,z5,z6,z7,O,O⟩,?_,?_,?_,?_,?_,?_⟩,by simp[intOf];omega⟩
      . exact(((((g9.set0 _).set1 _).far DG _).far DG _).far Db _).far Db _
      . exact(((((Ub.far DG _).far DG _).set0 _).set1 _).far DG _).far DG _
      . exact(((((Qs.far Db _).far Db _).far DG _).far DG _).set0 _).set1 _
      . exact(((((g4.far Db _).far Db _).far Db _).far Db _).far Db _).far Db _
      . exact(((((g5.far Db _).far Db _).far Db _).far Db _).far Db _).far Db _
      . exact(((((gB.setCell (p:=⟨_,0,none⟩) Db _).setCell (p:=⟨_,1,none⟩) Db _).setCell (p:=⟨_,0,none⟩) Db _).setCell (p:=⟨_,1,none⟩) Db _).setCell (p:=⟨_,0,none⟩) Db _).setCell (p:=⟨_,1,none⟩) Db _
    . clear hle;obtain⟨Qx,Qq⟩:=j.cp;obtain⟨Qy,Qu⟩:=k.cp;obtain⟨Qr,Qt⟩:=j.fp;obtain⟨Qz,Ua⟩:=k.fp;have n1:¬(w.heap.size+1=w.heap.size):=O
      have n2:¬(B9=w.heap.size):=O
      have n3:¬(B9+1=w.heap.size):=O
      have n4:¬(B9=w.heap.size+1):=O
      have n5:¬(B9+1=w.heap.size+1):=O
      go_wp2_with fail
      go_region
      go_wp2_with fail
      obtain⟨q4,q5⟩:=SV (C B (g:Nat)) (C B (pb:Nat)) (C B (a:Nat)) (C B (nb:Nat)) j k;obtain⟨Qh,Qj⟩:=q4.cp;obtain⟨Qg,X⟩:=q5.cp;exact A0 (v:=.tuple #[.agg #[C B (g:Nat),C B (pb:Nat)],.agg #[C B (a:Nat),C B (nb:Nat)]]) (by simp[results,results174,go_sem,Qh,Qj,Qg,X]) J ⟨g,pb,a,nb,J,⟨z2,z3,z4,z5⟩,W.o,((((hB.setCell (p:=⟨_,0,none⟩) Db _).setCell (p:=⟨_,1,none⟩) Db _).setCell (p:=⟨_,0,none⟩) Db _).setCell (p:=⟨_,1,none⟩) Db _).drew⟩
  . clear hle;obtain⟨Qx,Qq⟩:=j.cp;obtain⟨Qy,Qu⟩:=k.cp;obtain⟨Qr,Qt⟩:=j.fp;obtain⟨Qz,Ua⟩:=k.fp;have n1:¬(w.heap.size+1=w.heap.size):=O
    have n2:¬(B9=w.heap.size):=O
    have n3:¬(B9+1=w.heap.size):=O
    have n4:¬(B9=w.heap.size+1):=O
    have n5:¬(B9+1=w.heap.size+1):=O
    go_wp2_with fail
    go_region
    go_wp2_with fail
    obtain⟨q4,q5⟩:=SV (C B (g:Nat)) (C B (pb:Nat)) (C B (a:Nat)) (C B (nb:Nat)) j k;obtain⟨Qh,Qj⟩:=q4.cp;obtain⟨Qg,X⟩:=q5.cp;exact A0 (v:=.tuple #[.agg #[C B (g:Nat),C B (pb:Nat)],.agg #[C B (a:Nat),C B (nb:Nat)]]) (by simp[results,results174,go_sem,Qh,Qj,Qg,X]) J ⟨g,pb,a,nb,J,⟨z2,z3,z4,z5⟩,W.o,((((hB.setCell (p:=⟨_,0,none⟩) Db _).setCell (p:=⟨_,1,none⟩) Db _).setCell (p:=⟨_,0,none⟩) Db _).setCell (p:=⟨_,1,none⟩) Db _).drew⟩
def cE(a:nJ)(la ca:Nat)(b:nJ)(lb cb x y:Nat)(w:World)(I:Row B w (D a la ca) (Jd Z x))(K:Row B w (D b lb cb) (Jd Z y))(H:y<=x)(ap:2<=lb):
 Calls Tryz.prog 174 #[D a la ca,D b lb cb] w λe w'=>∃n pb i nb:Nat,e=.returned (.tuple #[.agg #[C B (n:Nat),C B (pb:Nat)],.agg #[C B (i:Nat),C B (nb:Nat)]])/\(n<Z/\pb<Z/\i<Z/\nb<Z)/\(pb=0\/Hq x y n pb i nb)/\Bl w w':=by
 obtain⟨ah,aj,ay,m,ae⟩:=Ju I;obtain⟨ai,ak,az,an,am⟩:=Ju K;have M:lb<=la:=by rw[ah,ai];exact XC H
 obtain⟨k,A⟩:∃k,la=k+2:=⟨la-2,O⟩;obtain⟨r,t,rfl,ad,ka⟩:=ae (k+1) O;have c:=Jr Jg x;have F:(Jd Z x).length=k+2:=O
 have z:(Jd Z x)[k+1]?.getD 0≠0:=by
  intro e;have U:=Js Z (Jd Z x) (k+1);rw[Ad O,e,Cz,Cl,Jq Jg]at U;have h4:=YC c (k+1);have v:=Xz Jg F O;rw[show k+2-1=k+1 from J]at v;omega
 have f:(Jd Z x)[k+1]?.getD 0<Z:=c.getD uo _;obtain⟨d,g⟩:=ex ((Jd Z x)[k+1]?.getD 0);rw[g]at ka z f;obtain⟨N,P,u⟩:=bitLen_spec d z (by rw[<-I6];exact f);have hL:Lib.bitLen d<=64:=by
  rcases AQ 64 (Lib.bitLen d)with h|h
  . exfalso
    have v:2^64<=2^(Lib.bitLen d-1):=Ak O O;rw[I6]at f;omega
  . exact h
 obtain⟨s,G⟩:∃s,s=64-Lib.bitLen d:=⟨_,J⟩;obtain⟨o,v2⟩:=SK (s:=s) c F g P u N hL G;rw[Jq Jg]at o v2;have L:d<2^(64-s):=by rw[G,show 64-(64-Lib.bitLen d)=Lib.bitLen d from by omega];exact u
 have j:0<Z^k*2^(64-s):=DF (CW uo) (Cj _);have hH:GJ x k s<Z:=by
  unfold GJ;rw[AM j];have hp:=LT (s:=s) O;have Q:Z*(Z^k*2^(64-s))*2^s=Z^(k+2):=by
   rw[Cp,Cp,AD (2^(64-s)),hp,Cm,Cm,AD Z,Cp]
  rw[<-Q]at o;exact Nat.lt_of_mul_lt_mul_right o
 have p:=λ(V:World) (h:Bl w V)=>SU (some ⟨r,t,none⟩) la ca (Jd Z x) k (k+1) la s V (Row.below I h) c A O O O (Aa _) m (λ_=>by rw[g];exact L);have q:=λ(V:World) (h:Bl w V)=>SU b lb cb (Jd Z y) k (k+1) la s V (Row.below K h) (Jr Jg y) A O O O M m (λe=>by
  have aq:=YC (Jr Jg y) (k+1);have W:=Js Z (Jd Z y) (k+1);rw[Ad O,Jq Jg]at W;have X:=Js Z (Jd Z x) (k+1);rw[Ad O,Jq Jg,g]at X;have h8:=YC c (k+1);have h9:(Jd Z y)[k+1]?.getD 0<=d:=by
   rcases AQ d ((Jd Z y)[k+1]?.getD 0)with h|h
   . exfalso
     have:=Aj (Z^(k+1)) (show d+1<=(Jd Z y)[k+1]?.getD 0 from h);rw[Fx,FU]at this;omega
   . exact h
  omega)
 rw[Jq Jg]at p q;refine cD r t la (k+1) ca b lb cb x y d s (GJ x k s) (GJ y k s) w O ad ka f O (show _=_ by omega) m O p q hH (Nat.div_le_div_right H) ?_;intro sg h l i nb c xb hle R T;refine hle.out (S:=Z^k*2^(64-s)) (al:=x%(Z^k*2^(64-s))) (be:=y%(Z^k*2^(64-s))) ?_ ?_ (A9 _ j) (A9 _ j) R T
 . grind[GJ,Ce]
 grind[GJ,Ce]
def IY(W:World)(p:Addr):Nat:=match W.cell? p with|some (.int _ z)=>z.toNat|_=>0
def rowVal(W:World):Value->Nat
 |D (some p) l _=>val Z ((List.range l).map λj=>IY W ⟨p.block,p.off+j,none⟩)
 |_=>0
def UN.rowVal{W:World}{a:nJ}{l c n:Nat}(h:UN W (D a l c) n):rowVal W (D a l c)=n:=by
 obtain⟨g,_,_,_,i⟩:=Ju h;rcases AZ l with d|d
 . subst d;have k:=(JP Jg).1 (Al g.symm);subst k;cases a<;>rfl
 . obtain⟨b,f,rfl,_,_⟩:=i 0 d;show val Z ((List.range l).map λj=>IY W ⟨b,f+j,none⟩)=n;have e:(List.range l).map (λj=>IY W ⟨b,f+j,none⟩)=Jd Z n:=by
    refine List.ext_getElem DI λj m o=>?_;grind[IY]
   rw[e,Jq Jg]
def cF(a:nJ)(la ca:Nat)(b:nJ)(lb cb x y:Nat)(w:World)(ra:Row B w (D a la ca) (Jd Z x))(rb:Row B w (D b lb cb) (Jd Z y))(aq:la<1000000000000)(ay:lb<1000000000000):
 Calls Tryz.prog 134 #[D a la ca,D b lb cb] w λe n=>∃u,e=.returned u/\UN n u (Nat.gcd x y)/\Bl w n:=by
 have M:=Y (Oo _ _ (Jd Z x) (Jd Z y) w ra rb (Jr Jg x) (Jr Jg y) (Y3 Jg x) (Y3 Jg y));rw[Jq Jg,Jq Jg]at M;obtain⟨cm,ad⟩:=ex (Xt x y:Int);rw[ad]at M;obtain⟨Qj,Qm,W⟩:=DX ad ra rb;clear ad ra rb;go_enter func134,ntmps134
 go_upto_if 14 with(go_at_call 126;refine M.o.mono ?_;rintro e w1 ⟨rfl,A⟩)
 go_cut [0,1] λrv I wr=>∃(g:nJ) (f c0 X:Nat) (i:nJ) (l1 c1 d:Nat),rv=D g f c0/\I=D i l1 c1/\Hid (UN wr (D g f c0) X)/\Hid (UN wr (D i l1 c1) d)/\Hid (d<=X/\Nat.gcd X d=Nat.gcd x y)/\f<1000000000000/\Bl w wr
 case first=>
  by_cases Qw:cm<0
  . have Qx:x<y:=by
     have h:=Qj.o;unfold Xt at h;omega
    go_wp2_with fail
    go_meet
    case rel=>exact⟨_,_,_,y,_,_,_,x,J,J,Y (UN.below W.o A),Y (UN.below Qm.o A),Y ⟨O,CI _ _⟩,ay,A⟩
  . have Qx:¬(x<y):=λh=>by
     have q:=Qj.o;rw[Gz h]at q;omega
    go_wp2_with fail
    go_meet
    case rel=>exact⟨_,_,_,x,_,_,_,y,J,J,Y (UN.below Qm.o A),Y (UN.below W.o A),Y ⟨O,J⟩,aq,A⟩
 case rest=>
  obtain⟨g,f,c0,X,i,l1,c1,d,rfl,rfl,q,P,K,h4,h5⟩:=hcut;clear M Qj Qm W A;go_wp2_with fail
  go_loopw [0,1] (λrv I wr=>∃(g:nJ) (f c0 X:Nat) (i:nJ) (l1 c1 d:Nat),rv=D g f c0/\I=D i l1 c1/\Hid (UN wr (D g f c0) X)/\Hid (UN wr (D i l1 c1) d)/\Hid (d<=X/\Nat.gcd X d=Nat.gcd x y)/\f<1000000000000/\Bl w wr)
   (λrv I wr=>rowVal wr rv+rowVal wr I)
  case atStart=>exact⟨g,f,c0,X,i,l1,c1,d,J,J,q,P,K,h4,h5⟩
  case round=>
   clear q P K h4 h5;obtain⟨g,f,c0,X,i,l1,c1,d,rfl,rfl,r,k,t,az,Q⟩:=hrel;have bf:l1<=f:=by rw[UN.len r.o,UN.len k.o];exact XC t.o.1
   by_cases bc:1<l1
   . have Qw:(1:Int)<(l1:Int):=O
     have U:d≠0:=λe=>by
      have h:=UN.len k.o;rw[e,JG]at h;simp at h;omega
     have Qu:=Y (cE g f c0 i l1 c1 X d _ r.o k.o t.o.1 O);go_upto_region 5 with(go_at_call 174;refine Qu.o.mono ?_;rintro e j ⟨s,pb,G,nb,rfl,⟨b1,b2,b3,b4⟩,ah,m⟩)
     obtain⟨o,L⟩:=ex ((j.alloc (E #[C B (s:Nat),C B (pb:Nat)] 202)).alloc (E #[C B (G:Nat),C B (nb:Nat)] 202));have Ql:=Bt Q m;have H:Bl wr o:=by rw[<-L];exact(m.alloc m.size _).alloc (by have:=m.size;simp;omega) _
     have Qd:=Bt Q H;have m5:Jp o j.heap.size 202 (C B (s:Nat)) (C B (pb:Nat)):=by rw[<-L];exact(Jp.new j _ _ _).alloc _
     have m6:Jp o (j.heap.size+1) 202 (C B (G:Nat)) (C B (nb:Nat)):=by
      have h:=Jp.new (j.alloc (E #[C B (s:Nat),C B (pb:Nat)] 202)) 202 (C B (G:Nat)) (C B (nb:Nat));rw[Ax,L]at h;exact h
     have Qn:=UN.below r.o H;have N:=UN.below k.o H;rw[L];clear L Qu m Ql;obtain⟨k0,k1⟩:=m5.cp;obtain⟨k2,k3⟩:=m6.cp;by_cases S:pb=0
     . subst S;have Qk:=Y (O8 g f c0 i l1 c1 X d o Qn N U O);clear ah;go_wp2_with(go_at_call 176;refine Qk.o.mono ?_;rintro e w4 ⟨u,v,rfl,hu,F,R⟩;obtain⟨ua,uc,rfl⟩:=UN.form hu;obtain⟨va,vc,rfl⟩:=UN.form F)
       have Qi:=A9 X (show d>0 by omega);have Qq:=UN.below N R;refine⟨⟨i,l1,c1,d,va,_,vc,X%d,J,J,Y Qq,Y F,Y ⟨O,by rw[<-t.o.2,CI d,<-Nat.gcd_rec,CI]⟩,O,Bt Qd R⟩,?_⟩;rw[UN.rowVal Qq,UN.rowVal F,UN.rowVal r.o,UN.rowVal k.o];have:=t.o.1;omega
     . have z:=ah.resolve_left S;have Qs:nb*d≠0:=by
        have:=z.2.2.2;exact Fqq O U
       obtain⟨Qr,Qp,Qa,Qo,Qg⟩:=Gn (λ(V:World) (h:Bl o V)=>SQ s pb g f c0 i l1 c1 X d V (UN.below Qn h) (UN.below N h) b1 b2 O O (Fqq S U)) (λ(V:World) (h:Bl o V)=>SQ G nb g f c0 i l1 c1 X d V (UN.below Qn h) (UN.below N h) b3 b4 O O Qs) (z.less S O) z.gcd z.2.2.1;have Qf:=Y (show Dw (s*X) (pb*d)<=X by
        have e1:=z.1;have e2:=Co (Dw (s*X) (pb*d)) z.2.2.2;omega)
       clear z ah Qs;generalize Dw (s*X) (pb*d)=D1 at *;generalize Dw (G*X) (nb*d)=D2 at *;have hq:Bl o o.drew:=(BA _ o).drew;go_upto_region 6 with fail
       go_region_held3 (λn=>n.cell? ⟨j.heap.size,0,none⟩=some (C B (s:Nat))/\n.cell? ⟨j.heap.size,1,none⟩=some (C B (pb:Nat))/\n.cell? ⟨j.heap.size+1,0,none⟩=some (C B (G:Nat))/\n.cell? ⟨j.heap.size+1,1,none⟩=some (C B (nb:Nat))) (exact⟨k0,k1,k2,k3⟩)
        (first
         |(go_at_call 175;refine(Qr.o _ hq).mono ?_;clear Qr;rintro e w4 ⟨u4,rfl,am,R⟩;obtain⟨xa,xc,rfl⟩:=UN.form am;have hq:=Bt hq R;obtain⟨k0,k1⟩:=(m5.below hq).cp;obtain⟨k2,k3⟩:=(m6.below hq).cp)
         |(go_at_call 175;refine(Qp.o _ hq).mono ?_;clear Qp;rintro e w5 ⟨u5,rfl,ai,aj⟩;obtain⟨ya,yc,rfl⟩:=UN.form ai;have hq:=Bt hq aj;obtain⟨k0,k1⟩:=(m5.below hq).cp;obtain⟨k2,k3⟩:=(m6.below hq).cp))
       all_goals go_wp2_with fail
       have an:=UN.below am aj;refine⟨⟨xa,_,xc,D1,ya,_,yc,D2,J,J,Y an,Y ai,Y ⟨Nat.le_of_lt Qg.o,Qo.o.trans t.o.2⟩,?_,Bt Qd hq⟩,?_⟩
       . have q:=XC Qf.o;rw[<-UN.len r.o]at q;omega
       . rw[UN.rowVal an,UN.rowVal ai,UN.rowVal r.o,UN.rowVal k.o];exact Qa.o
   . rcases AZ l1 with h0|h0
     . subst h0;have Qt:=(JP Jg).1 (Al (UN.len k.o).symm);have HC:=Y (Rv g f c0 _ wr r.o);have T:=Y (show X=Nat.gcd x y by rw[<-t.o.2,Qt,Nat.gcd_zero_right]);clear Qt;go_wp2_with(go_at_call 177;refine HC.o.mono ?_;rintro e j ⟨za,zc,rfl,hz,m⟩)
       go_ret;exact⟨_,J,by rw[<-T.o];exact hz,Bt Q m⟩
     . obtain rfl:l1=1:=O
       obtain⟨ae,bg,bh⟩:=O6 (UN.len k.o).symm;obtain⟨bb,bo,rfl,ap,kb⟩:=(Ju k.o).2.2.2.2 0 O;rw[ae]at kb;have Qy:wr.cell? ⟨bb,bo,none⟩=some (C B (d:Nat)):=kb;have Qk:=Y (O8 g f c0 (some ⟨bb,bo,none⟩) 1 c1 X d wr r.o k.o O O);have Qi:=A9 X (show d>0 by omega);have T:=Y (show Nat.gcd d (X%d)=Nat.gcd x y by rw[<-t.o.2,CI d,<-Nat.gcd_rec,CI]);have Qv:=Y (show ∀(V:World) (v:nJ) (l c:Nat),UN V (D v l c) (X%d)->Calls Tryz.prog 178 #[D (some ⟨V.heap.size,0,none⟩) 1 1,D v l c] (V.alloc (E #[C B (d:Nat)] 115)) λe n=>∃u,e=.returned u/\UN n u (Nat.gcd x y)/\Below (V.alloc (E #[C B (d:Nat)] 115)).heap.size (V.alloc (E #[C B (d:Nat)] 115)) n from λV v l c h=>by
        have q:=(DO.made (xs:=[d]) (BB V (E #[C B (d:Nat)] 115))).row 0 1 1 DG O O O;have P:Row B (V.alloc (E #[C B (d:Nat)] 115)) (D (some ⟨V.heap.size,0,none⟩) 1 1) (Jd Z d):=by rw[ae];exact q
        have K:=br (some ⟨V.heap.size,0,none⟩) 1 v l c d (X%d) _ P (UN.below h (Ba V _)) O;rw[T.o]at K;exact K)
       clear kb ae;go_upto_region 12 with(go_at_call 176;refine Qk.o.mono ?_;rintro e j ⟨u,v,rfl,hu,F,m⟩;obtain⟨ua,uc,rfl⟩:=UN.form hu;obtain⟨va,vc,rfl⟩:=UN.form F)
       have bi:=(m.cell (p:=⟨bb,bo,none⟩) ap).trans Qy;go_wp2_with(go_at_call 178;refine(Qv.o _ _ _ _ F).mono ?_;rintro e w3 ⟨u3,rfl,ak,H⟩;obtain⟨ta,tc,rfl⟩:=UN.form ak)
       go_ret;have Ql:=Bt Q m;exact⟨_,J,ak,SO Ql H⟩

