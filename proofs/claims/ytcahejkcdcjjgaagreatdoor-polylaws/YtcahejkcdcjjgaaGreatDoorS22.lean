import Derived.Test.YtcahejkcdcjjgaaGreatDoorS21
set_option linter.all false
open Go.IntKind renaming u64->B,i64->WW
open Go.Value renaming int->C,slice->D
open Go.Obj renaming cells->E
set_option maxRecDepth 99999
set_option maxHeartbeats 0
namespace Go.Proofs.YtcahejkcdcjjgaaGreatDoor
open Proofs.Tryz
open Go.RowKit Go.Shelf
attribute [local go_sem] Oper.semAt_some
def Ns{W:World}{B:Nat}{t:TypeId}{c d u0 u1:Value}(x0 x1 a b:Value)(h:Jo W B t c d)(k:Jo W (B+1) t u0 u1):
 Jo ((((W.setCell ⟨B,0,none⟩ x0).setCell ⟨B,1,none⟩ x1).setCell ⟨B+1,0,none⟩ a).setCell ⟨B+1,1,none⟩ b).drew B t x0 x1/\Jo ((((W.setCell ⟨B,0,none⟩ x0).setCell ⟨B,1,none⟩ x1).setCell ⟨B+1,0,none⟩ a).setCell ⟨B+1,1,none⟩ b).drew (B+1) t a b:=
 ⟨((((h.set0 x0).set1 x1).far DQ a).far DQ b).drew,((((k.far DQ x0).far DQ x1).set0 a).set1 b).drew⟩
def Sh(R X la G ca:Nat)(b:WO)(lb cb x y d s z L:Nat)(w:World)(h1:(la:Int)-1=G)(az:R<w.heap.size)
(ka:w.cell? ⟨R,X+G,none⟩=some (C B (d:Nat)))(ba:d<O)(hs:s<=63)(HS:Hid ((64:Int)-(Lib.bitLen d:Int)=(s:Int)))(bm:la<=1099511627776)(bj:G<la)
(ai:Hid (∀V:World,Bl w V->Calls Tryz.prog 177 #[D (some ⟨R,X,none⟩) la ca,C .i64 (la:Nat),C B (s:Nat)] V λe u=>e=.returned (C B (z:Nat))/\Bl V u))
(aj:Hid (∀V:World,Bl w V->Calls Tryz.prog 177 #[D b lb cb,C .i64 (la:Nat),C B (s:Nat)] V λe u=>e=.returned (C B (L:Nat))/\Bl V u))
(M:z<O)(ay:L<=z)(aq:Hid (∀sg h l a nb k c,Em z L sg h l a nb k c->c<=l->nb+c<=h-l->FN x y a nb k c)):
 Calls Tryz.prog 149 #[D (some ⟨R,X,none⟩) la ca,D b lb cb] w λe u=>∃j g a nb:Nat,e=.returned (.tuple #[.agg #[C B (j:Nat),C B (g:Nat)],.agg #[C B (a:Nat),C B (nb:Nat)]])/\(j<O/\g<O/\a<O/\nb<O)/\(g=0\/FN x y j g a nb)/\Bl w u:=by
 have i1:WW.wrap ((la:Int)-1)=(G:Int):=by rw[h1];exact B0 _ Z
 have i3:WW.wrap (G:Int)=(G:Int):=B0 _ Z;have cg:B.wrap (s:Int)=(s:Int):=C8 _ Z;obtain⟨W0,S⟩:=ex ((w.alloc (E #[C B 0,C B 0] 180)).alloc (E #[C B 0,C B 0] 180));have Qk:Bl w W0:=by rw[<-S];exact(Ba w _).alloc DQ _
 have b4:Jo W0 w.heap.size 180 (C B 0) (C B 0):=by rw[<-S];exact(Jo.new w _ _ _).alloc _
 have b5:Jo W0 (w.heap.size+1) 180 (C B 0) (C B 0):=by
  have h:=Jo.new (w.alloc (E #[C B 0,C B 0] 180)) 180 (C B 0) (C B 0);rw[A1,S]at h;exact h
 have Qv:=(Qk.cell (p:=⟨R,X+G,none⟩) az).trans ka;have Qn:=Ja S;have Qm:=Ja (show ∀V:World,Calls Tryz.prog 176 #[C B (d:Nat)] V λe u=>e=.returned (C .i64 (s:Nat))/\u=V from λV=>by
  have h:=Tryz.bits_LeadingZeros64 (d:Nat) V Z (by unfold O at ba;omega);rw[Cw,HS.o]at h;exact h)
 clear S ka HS;go_enter func149,ntmps149
 go_upto_region 1 with fail
 try rw[Qn.o]
 go_upto_region 2 with(go_at_call 176;refine(Qm.o _).mono ?_;rintro e u ⟨rfl,e1⟩;have e2:=e1.symm;subst e2;clear e1)
 have i:=Qk;go_upto_region 3 with(first
  |(go_at_call 177;refine(ai.o _ i).mono ?_;clear ai;rintro e w1 ⟨rfl,ad⟩;have i:=Bt i ad)
  |(go_at_call 177;refine(aj.o _ i).mono ?_;clear aj;rintro e o ⟨rfl,ae⟩;have i:=Bt i ae))
 go_wp2_with fail
 obtain⟨K,t⟩:=ex (((o.alloc (E #[C B 0,C B 0] 180)).alloc (E #[C B 1,C B 0] 180)).alloc (E #[C B 0,C B 1] 180));have Qp:Bl w K:=by rw[<-t];exact((i.alloc i.size _).alloc (by have:=i.size;simp;omega) _).alloc (by have:=i.size;simp;omega) _
 have H:Jo K o.heap.size 180 (C B (0:Nat)) (C B (0:Nat)):=by rw[<-t];exact((Jo.new o _ _ _).alloc _).alloc _
 have A:Jo K (o.heap.size+1) 180 (C B (1:Nat)) (C B (0:Nat)):=by
  have h:=(Jo.new (o.alloc (E #[C B 0,C B 0] 180)) 180 (C B 1) (C B 0)).alloc (E #[C B 0,C B 1] 180);rw[A1,t]at h;exact h
 have F:Jo K (o.heap.size+1+1) 180 (C B (0:Nat)) (C B (1:Nat)):=by
  have h:=Jo.new ((o.alloc (E #[C B 0,C B 0] 180)).alloc (E #[C B 1,C B 0] 180)) 180 (C B 0) (C B 1);rw[A1,A1,t]at h;exact h
 have W:=Bt ad ae;have m:Jo K w.heap.size 180 (C B 0) (C B 0):=by rw[<-t];exact(((b4.below W).alloc _).alloc _).alloc _
 have n:Jo K (w.heap.size+1) 180 (C B 0) (C B 0):=by rw[<-t];exact(((b5.below W).alloc _).alloc _).alloc _
 have Qw:w.heap.size+1<o.heap.size:=by have:=(b5.below W).lt;exact this
 rw[t];obtain⟨B9,ak⟩:=ex (o.heap.size);rw[ak]at H A F Qw ⊢;clear t W b4 b5 ad ae i Qk ak Qv Qm Qn;go_loopw [7,8] (λhv lv wr=>∃h l j g a nb k c:Nat,hv=C B (h:Nat)/\lv=C B (l:Nat)/\Hid (∃sg,Em z L sg h l a nb k c)/\Hid (g=0\/FN x y j g a nb)/\(h<O/\j<O/\g<O/\a<O/\nb<O/\k<O/\c<O)/\
  Jo wr B9 180 (C B (j:Nat)) (C B (g:Nat))/\Jo wr (B9+1) 180 (C B (a:Nat)) (C B (nb:Nat))/\Jo wr (B9+1+1) 180 (C B (k:Nat)) (C B (c:Nat))/\Jo wr w.heap.size 180 (C B 0) (C B 0)/\Jo wr (w.heap.size+1) 180 (C B 0) (C B 0)/\Bl w wr) (λ_ lv _=>(intOf lv).toNat)
 case atStart=>exact⟨z,L,0,0,1,0,0,1,J,J,⟨1,Em.start ay⟩,Az J,⟨M,by unfold O;omega,by unfold O;omega,by unfold O;omega,by unfold O;omega,by unfold O;omega,by unfold O;omega⟩,H,A,F,m,n,Qp⟩
 case round=>
  clear H A F m n Qp;obtain⟨h,l,j,g,a,nb,k,c,rfl,rfl,ah,HO,⟨z1,z2,z3,z4,z5,z6,z7⟩,H,A,F,m,n,hB⟩:=hrel;obtain⟨sg,hle⟩:=ah.o;have bn:=hle.2.2.2.2.2.2.2;have ce:=hle.2.2.2.2.2.2.1;obtain⟨cr,cy⟩:=H.cp;obtain⟨cj,ck⟩:=A.cp;obtain⟨cn,co⟩:=F.cp;by_cases c1:c<=l
  . obtain⟨y1,y2⟩:=hle.small Z;obtain⟨e,he⟩:∃e:Nat,(h:Int)-(l:Int)=(e:Int):=⟨h-l,Z⟩;obtain⟨f,hf⟩:∃f:Nat,(nb:Int)+(c:Int)=(f:Int):=⟨nb+c,Z⟩;have we:B.wrap (e:Int)=(e:Int):=C8 _ (by unfold O at z1;omega);have wf:B.wrap (f:Int)=(f:Int):=C8 _ (by unfold O at M;omega);by_cases c2:f<=e
    . have Qi:=Ja (aq.o _ _ _ _ _ _ _ hle c1 Z);have Q:=hle.step (show 1<=l by omega);have I:=Ja Q;obtain⟨q,i⟩:=ex (h/l);obtain⟨r,hr⟩:=ex (h%l);rw[i,hr]at Q I;have bz:r<l:=by rw[<-hr];exact AY _ Z
      have bu:(h:Int)/(l:Int)=(q:Int):=Z
      have Uc:(h:Int)%(l:Int)=(r:Int):=Z
      have Ql:a+q*k<=L:=by
       have h1:=Q.2.2.1;have h2:=Ci (a+q*k) (show 0<l by omega);omega
      have Qo:nb+q*c<=z:=by
       have h1:=Q.2.1;have h2:=Ci (nb+q*c) (show 0<l by omega);omega
      obtain⟨P,hP⟩:=ex (q*k);obtain⟨N,ap⟩:=ex (q*c);rw[hP]at Ql I;rw[ap]at Qo I;obtain⟨T,am⟩:=ex (a+P);obtain⟨U,an⟩:=ex (nb+N);rw[am]at Ql I;rw[an]at Qo I;have p1:(q:Int)*(k:Int)=(P:Int):=Z
      have p2:(q:Int)*(c:Int)=(N:Int):=Z
      have p3:(a:Int)+(P:Int)=(T:Int):=Z
      have p4:(nb:Int)+(N:Int)=(U:Int):=Z
      have v1:B.wrap (P:Int)=(P:Int):=C8 _ (by unfold O at M;omega);have v2:B.wrap (N:Int)=(N:Int):=C8 _ (by unfold O at M;omega);have v3:B.wrap (T:Int)=(T:Int):=C8 _ (by unfold O at M;omega);have v4:B.wrap (U:Int)=(U:Int):=C8 _ (by unfold O at M;omega);have bt:q<=h:=by rw[<-i];exact CT _ _
      have v5:B.wrap (q:Int)=(q:Int):=C8 _ (by unfold O at z1;omega);have bk:¬(l=0):=Z
      obtain⟨bh,bi⟩:=H.fp;obtain⟨bc,bd⟩:=A.fp;obtain⟨bf,bg⟩:=F.fp;clear Q hle hP ap am an i hr y1 y2 ah HO;go_upto_region 6 with fail
      go_quiet (fail)
      go_wp2_with fail
      go_region
      go_wp2_with fail
      have g9:Jo (wr.drewN (nq+1)) B9 180 (C B (j:Nat)) (C B (g:Nat)):=H;have Ub:Jo (wr.drewN (nq+1)) (B9+1) 180 (C B (a:Nat)) (C B (nb:Nat)):=A;have Qs:Jo (wr.drewN (nq+1)) (B9+1+1) 180 (C B (k:Nat)) (C B (c:Nat)):=F;have g4:Jo (wr.drewN (nq+1)) w.heap.size 180 (C B 0) (C B 0):=m;have g5:Jo (wr.drewN (nq+1)) (w.heap.size+1) 180 (C B 0) (C B 0):=n;have gB:Bl w (wr.drewN (nq+1)):=Hg hB _;rw[Uc];refine⟨⟨l,r,a,nb,k,c,T,U,J,J,⟨_,I.o⟩,AE Qi.o,⟨Z,z4,z5,z6,z7,Z,Z⟩,?_,?_,?_,?_,?_,?_⟩,by simp[intOf];omega⟩
      . exact(((((g9.set0 _).set1 _).far DQ _).far DQ _).far so _).far so _
      . exact(((((Ub.far DQ _).far DQ _).set0 _).set1 _).far DQ _).far DQ _
      . exact(((((Qs.far so _).far so _).far DQ _).far DQ _).set0 _).set1 _
      . exact(((((g4.far so _).far so _).far so _).far so _).far so _).far so _
      . exact(((((g5.far so _).far so _).far so _).far so _).far so _).far so _
      . exact(((((gB.setCell (p:=⟨_,0,none⟩) so _).setCell (p:=⟨_,1,none⟩) so _).setCell (p:=⟨_,0,none⟩) so _).setCell (p:=⟨_,1,none⟩) so _).setCell (p:=⟨_,0,none⟩) so _).setCell (p:=⟨_,1,none⟩) so _
    . clear hle;obtain⟨Qx,Qq⟩:=m.cp;obtain⟨Qy,Qu⟩:=n.cp;obtain⟨Qr,Qt⟩:=m.fp;obtain⟨Qz,Ua⟩:=n.fp;have n1:¬(w.heap.size+1=w.heap.size):=Z
      have n2:¬(B9=w.heap.size):=Z
      have n3:¬(B9+1=w.heap.size):=Z
      have n4:¬(B9=w.heap.size+1):=Z
      have n5:¬(B9+1=w.heap.size+1):=Z
      go_wp2_with fail
      go_region
      go_wp2_with fail
      obtain⟨q4,q5⟩:=Ns (C B (j:Nat)) (C B (g:Nat)) (C B (a:Nat)) (C B (nb:Nat)) m n;obtain⟨Qh,Qj⟩:=q4.cp;obtain⟨Qg,Qf⟩:=q5.cp;exact BM (v:=.tuple #[.agg #[C B (j:Nat),C B (g:Nat)],.agg #[C B (a:Nat),C B (nb:Nat)]]) (by simp[results,results149,go_sem,Qh,Qj,Qg,Qf]) J ⟨j,g,a,nb,J,⟨z2,z3,z4,z5⟩,HO.o,((((hB.setCell (p:=⟨_,0,none⟩) so _).setCell (p:=⟨_,1,none⟩) so _).setCell (p:=⟨_,0,none⟩) so _).setCell (p:=⟨_,1,none⟩) so _).drew⟩
  . clear hle;obtain⟨Qx,Qq⟩:=m.cp;obtain⟨Qy,Qu⟩:=n.cp;obtain⟨Qr,Qt⟩:=m.fp;obtain⟨Qz,Ua⟩:=n.fp;have n1:¬(w.heap.size+1=w.heap.size):=Z
    have n2:¬(B9=w.heap.size):=Z
    have n3:¬(B9+1=w.heap.size):=Z
    have n4:¬(B9=w.heap.size+1):=Z
    have n5:¬(B9+1=w.heap.size+1):=Z
    go_wp2_with fail
    go_region
    go_wp2_with fail
    obtain⟨q4,q5⟩:=Ns (C B (j:Nat)) (C B (g:Nat)) (C B (a:Nat)) (C B (nb:Nat)) m n;obtain⟨Qh,Qj⟩:=q4.cp;obtain⟨Qg,Qf⟩:=q5.cp;exact BM (v:=.tuple #[.agg #[C B (j:Nat),C B (g:Nat)],.agg #[C B (a:Nat),C B (nb:Nat)]]) (by simp[results,results149,go_sem,Qh,Qj,Qg,Qf]) J ⟨j,g,a,nb,J,⟨z2,z3,z4,z5⟩,HO.o,((((hB.setCell (p:=⟨_,0,none⟩) so _).setCell (p:=⟨_,1,none⟩) so _).setCell (p:=⟨_,0,none⟩) so _).setCell (p:=⟨_,1,none⟩) so _).drew⟩
def Si(a:WO)(la g:Nat)(b:WO)(lb i x y:Nat)(w:World)(L:Row B w (D a la g) (Jc O x))(M:Row B w (D b lb i) (Jc O y))(K:y<=x)(ap:2<=lb):
 Calls Tryz.prog 149 #[D a la g,D b lb i] w λe w'=>∃q n m nb:Nat,e=.returned (.tuple #[.agg #[C B (q:Nat),C B (n:Nat)],.agg #[C B (m:Nat),C B (nb:Nat)]])/\(q<O/\n<O/\m<O/\nb<O)/\(n=0\/FN x y q n m nb)/\Bl w w':=by
 obtain⟨ah,aj,ay,p,ae⟩:=Jn L;obtain⟨ai,ak,az,an,am⟩:=Jn M;have P:lb<=la:=by rw[ah,ai];exact Yv K
 obtain⟨k,H⟩:∃k,la=k+2:=⟨la-2,Z⟩;obtain⟨v,z,rfl,ad,ka⟩:=ae (k+1) Z;have c:=Jm Jb x;have I:(Jc O x).length=k+2:=Z
 have G:(Jc O x)[k+1]?.getD 0≠0:=by
  intro e;have X:=Jk O (Jc O x) (k+1);rw[Ad Z,e,Cd,A4,Jl Jb]at X;have h4:=J0 c (k+1);have F:=Ys Jb I Z;rw[show k+2-1=k+1 from J]at F;omega
 have f:(Jc O x)[k+1]?.getD 0<O:=c.getD uo _;obtain⟨d,j⟩:=ex ((Jc O x)[k+1]?.getD 0);rw[j]at ka G f;obtain⟨Q,R,A⟩:=bitLen_spec d G (by rw[<-F6];exact f);have hL:Lib.bitLen d<=64:=by
  rcases AJ 64 (Lib.bitLen d)with h|h
  . exfalso
    have F:2^64<=2^(Lib.bitLen d-1):=Am Z Z;rw[F6]at f;omega
  . exact h
 obtain⟨s,hs⟩:∃s,s=64-Lib.bitLen d:=⟨_,J⟩;obtain⟨r,v2⟩:=Nj (s:=s) c I j R A Q hL hs;rw[Jl Jb]at r v2;have N:d<2^(64-s):=by rw[hs,show 64-(64-Lib.bitLen d)=Lib.bitLen d from by omega];exact A
 have o:0<O^k*2^(64-s):=DO (C6 uo) (A2 _);have hH:Ee x k s<O:=by
  unfold Ee;rw[AD o];have hp:=Hd (s:=s) Z;have T:O*(O^k*2^(64-s))*2^s=O^(k+2):=by
   rw[A9,A9,AK (2^(64-s)),hp,Ce,Ce,AK O,A9]
  rw[<-T]at r;exact Nat.lt_of_mul_lt_mul_right r
 have t:=λ(V:World) (h:Bl w V)=>Nr (some ⟨v,z,none⟩) la g (Jc O x) k (k+1) la s V (Row.below L h) c H Z Z Z (Aa _) p (λ_=>by rw[j];exact N);have u:=λ(V:World) (h:Bl w V)=>Nr b lb i (Jc O y) k (k+1) la s V (Row.below M h) (Jm Jb y) H Z Z Z P p (λe=>by
  have aq:=J0 (Jm Jb y) (k+1);have h6:=Jk O (Jc O y) (k+1);rw[Ad Z,Jl Jb]at h6;have h7:=Jk O (Jc O x) (k+1);rw[Ad Z,Jl Jb,j]at h7;have h8:=J0 c (k+1);have h9:(Jc O y)[k+1]?.getD 0<=d:=by
   rcases AJ d ((Jc O y)[k+1]?.getD 0)with h|h
   . exfalso
     have:=Au (O^(k+1)) (show d+1<=(Jc O y)[k+1]?.getD 0 from h);rw[CY,Nat.mul_one]at this;omega
   . exact h
  omega)
 rw[Jl Jb]at t u;refine Sh v z la (k+1) g b lb i x y d s (Ee x k s) (Ee y k s) w Z ad ka f Z (show _=_ by omega) p Z t u hH (Nat.div_le_div_right K) ?_;intro sg h l m nb c xb hle U W;refine hle.out (S:=O^k*2^(64-s)) (al:=x%(O^k*2^(64-s))) (be:=y%(O^k*2^(64-s))) ?_ ?_ (AY _ o) (AY _ o) U W
 . grind[Ee,A0]
 grind[Ee,A0]
def Fi(W:World)(p:Addr):Nat:=match W.cell? p with|some (.int _ z)=>z.toNat|_=>0
def rowVal(W:World):Value->Nat
 |D (some p) l _=>val O ((List.range l).map λj=>Fi W ⟨p.block,p.off+j,none⟩)
 |_=>0
def UN.rowVal{W:World}{a:WO}{l c n:Nat}(h:UN W (D a l c) n):rowVal W (D a l c)=n:=by
 obtain⟨g,_,_,_,i⟩:=Jn h;rcases A5 l with d|d
 . subst d;have k:=(JC Jb).1 (As g.symm);subst k;cases a<;>rfl
 . obtain⟨b,f,rfl,_,_⟩:=i 0 d;show val O ((List.range l).map λj=>Fi W ⟨b,f+j,none⟩)=n;have e:(List.range l).map (λj=>Fi W ⟨b,f+j,none⟩)=Jc O n:=by
    refine List.ext_getElem De λj m o=>?_;grind[Fi]
   rw[e,Jl Jb]
def Sj(a:WO)(la ca:Nat)(b:WO)(lb cb x y:Nat)(w:World)(ra:Row B w (D a la ca) (Jc O x))(rb:Row B w (D b lb cb) (Jc O y))(aq:la<1000000000000)(ay:lb<1000000000000):
 Calls Tryz.prog 116 #[D a la ca,D b lb cb] w λe o=>∃u,e=.returned u/\UN o u (Nat.gcd x y)/\Bl w o:=by
 have P:=Ja (LF _ _ (Jc O x) (Jc O y) w ra rb (Jm Jb x) (Jm Jb y) (YR Jb x) (YR Jb y));rw[Jl Jb,Jl Jb]at P;obtain⟨cm,ad⟩:=ex (YX x y:Int);rw[ad]at P;obtain⟨Qj,Qm,Qh⟩:=Dm ad ra rb;clear ad ra rb;go_enter func116,ntmps116
 go_upto_if 14 with(go_at_call 114;refine P.o.mono ?_;rintro e w1 ⟨rfl,G⟩)
 go_cut [0,1] λrv L wr=>∃(g:WO) (f c0 X:Nat) (i:WO) (d c1 Y:Nat),rv=D g f c0/\L=D i d c1/\Hid (UN wr (D g f c0) X)/\Hid (UN wr (D i d c1) Y)/\Hid (Y<=X/\Nat.gcd X Y=Nat.gcd x y)/\f<1000000000000/\Bl w wr
 case first=>
  by_cases Qw:cm<0
  . have Qx:x<y:=by
     have h:=Qj.o;unfold YX at h;omega
    go_wp2_with fail
    go_meet
    case rel=>exact⟨_,_,_,y,_,_,_,x,J,J,Ja (UN.below Qh.o G),Ja (UN.below Qm.o G),Ja ⟨Z,C1 _ _⟩,ay,G⟩
  . have Qx:¬(x<y):=λh=>by
     have s:=Qj.o;rw[GP h]at s;omega
    go_wp2_with fail
    go_meet
    case rel=>exact⟨_,_,_,x,_,_,_,y,J,J,Ja (UN.below Qm.o G),Ja (UN.below Qh.o G),Ja ⟨Z,J⟩,aq,G⟩
 case rest=>
  obtain⟨g,f,c0,X,i,d,c1,Y,rfl,rfl,s,R,M,h4,h5⟩:=hcut;clear P Qj Qm Qh G;go_wp2_with fail
  go_loopw [0,1] (λrv L wr=>∃(g:WO) (f c0 X:Nat) (i:WO) (d c1 Y:Nat),rv=D g f c0/\L=D i d c1/\Hid (UN wr (D g f c0) X)/\Hid (UN wr (D i d c1) Y)/\Hid (Y<=X/\Nat.gcd X Y=Nat.gcd x y)/\f<1000000000000/\Bl w wr)
   (λrv L wr=>rowVal wr rv+rowVal wr L)
  case atStart=>exact⟨g,f,c0,X,i,d,c1,Y,J,J,s,R,M,h4,h5⟩
  case round=>
   clear s R M h4 h5;obtain⟨g,f,c0,X,i,d,c1,Y,rfl,rfl,t,m,A,az,S⟩:=hrel;have bc:d<=f:=by rw[UN.len t.o,UN.len m.o];exact Yv A.o.1
   by_cases ba:1<d
   . have Qw:(1:Int)<(d:Int):=Z
     have Qe:Y≠0:=λe=>by
      have h:=UN.len m.o;rw[e,Jz]at h;simp at h;omega
     have Qu:=Ja (Si g f c0 i d c1 X Y _ t.o m.o A.o.1 Z);go_upto_region 5 with(go_at_call 149;refine Qu.o.mono ?_;rintro e k ⟨z,r,I,nb,rfl,⟨b1,b2,b3,b4⟩,ah,n⟩)
     obtain⟨q,N⟩:=ex ((k.alloc (E #[C B (z:Nat),C B (r:Nat)] 180)).alloc (E #[C B (I:Nat),C B (nb:Nat)] 180));have Ql:=Bt S n;have K:Bl wr q:=by rw[<-N];exact(n.alloc n.size _).alloc (by have:=n.size;simp;omega) _
     have Qd:=Bt S K;have m5:Jo q k.heap.size 180 (C B (z:Nat)) (C B (r:Nat)):=by rw[<-N];exact(Jo.new k _ _ _).alloc _
     have m6:Jo q (k.heap.size+1) 180 (C B (I:Nat)) (C B (nb:Nat)):=by
      have h:=Jo.new (k.alloc (E #[C B (z:Nat),C B (r:Nat)] 180)) 180 (C B (I:Nat)) (C B (nb:Nat));rw[A1,N]at h;exact h
     have Qn:=UN.below t.o K;have Q:=UN.below m.o K;rw[N];clear N Qu n Ql;obtain⟨k0,k1⟩:=m5.cp;obtain⟨k2,k3⟩:=m6.cp;by_cases U:r=0
     . subst U;have Qk:=Ja (LZ g f c0 i d c1 X Y q Qn Q Qe Z);clear ah;go_wp2_with(go_at_call 151;refine Qk.o.mono ?_;rintro e w4 ⟨u,v,rfl,hu,H,T⟩;obtain⟨ua,uc,rfl⟩:=UN.form hu;obtain⟨va,vc,rfl⟩:=UN.form H)
       have Qi:=AY X (show Y>0 by omega);have Qq:=UN.below Q T;refine⟨⟨i,d,c1,Y,va,_,vc,X%Y,J,J,Ja Qq,Ja H,Ja ⟨Z,by rw[<-A.o.2,C1 Y,<-Nat.gcd_rec,C1]⟩,Z,Bt Qd T⟩,?_⟩;rw[UN.rowVal Qq,UN.rowVal H,UN.rowVal t.o,UN.rowVal m.o];have:=A.o.1;omega
     . have F:=ah.resolve_left U;have Qs:nb*Y≠0:=by
        have:=F.2.2.2;exact Nat.mul_ne_zero Z Qe
       obtain⟨Qr,Qp,Qa,Qo,Qg⟩:=Fg (λ(V:World) (h:Bl q V)=>Nq z r g f c0 i d c1 X Y V (UN.below Qn h) (UN.below Q h) b1 b2 Z Z (Nat.mul_ne_zero U Qe)) (λ(V:World) (h:Bl q V)=>Nq I nb g f c0 i d c1 X Y V (UN.below Qn h) (UN.below Q h) b3 b4 Z Z Qs) (F.less U Z) F.gcd F.2.2.1;have Qf:=Ja (show Y8 (z*X) (r*Y)<=X by
        have e1:=F.1;have e2:=Cc (Y8 (z*X) (r*Y)) F.2.2.2;omega)
       clear F ah Qs;generalize Y8 (z*X) (r*Y)=D1 at *;generalize Y8 (I*X) (nb*Y)=D2 at *;have j:Bl q q.drew:=(BL _ q).drew;go_upto_region 6 with fail
       go_region_held3 (λo=>o.cell? ⟨k.heap.size,0,none⟩=some (C B (z:Nat))/\o.cell? ⟨k.heap.size,1,none⟩=some (C B (r:Nat))/\o.cell? ⟨k.heap.size+1,0,none⟩=some (C B (I:Nat))/\o.cell? ⟨k.heap.size+1,1,none⟩=some (C B (nb:Nat))) (exact⟨k0,k1,k2,k3⟩)
        (first
         |(go_at_call 150;refine(Qr.o _ j).mono ?_;clear Qr;rintro e w4 ⟨u4,rfl,am,T⟩;obtain⟨xa,xc,rfl⟩:=UN.form am;have j:=Bt j T;obtain⟨k0,k1⟩:=(m5.below j).cp;obtain⟨k2,k3⟩:=(m6.below j).cp)
         |(go_at_call 150;refine(Qp.o _ j).mono ?_;clear Qp;rintro e w5 ⟨u5,rfl,ai,aj⟩;obtain⟨ya,yc,rfl⟩:=UN.form ai;have j:=Bt j aj;obtain⟨k0,k1⟩:=(m5.below j).cp;obtain⟨k2,k3⟩:=(m6.below j).cp))
       all_goals go_wp2_with fail
       have an:=UN.below am aj;refine⟨⟨xa,_,xc,D1,ya,_,yc,D2,J,J,Ja an,Ja ai,Ja ⟨Nat.le_of_lt Qg.o,Qo.o.trans A.o.2⟩,?_,Bt Qd j⟩,?_⟩
       . have s:=Yv Qf.o;rw[<-UN.len t.o]at s;omega
       . rw[UN.rowVal an,UN.rowVal ai,UN.rowVal t.o,UN.rowVal m.o];exact Qa.o
   . rcases A5 d with h0|h0
     . subst h0;have Qt:=(JC Jb).1 (As (UN.len m.o).symm);have HC:=Ja (ND g f c0 _ wr t.o);have W:=Ja (show X=Nat.gcd x y by rw[<-A.o.2,Qt,Nat.gcd_zero_right]);clear Qt;go_wp2_with(go_at_call 131;refine HC.o.mono ?_;rintro e k ⟨za,zc,rfl,hz,n⟩)
       go_ret;exact⟨_,J,by rw[<-W.o];exact hz,Bt S n⟩
     . obtain rfl:d=1:=Z
       obtain⟨ae,bd,bf⟩:=LW (UN.len m.o).symm;obtain⟨bb,bo,rfl,ap,kb⟩:=(Jn m.o).2.2.2.2 0 Z;rw[ae]at kb;have Qy:wr.cell? ⟨bb,bo,none⟩=some (C B (Y:Nat)):=kb;have Qk:=Ja (LZ g f c0 (some ⟨bb,bo,none⟩) 1 c1 X Y wr t.o m.o Z Z);have Qi:=AY X (show Y>0 by omega);have W:=Ja (show Nat.gcd Y (X%Y)=Nat.gcd x y by rw[<-A.o.2,C1 Y,<-Nat.gcd_rec,C1]);have Qv:=Ja (show ∀(V:World) (v:WO) (l c:Nat),UN V (D v l c) (X%Y)->Calls Tryz.prog 152 #[D (some ⟨V.heap.size,0,none⟩) 1 1,D v l c] (V.alloc (E #[C B (Y:Nat)] 163)) λe o=>∃u,e=.returned u/\UN o u (Nat.gcd x y)/\Below (V.alloc (E #[C B (Y:Nat)] 163)).heap.size (V.alloc (E #[C B (Y:Nat)] 163)) o from λV v l c h=>by
        have s:=(DU.made (xs:=[Y]) (BV V (E #[C B (Y:Nat)] 163))).row 0 1 1 DQ Z Z Z;have R:Row B (V.alloc (E #[C B (Y:Nat)] 163)) (D (some ⟨V.heap.size,0,none⟩) 1 1) (Jc O Y):=by rw[ae];exact s
        have M:=Sc (some ⟨V.heap.size,0,none⟩) 1 v l c Y (X%Y) _ R (UN.below h (Ba V _)) Z;rw[W.o]at M;exact M)
       clear kb ae;go_upto_region 12 with(go_at_call 151;refine Qk.o.mono ?_;rintro e k ⟨u,v,rfl,hu,H,n⟩;obtain⟨ua,uc,rfl⟩:=UN.form hu;obtain⟨va,vc,rfl⟩:=UN.form H)
       have bg:=(n.cell (p:=⟨bb,bo,none⟩) ap).trans Qy;go_wp2_with(go_at_call 152;refine(Qv.o _ _ _ _ H).mono ?_;rintro e w3 ⟨u3,rfl,ak,K⟩;obtain⟨ta,tc,rfl⟩:=UN.form ak)
       go_ret;have Ql:=Bt S n;exact⟨_,J,ak,Nn Ql K⟩

