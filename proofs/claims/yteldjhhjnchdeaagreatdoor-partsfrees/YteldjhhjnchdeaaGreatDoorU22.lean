import Derived.Test.YteldjhhjnchdeaaGreatDoorU21
import Derived.Deep.RegionHeld3
import Derived.BigRegion
open Go.IntKind renaming u64->B
open Go.Value renaming int->C,slice->D
open Go.Obj renaming cells->E
set_option maxRecDepth 100000
set_option maxHeartbeats 16000000
namespace Go.Proofs.YteldjhhjnchdeaaGreatDoor
open Go.RowKit Go.Shelf
section
attribute [local go_sem] Oper.semAt_some
theorem QK{W:World}{B:Nat}{t:TypeId}{c d u0 u1:Value}(x0 x1 a b:Value)(h:Jm W B t c d)(k:Jm W (B+1) t u0 u1):
 Jm ((((W.setCell ⟨B,0,none⟩ x0).setCell ⟨B,1,none⟩ x1).setCell ⟨B+1,0,none⟩ a).setCell ⟨B+1,1,none⟩ b).drew B t x0 x1/\Jm ((((W.setCell ⟨B,0,none⟩ x0).setCell ⟨B,1,none⟩ x1).setCell ⟨B+1,0,none⟩ a).setCell ⟨B+1,1,none⟩ b).drew (B+1) t a b:=
 ⟨((((h.set0 x0).set1 x1).far Y a).far Y b).drew,((((k.far Y x0).far Y x1).set0 a).set1 b).drew⟩
theorem ZP(Q W la A ca:Nat)(b:Option Addr)(lb cb x y d s H L:Nat)(w:World)(h1:(la:Int)-1=A)(aw:Q<w.heap.size)
(ka:w.cell? ⟨Q,W+A,none⟩=some (C B (d:Nat)))(ay:d<Z)(hs:s<=63)(HS:Hid ((64:Int)-(Lib.bitLen d:Int)=(s:Int)))(bm:la<=1099511627776)(bj:A<la)
(ai:Hid (∀V:World,Bl w V->Calls Tryz.prog 167 #[D (some ⟨Q,W,none⟩) la ca,C .i64 (la:Nat),C B (s:Nat)] V λe t=>e=.returned (C B (H:Nat))/\Bl V t))
(aj:Hid (∀V:World,Bl w V->Calls Tryz.prog 167 #[D b lb cb,C .i64 (la:Nat),C B (s:Nat)] V λe t=>e=.returned (C B (L:Nat))/\Bl V t))
(K:H<Z)(aq:L<=H)(ap:Hid (∀sg h l a nb j c,GV H L sg h l a nb j c->c<=l->nb+c<=h-l->Hk x y a nb j c)):
 Calls Tryz.prog 144 #[D (some ⟨Q,W,none⟩) la ca,D b lb cb] w λe t=>∃i g a nb:Nat,e=.returned (.tuple #[.agg #[C B (i:Nat),C B (g:Nat)],.agg #[C B (a:Nat),C B (nb:Nat)]])/\(i<Z/\g<Z/\a<Z/\nb<Z)/\(g=0\/Hk x y i g a nb)/\Bl w t:=by
 have i1:IntKind.i64.wrap ((la:Int)-1)=(A:Int):=by rw[h1];exact BW _ J
 have i3:IntKind.i64.wrap (A:Int)=(A:Int):=BW _ J;have ci:IntKind.u64.wrap (s:Int)=(s:Int):=Bs _ J;obtain⟨W0,R⟩:=ex ((w.alloc (E #[C B 0,C B 0] 169)).alloc (E #[C B 0,C B 0] 169));have Qk:Bl w W0:=by rw[<-R];exact(Ba w _).alloc Y _
 have b4:Jm W0 w.heap.size 169 (C B 0) (C B 0):=by rw[<-R];exact(Jm.new w _ _ _).alloc _
 have b5:Jm W0 (w.heap.size+1) 169 (C B 0) (C B 0):=by
  have h:=Jm.new (w.alloc (E #[C B 0,C B 0] 169)) 169 (C B 0) (C B 0);rw[A1,R]at h;exact h
 have Qv:=(Qk.cell (p:=⟨Q,W+A,none⟩) aw).trans ka;have Qn:=O R;have Qm:=O (show ∀V:World,Calls Tryz.prog 166 #[C B (d:Nat)] V λe t=>e=.returned (C .i64 (s:Nat))/\t=V from λV=>by
  have h:=Tryz.bits_LeadingZeros64 (d:Nat) V J (by unfold Z at ay;omega);rw[Cy,HS.o]at h;exact h)
 clear R ka HS;go_enter Tryz.func144,Tryz.ntmps144
 go_upto_region 1 with fail
 try rw[Qn.o]
 go_upto_region 2 with(go_at_call 166;refine(Qm.o _).mono ?_;rintro e t ⟨rfl,e1⟩;have e2:=e1.symm;subst e2;clear e1)
 have hq:Bl w W0:=Qk;go_upto_region 3 with(first
  |(go_at_call 167;refine(ai.o _ hq).mono ?_;clear ai;rintro e w1 ⟨rfl,ae⟩;have hq:=Bt hq ae)
  |(go_at_call 167;refine(aj.o _ hq).mono ?_;clear aj;rintro e n ⟨rfl,af⟩;have hq:=Bt hq af))
 go_wp2_with fail
 obtain⟨I,o⟩:=ex (((n.alloc (E #[C B 0,C B 0] 169)).alloc (E #[C B 1,C B 0] 169)).alloc (E #[C B 0,C B 1] 169));have Qp:Bl w I:=by rw[<-o];exact((hq.alloc hq.size _).alloc (by have:=hq.size;simp;omega) _).alloc (by have:=hq.size;simp;omega) _
 have F:Jm I n.heap.size 169 (C B (0:Nat)) (C B (0:Nat)):=by rw[<-o];exact((Jm.new n _ _ _).alloc _).alloc _
 have u:Jm I (n.heap.size+1) 169 (C B (1:Nat)) (C B (0:Nat)):=by
  have h:=(Jm.new (n.alloc (E #[C B 0,C B 0] 169)) 169 (C B 1) (C B 0)).alloc (E #[C B 0,C B 1] 169);rw[A1,o]at h;exact h
 have z:Jm I (n.heap.size+1+1) 169 (C B (0:Nat)) (C B (1:Nat)):=by
  have h:=Jm.new ((n.alloc (E #[C B 0,C B 0] 169)).alloc (E #[C B 1,C B 0] 169)) 169 (C B 0) (C B 1);rw[A1,A1,o]at h;exact h
 have U:Bl W0 n:=Bt ae af;have k:Jm I w.heap.size 169 (C B 0) (C B 0):=by rw[<-o];exact(((b4.below U).alloc _).alloc _).alloc _
 have m:Jm I (w.heap.size+1) 169 (C B 0) (C B 0):=by rw[<-o];exact(((b5.below U).alloc _).alloc _).alloc _
 have Qw:w.heap.size+1<n.heap.size:=by have:=(b5.below U).lt;exact this
 rw[o];obtain⟨B9,ak⟩:=ex (n.heap.size);rw[ak]at F u z Qw ⊢;clear o U b4 b5 ae af hq Qk ak Qv Qm Qn;go_loopw [7,8] (λhv lv wr=>∃h l i g a nb j c:Nat,hv=C B (h:Nat)/\lv=C B (l:Nat)/\Hid (∃sg,GV H L sg h l a nb j c)/\Hid (g=0\/Hk x y i g a nb)/\(h<Z/\i<Z/\g<Z/\a<Z/\nb<Z/\j<Z/\c<Z)/\
  Jm wr B9 169 (C B (i:Nat)) (C B (g:Nat))/\Jm wr (B9+1) 169 (C B (a:Nat)) (C B (nb:Nat))/\Jm wr (B9+1+1) 169 (C B (j:Nat)) (C B (c:Nat))/\Jm wr w.heap.size 169 (C B 0) (C B 0)/\Jm wr (w.heap.size+1) 169 (C B 0) (C B 0)/\Bl w wr)
  (λ_ lv _=>(intOf lv).toNat)
 case atStart=>exact⟨H,L,0,0,1,0,0,1,rfl,rfl,⟨1,GV.start aq⟩,Or.inl rfl,⟨K,by unfold Z;omega,by unfold Z;omega,by unfold Z;omega,by unfold Z;omega,by unfold Z;omega,by unfold Z;omega⟩,F,u,z,k,m,Qp⟩
 case round=>
  clear F u z k m Qp;obtain⟨h,l,i,g,a,nb,j,c,rfl,rfl,ah,HO,⟨z1,z2,z3,z4,z5,z6,z7⟩,F,u,z,k,m,hB⟩:=hrel;obtain⟨sg,hle⟩:=ah.o;have bn:l<=h:=hle.2.2.2.2.2.2.2;have cg:1<=c:=hle.2.2.2.2.2.2.1;obtain⟨co,ct⟩:=F.cp;obtain⟨cj,ck⟩:=u.cp;obtain⟨cl,cn⟩:=z.cp;by_cases c1:c<=l
  . obtain⟨y1,y2⟩:=hle.small J;obtain⟨e,he⟩:∃e:Nat,(h:Int)-(l:Int)=(e:Int):=⟨h-l,J⟩;obtain⟨f,hf⟩:∃f:Nat,(nb:Int)+(c:Int)=(f:Int):=⟨nb+c,J⟩;have we:IntKind.u64.wrap (e:Int)=(e:Int):=Bs _ (by unfold Z at z1;omega);have wf:IntKind.u64.wrap (f:Int)=(f:Int):=Bs _ (by unfold Z at K;omega);by_cases c2:f<=e
    . have Qi:=O (ap.o _ _ _ _ _ _ _ hle c1 J);have N:=hle.step (show 1<=l by omega);have G:=O N;obtain⟨q,hq⟩:=ex (h/l);obtain⟨r,X⟩:=ex (h%l);rw[hq,X]at N G;have ce:r<l:=by rw[<-X];exact A7 _ J
      have bu:(h:Int)/(l:Int)=(q:Int):=by rw[<-hq];exact(Fp h l).symm
      have Uc:(h:Int)%(l:Int)=(r:Int):=by rw[<-X];exact(Int.natCast_emod h l).symm
      have Ql:a+q*j<=L:=by
       have h1:=N.2.2.1;have h2:=CB (a+q*j) (show 0<l by omega);omega
      have Qo:nb+q*c<=H:=by
       have h1:=N.2.1;have h2:=CB (nb+q*c) (show 0<l by omega);omega
      obtain⟨P,hP⟩:=ex (q*j);obtain⟨M,ad⟩:=ex (q*c);rw[hP]at Ql G;rw[ad]at Qo G;obtain⟨S,am⟩:=ex (a+P);obtain⟨T,an⟩:=ex (nb+M);rw[am]at Ql G;rw[an]at Qo G;have p1:(q:Int)*(j:Int)=(P:Int):=by rw[<-hP];exact(Fb q j).symm
      have p2:(q:Int)*(c:Int)=(M:Int):=by rw[<-ad];exact(Fb q c).symm
      have p3:(a:Int)+(P:Int)=(S:Int):=J
      have p4:(nb:Int)+(M:Int)=(T:Int):=J
      have v1:IntKind.u64.wrap (P:Int)=(P:Int):=Bs _ (by unfold Z at K;omega);have v2:IntKind.u64.wrap (M:Int)=(M:Int):=Bs _ (by unfold Z at K;omega);have v3:IntKind.u64.wrap (S:Int)=(S:Int):=Bs _ (by unfold Z at K;omega);have v4:IntKind.u64.wrap (T:Int)=(T:Int):=Bs _ (by unfold Z at K;omega);have bt:q<=h:=by rw[<-hq];exact Fw _ _
      have v5:IntKind.u64.wrap (q:Int)=(q:Int):=Bs _ (by unfold Z at z1;omega);have bk:¬(l=0):=J
      obtain⟨bh,bi⟩:=F.fp;obtain⟨az,bc⟩:=u.fp;obtain⟨bf,bg⟩:=z.fp;clear N hle hP ad am an hq X y1 y2 ah HO;go_upto_region 6 with fail
      go_quiet (fail)
      go_wp2_with fail
      go_region
      go_wp2_with fail
      have g9:Jm (wr.drewN (nq+1)) B9 169 (C B (i:Nat)) (C B (g:Nat)):=F;have Ub:Jm (wr.drewN (nq+1)) (B9+1) 169 (C B (a:Nat)) (C B (nb:Nat)):=u;have Qs:Jm (wr.drewN (nq+1)) (B9+1+1) 169 (C B (j:Nat)) (C B (c:Nat)):=z;have g4:Jm (wr.drewN (nq+1)) w.heap.size 169 (C B 0) (C B 0):=k;have g5:Jm (wr.drewN (nq+1)) (w.heap.size+1) 169 (C B 0) (C B 0):=m;have gB:Bl w (wr.drewN (nq+1)):=Kx hB _;rw[Uc];refine⟨⟨l,r,a,nb,j,c,S,T,rfl,rfl,⟨_,G.o⟩,Or.inr Qi.o,⟨J,z4,z5,z6,z7,J,J⟩,?_,?_,?_,?_,?_,?_⟩,by simp[intOf];omega⟩
      . exact(((((g9.set0 _).set1 _).far Y _).far Y _).far so _).far so _
      . exact(((((Ub.far Y _).far Y _).set0 _).set1 _).far Y _).far Y _
      . exact(((((Qs.far so _).far so _).far Y _).far Y _).set0 _).set1 _
      . exact(((((g4.far so _).far so _).far so _).far so _).far so _).far so _
      . exact(((((g5.far so _).far so _).far so _).far so _).far so _).far so _
      . exact(((((gB.setCell (p:=⟨_,0,none⟩) so _).setCell (p:=⟨_,1,none⟩) so _).setCell (p:=⟨_,0,none⟩) so _).setCell (p:=⟨_,1,none⟩) so _).setCell (p:=⟨_,0,none⟩) so _).setCell (p:=⟨_,1,none⟩) so _
    . clear hle;obtain⟨Qx,Qq⟩:=k.cp;obtain⟨Qy,Qu⟩:=m.cp;obtain⟨Qr,Qt⟩:=k.fp;obtain⟨Qz,Ua⟩:=m.fp;go_wp2_with fail
      go_region
      go_wp2_with fail
      obtain⟨q4,q5⟩:=QK (C B (i:Nat)) (C B (g:Nat)) (C B (a:Nat)) (C B (nb:Nat)) k m;obtain⟨Qh,Qj⟩:=q4.cp;obtain⟨Qg,Qf⟩:=q5.cp;exact BA (v:=.tuple #[.agg #[C B (i:Nat),C B (g:Nat)],.agg #[C B (a:Nat),C B (nb:Nat)]]) (by simp[results,Tryz.results144,go_sem,Qh,Qj,Qg,Qf]) rfl ⟨i,g,a,nb,rfl,⟨z2,z3,z4,z5⟩,HO.o,((((hB.setCell (p:=⟨_,0,none⟩) so _).setCell (p:=⟨_,1,none⟩) so _).setCell (p:=⟨_,0,none⟩) so _).setCell (p:=⟨_,1,none⟩) so _).drew⟩
  . clear hle;obtain⟨Qx,Qq⟩:=k.cp;obtain⟨Qy,Qu⟩:=m.cp;obtain⟨Qr,Qt⟩:=k.fp;obtain⟨Qz,Ua⟩:=m.fp;go_wp2_with fail
    go_region
    go_wp2_with fail
    obtain⟨q4,q5⟩:=QK (C B (i:Nat)) (C B (g:Nat)) (C B (a:Nat)) (C B (nb:Nat)) k m;obtain⟨Qh,Qj⟩:=q4.cp;obtain⟨Qg,Qf⟩:=q5.cp;exact BA (v:=.tuple #[.agg #[C B (i:Nat),C B (g:Nat)],.agg #[C B (a:Nat),C B (nb:Nat)]]) (by simp[results,Tryz.results144,go_sem,Qh,Qj,Qg,Qf]) rfl ⟨i,g,a,nb,rfl,⟨z2,z3,z4,z5⟩,HO.o,((((hB.setCell (p:=⟨_,0,none⟩) so _).setCell (p:=⟨_,1,none⟩) so _).setCell (p:=⟨_,0,none⟩) so _).setCell (p:=⟨_,1,none⟩) so _).drew⟩
end
theorem ZR(a:Option Addr)(la ca:Nat)(b:Option Addr)(lb cb x y:Nat)(w:World)(K:Row B w (D a la ca) (Jc Z x))(L:Row B w (D b lb cb) (Jc Z y))(H:y<=x)(an:2<=lb):
 Calls Tryz.prog 144 #[D a la ca,D b lb cb] w λe w'=>∃o j i nb:Nat,e=.returned (.tuple #[.agg #[C B (o:Nat),C B (j:Nat)],.agg #[C B (i:Nat),C B (nb:Nat)]])/\(o<Z/\j<Z/\i<Z/\nb<Z)/\(j=0\/Hk x y o j i nb)/\Bl w w':=by
 obtain⟨af,ai,ap,n,ae⟩:=Jw K;obtain⟨ah,aj,aq,am,ak⟩:=Jw L;have N:lb<=la:=by rw[af,ah];exact Xn H
 obtain⟨k,F⟩:∃k,la=k+2:=⟨la-2,J⟩;obtain⟨t,u,rfl,ad,I⟩:=ae (k+1) J;have c:=Jq Je x;have G:(Jc Z x).length=k+2:=J
 have A:(Jc Z x)[k+1]?.getD 0≠0:=by
  intro e;have W:=Jr Z (Jc Z x) (k+1);rw[Ac J,e,Cv,Ch,Jp Je]at W;have h4:=YD c (k+1);have z:=Xk Je G J;rw[show k+2-1=k+1 from rfl]at z;omega
 have f:(Jc Z x)[k+1]?.getD 0<Z:=c.getD uo _;obtain⟨d,g⟩:=ex ((Jc Z x)[k+1]?.getD 0);rw[g]at I A f;obtain⟨P,Q,v⟩:=bitLen_spec d A (by rw[<-IK];exact f);have hL:Lib.bitLen d<=64:=by
  rcases AO 64 (Lib.bitLen d)with h|h
  . exfalso
    have z:2^64<=2^(Lib.bitLen d-1):=Aw J J;rw[IK]at f;omega
  . exact h
 obtain⟨s,hs⟩:∃s,s=64-Lib.bitLen d:=⟨_,rfl⟩;obtain⟨p,v2⟩:=QC (s:=s) c G g Q v P hL hs;rw[Jp Je]at p v2;have M:d<2^(64-s):=by rw[hs,show 64-(64-Lib.bitLen d)=Lib.bitLen d from by omega];exact v
 have m:0<Z^k*2^(64-s):=DO (Fe uo) (Cc _);have hH:GO x k s<Z:=by
  unfold GO;rw[AX m];have hp:=Ku (s:=s) J;have R:Z*(Z^k*2^(64-s))*2^s=Z^(k+2):=by
   rw[Az,Az,As (2^(64-s)),hp,AQ,AQ,As Z,Az]
  rw[<-R]at p;exact Nat.lt_of_mul_lt_mul_right p
 have q:=λ(V:World) (h:Bl w V)=>QJ (some ⟨t,u,none⟩) la ca (Jc Z x) k (k+1) la s V (Row.below K h) c F J J J (Aa _) n (λ_=>by rw[g];exact M);have r:=λ(V:World) (h:Bl w V)=>QJ b lb cb (Jc Z y) k (k+1) la s V (Row.below L h) (Jq Je y) F J J J N n (λe=>by
  have X:=Jr Z (Jc Z y) (k+1);rw[Ac J,Jp Je]at X;have h7:=Jr Z (Jc Z x) (k+1);rw[Ac J,Jp Je,g]at h7;have h8:=YD c (k+1);have h9:(Jc Z y)[k+1]?.getD 0<=d:=by
   rcases AO d ((Jc Z y)[k+1]?.getD 0)with h|h
   . exfalso
     have:=Av (Z^(k+1)) (show d+1<=(Jc Z y)[k+1]?.getD 0 from h);rw[Ax,Fz]at this;omega
   . exact h
  omega)
 rw[Jp Je]at q r;refine ZP t u la (k+1) ca b lb cb x y d s (GO x k s) (GO y k s) w J ad I f J (show _=_ by omega) n J q r hH (Nat.div_le_div_right H) ?_;intro sg h l i nb c xb hle T U;refine hle.out (S:=Z^k*2^(64-s)) (al:=x%(Z^k*2^(64-s))) (be:=y%(Z^k*2^(64-s))) ?_ ?_ (A7 _ m) (A7 _ m) T U
 . unfold GO;rw[As];exact(Cb x _).symm
 . unfold GO;rw[As];exact(Cb y _).symm
attribute [local go_sem] Oper.semAt_some
def IL(W:World)(p:Addr):Nat:=match W.cell? p with|some (.int _ z)=>z.toNat|_=>0
def rowVal(W:World):Value->Nat
 |D (some p) l _=>val Z ((List.range l).map λj=>IL W ⟨p.block,p.off+j,none⟩)
 |_=>0
theorem UN.rowVal{W:World}{a:Option Addr}{l c n:Nat}(h:UN W (D a l c) n):rowVal W (D a l c)=n:=by
 obtain⟨f,_,_,_,g⟩:=Jw h;rcases AY l with d|d
 . subst d;have m:n=0:=(JD Je).1 (Aq f.symm);subst m;cases a<;>rfl
 . obtain⟨b,off,rfl,_,_⟩:=g 0 d;show val Z ((List.range l).map λj=>IL W ⟨b,off+j,none⟩)=n;have e:(List.range l).map (λj=>IL W ⟨b,off+j,none⟩)=Jc Z n:=by
    refine List.ext_getElem (by rw[FP,List.length_range];exact f) λj p i=>?_;obtain⟨o,q,e,_,k⟩:=g j J;cases e;rw[List.getElem_map,List.getElem_range,IL,k,Ag i];rfl
   rw[e,Jp Je]
theorem ZS(a:Option Addr)(la ca:Nat)(b:Option Addr)(lb cb x y:Nat)(w:World)(ra:Row B w (D a la ca) (Jc Z x))(rb:Row B w (D b lb cb) (Jc Z y))(ap:la<1000000000000)(aq:lb<1000000000000):
 Calls Tryz.prog 122 #[D a la ca,D b lb cb] w λe o=>∃u,e=.returned u/\UN o u (Nat.gcd x y)/\Bl w o:=by
 have P:=O (Nf _ _ (Jc Z x) (Jc Z y) w ra rb (Jq Je x) (Jq Je y) (Ym Je x) (Ym Je y));rw[Jp Je,Jp Je]at P;obtain⟨cm,ad⟩:=ex (Xf x y:Int);rw[ad]at P;obtain⟨Qj,Qm,Qh⟩:=Dg ad ra rb;clear ad ra rb;go_enter Tryz.func122,Tryz.ntmps122
 go_upto_if 14 with(go_at_call 132;refine P.o.mono ?_;rintro e w1 ⟨rfl,F⟩)
 go_cut [0,1] λN K wr=>∃(g:Option Addr) (f c0 X:Nat) (i:Option Addr) (l1 c1 d:Nat),N=D g f c0/\K=D i l1 c1/\Hid (UN wr (D g f c0) X)/\Hid (UN wr (D i l1 c1) d)/\Hid (d<=X/\Nat.gcd X d=Nat.gcd x y)/\f<1000000000000/\Bl w wr
 case first=>
  by_cases Qw:cm<0
  . have Qx:x<y:=by
     have h:=Qj.o;unfold Xf at h;split at h
     . assumption
     . split at h<;>omega
    go_wp2_with fail
    go_meet
    case rel=>exact⟨_,_,_,y,_,_,_,x,rfl,rfl,O (UN.below Qh.o F),O (UN.below Qm.o F),O ⟨J,C6 _ _⟩,aq,F⟩
  . have Qx:¬(x<y):=λh=>by
     have r:=Qj.o;rw[XZ h]at r;omega
    go_wp2_with fail
    go_meet
    case rel=>exact⟨_,_,_,x,_,_,_,y,rfl,rfl,O (UN.below Qm.o F),O (UN.below Qh.o F),O ⟨J,rfl⟩,ap,F⟩
 case rest=>
  obtain⟨g,f,c0,X,i,l1,c1,d,rfl,rfl,r,R,L,h4,h5⟩:=hcut;clear P Qj Qm Qh F;go_wp2_with fail
  go_loopw [0,1] (λN K wr=>∃(g:Option Addr) (f c0 X:Nat) (i:Option Addr) (l1 c1 d:Nat),N=D g f c0/\K=D i l1 c1/\Hid (UN wr (D g f c0) X)/\Hid (UN wr (D i l1 c1) d)/\Hid (d<=X/\Nat.gcd X d=Nat.gcd x y)/\f<1000000000000/\Bl w wr)
   (λN K wr=>rowVal wr N+rowVal wr K)
  case atStart=>exact⟨g,f,c0,X,i,l1,c1,d,rfl,rfl,r,R,L,h4,h5⟩
  case round=>
   clear r R L h4 h5;obtain⟨g,f,c0,X,i,l1,c1,d,rfl,rfl,s,m,z,aw,S⟩:=hrel;have az:l1<=f:=by rw[UN.len s.o,UN.len m.o];exact Xn z.o.1
   by_cases ay:1<l1
   . have Qw:(1:Int)<(l1:Int):=J
     have Qe:d≠0:=λe=>by
      have h:=UN.len m.o;rw[e,Jz]at h;simp at h;omega
     have Qu:=O (ZR g f c0 i l1 c1 X d _ s.o m.o z.o.1 J);go_upto_region 5 with(go_at_call 144;refine Qu.o.mono ?_;rintro e j ⟨t,q,H,nb,rfl,⟨b1,b2,b3,b4⟩,af,n⟩)
     obtain⟨k,M⟩:=ex ((j.alloc (E #[C B (t:Nat),C B (q:Nat)] 169)).alloc (E #[C B (H:Nat),C B (nb:Nat)] 169));have Ql:Bl w j:=Bt S n;have I:Bl wr k:=by rw[<-M];exact(n.alloc n.size _).alloc (by have:=n.size;simp;omega) _
     have Qd:Bl w k:=Bt S I;have m5:Jm k j.heap.size 169 (C B (t:Nat)) (C B (q:Nat)):=by rw[<-M];exact(Jm.new j _ _ _).alloc _
     have m6:Jm k (j.heap.size+1) 169 (C B (H:Nat)) (C B (nb:Nat)):=by
      have h:=Jm.new (j.alloc (E #[C B (t:Nat),C B (q:Nat)] 169)) 169 (C B (H:Nat)) (C B (nb:Nat));rw[A1,M]at h;exact h
     have Qn:=UN.below s.o I;have Q:=UN.below m.o I;rw[M];clear M Qu n Ql;obtain⟨k0,k1⟩:=m5.cp;obtain⟨k2,k3⟩:=m6.cp;by_cases U:q=0
     . subst U;have Qk:=O (Ny g f c0 i l1 c1 X d k Qn Q Qe J);clear af;go_wp2_with(go_at_call 146;refine Qk.o.mono ?_;rintro e w4 ⟨u,v,rfl,hu,G,T⟩;obtain⟨ua,uc,rfl⟩:=UN.form hu;obtain⟨va,vc,rfl⟩:=UN.form G)
       have Qi:=A7 X (show d>0 by omega);have Qq:=UN.below Q T;refine⟨⟨i,l1,c1,d,va,_,vc,X%d,rfl,rfl,O Qq,O G,O ⟨J,by rw[<-z.o.2,C6 d,<-Nat.gcd_rec,C6]⟩,J,Bt Qd T⟩,?_⟩;rw[UN.rowVal Qq,UN.rowVal G,UN.rowVal s.o,UN.rowVal m.o];have:=z.o.1;omega
     . have A:=af.resolve_left U;have Qs:nb*d≠0:=by
        have:=A.2.2.2;exact FQ J Qe
       obtain⟨Qr,Qp,Qa,Qo,Qg⟩:=GY (λ(V:World) (h:Bl k V)=>QI t q g f c0 i l1 c1 X d V (UN.below Qn h) (UN.below Q h) b1 b2 J J (FQ U Qe)) (λ(V:World) (h:Bl k V)=>QI H nb g f c0 i l1 c1 X d V (UN.below Qn h) (UN.below Q h) b3 b4 J J Qs) (A.less U J) A.gcd A.2.2.1;have Qf:=O (show Xl (t*X) (q*d)<=X by
        have e1:=A.1;have e2:=CQ (Xl (t*X) (q*d)) A.2.2.2;omega)
       clear A af Qs;generalize Xl (t*X) (q*d)=D1 at *;generalize Xl (H*X) (nb*d)=D2 at *;have hq:Bl k k.drew:=(BB _ k).drew;go_upto_region 6 with fail
       go_region_held3 (λo=>o.cell? ⟨j.heap.size,0,none⟩=some (C B (t:Nat))/\o.cell? ⟨j.heap.size,1,none⟩=some (C B (q:Nat))/\o.cell? ⟨j.heap.size+1,0,none⟩=some (C B (H:Nat))/\o.cell? ⟨j.heap.size+1,1,none⟩=some (C B (nb:Nat))) (exact⟨k0,k1,k2,k3⟩)
        (first
         |(go_at_call 145;refine(Qr.o _ hq).mono ?_;clear Qr;rintro e w4 ⟨u4,rfl,ak,T⟩;obtain⟨xa,xc,rfl⟩:=UN.form ak;have hq:=Bt hq T;obtain⟨k0,k1⟩:=(m5.below hq).cp;obtain⟨k2,k3⟩:=(m6.below hq).cp)
         |(go_at_call 145;refine(Qp.o _ hq).mono ?_;clear Qp;rintro e w5 ⟨u5,rfl,ah,ai⟩;obtain⟨ya,yc,rfl⟩:=UN.form ah;have hq:=Bt hq ai;obtain⟨k0,k1⟩:=(m5.below hq).cp;obtain⟨k2,k3⟩:=(m6.below hq).cp))
       all_goals go_wp2_with fail
       have am:=UN.below ak ai;refine⟨⟨xa,_,xc,D1,ya,_,yc,D2,rfl,rfl,O am,O ah,O ⟨FU Qg.o,Qo.o.trans z.o.2⟩,?_,Bt Qd hq⟩,?_⟩
       . have r:=Xn Qf.o;rw[<-UN.len s.o]at r;omega
       . rw[UN.rowVal am,UN.rowVal ah,UN.rowVal s.o,UN.rowVal m.o];exact Qa.o
   . rcases AY l1 with h0|h0
     . subst h0;have Qt:d=0:=(JD Je).1 (Aq (UN.len m.o).symm);have HC:=O (Pi g f c0 _ wr s.o);have W:=O (show X=Nat.gcd x y by rw[<-z.o.2,Qt,Nat.gcd_zero_right]);clear Qt;go_wp2_with(go_at_call 147;refine HC.o.mono ?_;rintro e j ⟨za,zc,rfl,hz,n⟩)
       go_ret;exact⟨_,rfl,by rw[<-W.o];exact hz,Bt S n⟩
     . obtain rfl:l1=1:=J
       obtain⟨ae,bc,bf⟩:=Nv (UN.len m.o).symm;obtain⟨bb,bo,rfl,an,kb⟩:=(Jw m.o).2.2.2.2 0 J;rw[ae]at kb;have Qy:wr.cell? ⟨bb,bo,none⟩=some (C B (d:Nat)):=kb;have Qk:=O (Ny g f c0 (some ⟨bb,bo,none⟩) 1 c1 X d wr s.o m.o J J);have Qi:=A7 X (show d>0 by omega);have W:=O (show Nat.gcd d (X%d)=Nat.gcd x y by rw[<-z.o.2,C6 d,<-Nat.gcd_rec,C6]);have Qv:=O (show ∀(V:World) (v:Option Addr) (l c:Nat),UN V (D v l c) (X%d)->Calls Tryz.prog 148 #[D (some ⟨V.heap.size,0,none⟩) 1 1,D v l c] (V.alloc (E #[C B (d:Nat)] 156)) λe o=>∃u,e=.returned u/\UN o u (Nat.gcd x y)/\Below (V.alloc (E #[C B (d:Nat)] 156)).heap.size (V.alloc (E #[C B (d:Nat)] 156)) o from λV v l c h=>by
        have r:=(DU.made (xs:=[d]) (BD V (E #[C B (d:Nat)] 156))).row 0 1 1 Y J J J;have R:Row B (V.alloc (E #[C B (d:Nat)] 156)) (D (some ⟨V.heap.size,0,none⟩) 1 1) (Jc Z d):=by rw[ae];exact r
        have L:=ZK (some ⟨V.heap.size,0,none⟩) 1 v l c d (X%d) _ R (UN.below h (Ba V _)) J;rw[W.o]at L;exact L)
       clear kb ae;go_upto_region 12 with(go_at_call 146;refine Qk.o.mono ?_;rintro e j ⟨u,v,rfl,hu,G,n⟩;obtain⟨ua,uc,rfl⟩:=UN.form hu;obtain⟨va,vc,rfl⟩:=UN.form G)
       have bg:=(n.cell (p:=⟨bb,bo,none⟩) an).trans Qy;go_wp2_with(go_at_call 148;refine(Qv.o _ _ _ _ G).mono ?_;rintro e w3 ⟨u3,rfl,aj,I⟩;obtain⟨ta,tc,rfl⟩:=UN.form aj)
       go_ret;have Ql:Bl w j:=Bt S n;exact⟨_,rfl,aj,QG Ql I⟩

