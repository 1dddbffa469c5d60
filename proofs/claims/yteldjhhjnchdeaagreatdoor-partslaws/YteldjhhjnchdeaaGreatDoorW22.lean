import Derived.Test.YteldjhhjnchdeaaGreatDoorW21
import Derived.Deep.RegionHeld3
import Derived.BigRegion
open Go.IntKind renaming u64->B
open Go.Value renaming int->C,slice->D
open Go.Obj renaming cells->E
set_option maxRecDepth 100000
set_option maxHeartbeats 16000000
namespace Go.Proofs.YteldjhhjnchdeaaGreatDoor
open Go.RowKit Go.Shelf
section
attribute [local go_sem] Oper.semAt_some
theorem O9{W:World}{B:Nat}{t:TypeId}{c d u0 u1:Value}(x0 x1 a b:Value)(h:Jq W B t c d)(k:Jq W (B+1) t u0 u1):
 Jq ((((W.setCell ⟨B,0,none⟩ x0).setCell ⟨B,1,none⟩ x1).setCell ⟨B+1,0,none⟩ a).setCell ⟨B+1,1,none⟩ b).drew B t x0 x1/\Jq ((((W.setCell ⟨B,0,none⟩ x0).setCell ⟨B,1,none⟩ x1).setCell ⟨B+1,0,none⟩ a).setCell ⟨B+1,1,none⟩ b).drew (B+1) t a b:=
 ⟨((((h.set0 x0).set1 x1).far O a).far O b).drew,((((k.far O x0).far O x1).set0 a).set1 b).drew⟩
theorem VB(Q W la A ca:Nat)(b:Option Addr)(lb cb x y d s H L:Nat)(w:World)(h1:(la:Int)-1=A)(aw:Q<w.heap.size)
(ka:w.cell? ⟨Q,W+A,none⟩=some (C B (d:Nat)))(ay:d<J)(hs:s<=63)(HS:Hid ((64:Int)-(Lib.bitLen d:Int)=(s:Int)))(bm:la<=1099511627776)(bi:A<la)
(ai:Hid (∀V:World,Bl w V->Calls Tryz.prog 167 #[D (some ⟨Q,W,none⟩) la ca,C .i64 (la:Nat),C B (s:Nat)] V λe t=>e=.returned (C B (H:Nat))/\Bl V t))
(ak:Hid (∀V:World,Bl w V->Calls Tryz.prog 167 #[D b lb cb,C .i64 (la:Nat),C B (s:Nat)] V λe t=>e=.returned (C B (L:Nat))/\Bl V t))
(K:H<J)(av:L<=H)(aq:Hid (∀sg h l a nb j c,E0 H L sg h l a nb j c->c<=l->nb+c<=h-l->GL x y a nb j c)):
 Calls Tryz.prog 144 #[D (some ⟨Q,W,none⟩) la ca,D b lb cb] w λe t=>∃i g a nb:Nat,e=.returned (.tuple #[.agg #[C B (i:Nat),C B (g:Nat)],.agg #[C B (a:Nat),C B (nb:Nat)]])/\(i<J/\g<J/\a<J/\nb<J)/\(g=0\/GL x y i g a nb)/\Bl w t:=by
 have i1:IntKind.i64.wrap ((la:Int)-1)=(A:Int):=by rw[h1];exact Bb _ Y
 have i3:IntKind.i64.wrap (A:Int)=(A:Int):=Bb _ Y;have ci:IntKind.u64.wrap (s:Int)=(s:Int):=Bj _ Y;obtain⟨W0,R⟩:=ex ((w.alloc (E #[C B 0,C B 0] 169)).alloc (E #[C B 0,C B 0] 169));have Qk:Bl w W0:=by rw[<-R];exact(Ba w _).alloc O _
 have b4:Jq W0 w.heap.size 169 (C B 0) (C B 0):=by rw[<-R];exact(Jq.new w _ _ _).alloc _
 have b5:Jq W0 (w.heap.size+1) 169 (C B 0) (C B 0):=by
  have h:=Jq.new (w.alloc (E #[C B 0,C B 0] 169)) 169 (C B 0) (C B 0);rw[BA,R]at h;exact h
 have Qv:=(Qk.cell (p:=⟨Q,W+A,none⟩) aw).trans ka;have Qn:=Z R;have Qm:=Z (show ∀V:World,Calls Tryz.prog 166 #[C B (d:Nat)] V λe t=>e=.returned (C .i64 (s:Nat))/\t=V from λV=>by
  have h:=Tryz.bits_LeadingZeros64 (d:Nat) V Y (by unfold J at ay;omega);rw[CQ,HS.o]at h;exact h)
 clear R ka HS;go_enter Tryz.func144,Tryz.ntmps144
 go_upto_region 1 with fail
 try rw[Qn.o]
 go_upto_region 2 with(go_at_call 166;refine(Qm.o _).mono ?_;rintro e t ⟨rfl,e1⟩;have e2:=e1.symm;subst e2;clear e1)
 have hq:Bl w W0:=Qk;go_upto_region 3 with(first
  |(go_at_call 167;refine(ai.o _ hq).mono ?_;clear ai;rintro e w1 ⟨rfl,ae⟩;have hq:=Bt hq ae)
  |(go_at_call 167;refine(ak.o _ hq).mono ?_;clear ak;rintro e n ⟨rfl,af⟩;have hq:=Bt hq af))
 go_wp2_with fail
 obtain⟨I,o⟩:=ex (((n.alloc (E #[C B 0,C B 0] 169)).alloc (E #[C B 1,C B 0] 169)).alloc (E #[C B 0,C B 1] 169));have Qp:Bl w I:=by rw[<-o];exact((hq.alloc hq.size _).alloc (by have:=hq.size;simp;omega) _).alloc (by have:=hq.size;simp;omega) _
 have F:Jq I n.heap.size 169 (C B (0:Nat)) (C B (0:Nat)):=by rw[<-o];exact((Jq.new n _ _ _).alloc _).alloc _
 have u:Jq I (n.heap.size+1) 169 (C B (1:Nat)) (C B (0:Nat)):=by
  have h:=(Jq.new (n.alloc (E #[C B 0,C B 0] 169)) 169 (C B 1) (C B 0)).alloc (E #[C B 0,C B 1] 169);rw[BA,o]at h;exact h
 have z:Jq I (n.heap.size+1+1) 169 (C B (0:Nat)) (C B (1:Nat)):=by
  have h:=Jq.new ((n.alloc (E #[C B 0,C B 0] 169)).alloc (E #[C B 1,C B 0] 169)) 169 (C B 0) (C B 1);rw[BA,BA,o]at h;exact h
 have U:Bl W0 n:=Bt ae af;have k:Jq I w.heap.size 169 (C B 0) (C B 0):=by rw[<-o];exact(((b4.below U).alloc _).alloc _).alloc _
 have m:Jq I (w.heap.size+1) 169 (C B 0) (C B 0):=by rw[<-o];exact(((b5.below U).alloc _).alloc _).alloc _
 have Qw:w.heap.size+1<n.heap.size:=by have:=(b5.below U).lt;exact this
 rw[o];obtain⟨B9,am⟩:=ex (n.heap.size);rw[am]at F u z Qw ⊢;clear o U b4 b5 ae af hq Qk am Qv Qm Qn;go_loopw [7,8] (λhv lv wr=>∃h l i g a nb j c:Nat,hv=C B (h:Nat)/\lv=C B (l:Nat)/\Hid (∃sg,E0 H L sg h l a nb j c)/\Hid (g=0\/GL x y i g a nb)/\(h<J/\i<J/\g<J/\a<J/\nb<J/\j<J/\c<J)/\
  Jq wr B9 169 (C B (i:Nat)) (C B (g:Nat))/\Jq wr (B9+1) 169 (C B (a:Nat)) (C B (nb:Nat))/\Jq wr (B9+1+1) 169 (C B (j:Nat)) (C B (c:Nat))/\Jq wr w.heap.size 169 (C B 0) (C B 0)/\Jq wr (w.heap.size+1) 169 (C B 0) (C B 0)/\Bl w wr)
  (λ_ lv _=>(intOf lv).toNat)
 case atStart=>exact⟨H,L,0,0,1,0,0,1,rfl,rfl,⟨1,E0.start av⟩,Or.inl rfl,⟨K,by unfold J;omega,by unfold J;omega,by unfold J;omega,by unfold J;omega,by unfold J;omega,by unfold J;omega⟩,F,u,z,k,m,Qp⟩
 case round=>
  clear F u z k m Qp;obtain⟨h,l,i,g,a,nb,j,c,rfl,rfl,ah,HO,⟨z1,z2,z3,z4,z5,z6,z7⟩,F,u,z,k,m,hB⟩:=hrel;obtain⟨sg,hle⟩:=ah.o;have bn:l<=h:=hle.2.2.2.2.2.2.2;have ce:1<=c:=hle.2.2.2.2.2.2.1;obtain⟨ct,da⟩:=F.cp;obtain⟨ck,cl⟩:=u.cp;obtain⟨cn,co⟩:=z.cp;by_cases c1:c<=l
  . obtain⟨y1,y2⟩:=hle.small Y;obtain⟨e,he⟩:∃e:Nat,(h:Int)-(l:Int)=(e:Int):=⟨h-l,Y⟩;obtain⟨f,hf⟩:∃f:Nat,(nb:Int)+(c:Int)=(f:Int):=⟨nb+c,Y⟩;have we:IntKind.u64.wrap (e:Int)=(e:Int):=Bj _ (by unfold J at z1;omega);have wf:IntKind.u64.wrap (f:Int)=(f:Int):=Bj _ (by unfold J at K;omega);by_cases c2:f<=e
    . have Qi:=Z (aq.o _ _ _ _ _ _ _ hle c1 Y);have N:=hle.step (show 1<=l by omega);have G:=Z N;obtain⟨q,hq⟩:=ex (h/l);obtain⟨r,X⟩:=ex (h%l);rw[hq,X]at N G;have bz:r<l:=by rw[<-X];exact Ck _ Y
      have bu:(h:Int)/(l:Int)=(q:Int):=by rw[<-hq];exact(Ff h l).symm
      have Uc:(h:Int)%(l:Int)=(r:Int):=by rw[<-X];exact(Int.natCast_emod h l).symm
      have Ql:a+q*j<=L:=by
       have h1:=N.2.2.1;have h2:=Cc (a+q*j) (show 0<l by omega);omega
      have Qo:nb+q*c<=H:=by
       have h1:=N.2.1;have h2:=Cc (nb+q*c) (show 0<l by omega);omega
      obtain⟨P,hP⟩:=ex (q*j);obtain⟨M,ad⟩:=ex (q*c);rw[hP]at Ql G;rw[ad]at Qo G;obtain⟨S,an⟩:=ex (a+P);obtain⟨T,ap⟩:=ex (nb+M);rw[an]at Ql G;rw[ap]at Qo G;have p1:(q:Int)*(j:Int)=(P:Int):=by rw[<-hP];exact(Int.natCast_mul q j).symm
      have p2:(q:Int)*(c:Int)=(M:Int):=by rw[<-ad];exact(Int.natCast_mul q c).symm
      have p3:(a:Int)+(P:Int)=(S:Int):=Y
      have p4:(nb:Int)+(M:Int)=(T:Int):=Y
      have v1:IntKind.u64.wrap (P:Int)=(P:Int):=Bj _ (by unfold J at K;omega);have v2:IntKind.u64.wrap (M:Int)=(M:Int):=Bj _ (by unfold J at K;omega);have v3:IntKind.u64.wrap (S:Int)=(S:Int):=Bj _ (by unfold J at K;omega);have v4:IntKind.u64.wrap (T:Int)=(T:Int):=Bj _ (by unfold J at K;omega);have bt:q<=h:=by rw[<-hq];exact Fx _ _
      have v5:IntKind.u64.wrap (q:Int)=(q:Int):=Bj _ (by unfold J at z1;omega);have bj:¬(l=0):=Y
      obtain⟨bg,bh⟩:=F.fp;obtain⟨az,ba⟩:=u.fp;obtain⟨bc,bf⟩:=z.fp;clear N hle hP ad an ap hq X y1 y2 ah HO;go_upto_region 6 with fail
      go_quiet (fail)
      go_wp2_with fail
      go_region
      go_wp2_with fail
      have g9:Jq (wr.drewN (nq+1)) B9 169 (C B (i:Nat)) (C B (g:Nat)):=F;have Ub:Jq (wr.drewN (nq+1)) (B9+1) 169 (C B (a:Nat)) (C B (nb:Nat)):=u;have Qs:Jq (wr.drewN (nq+1)) (B9+1+1) 169 (C B (j:Nat)) (C B (c:Nat)):=z;have g4:Jq (wr.drewN (nq+1)) w.heap.size 169 (C B 0) (C B 0):=k;have g5:Jq (wr.drewN (nq+1)) (w.heap.size+1) 169 (C B 0) (C B 0):=m;have gB:Bl w (wr.drewN (nq+1)):=Iv hB _;rw[Uc];refine⟨⟨l,r,a,nb,j,c,S,T,rfl,rfl,⟨_,G.o⟩,Or.inr Qi.o,⟨Y,z4,z5,z6,z7,Y,Y⟩,?_,?_,?_,?_,?_,?_⟩,by simp[intOf];omega⟩
      . exact(((((g9.set0 _).set1 _).far O _).far O _).far so _).far so _
      . exact(((((Ub.far O _).far O _).set0 _).set1 _).far O _).far O _
      . exact(((((Qs.far so _).far so _).far O _).far O _).set0 _).set1 _
      . exact(((((g4.far so _).far so _).far so _).far so _).far so _).far so _
      . exact(((((g5.far so _).far so _).far so _).far so _).far so _).far so _
      . exact(((((gB.setCell (p:=⟨_,0,none⟩) so _).setCell (p:=⟨_,1,none⟩) so _).setCell (p:=⟨_,0,none⟩) so _).setCell (p:=⟨_,1,none⟩) so _).setCell (p:=⟨_,0,none⟩) so _).setCell (p:=⟨_,1,none⟩) so _
    . clear hle;obtain⟨Qx,Qq⟩:=k.cp;obtain⟨Qy,Qu⟩:=m.cp;obtain⟨Qr,Qt⟩:=k.fp;obtain⟨Qz,Ua⟩:=m.fp;go_wp2_with fail
      go_region
      go_wp2_with fail
      obtain⟨q4,q5⟩:=O9 (C B (i:Nat)) (C B (g:Nat)) (C B (a:Nat)) (C B (nb:Nat)) k m;obtain⟨Qh,Qj⟩:=q4.cp;obtain⟨Qg,Qf⟩:=q5.cp;exact BB (v:=.tuple #[.agg #[C B (i:Nat),C B (g:Nat)],.agg #[C B (a:Nat),C B (nb:Nat)]]) (by simp[results,Tryz.results144,go_sem,Qh,Qj,Qg,Qf]) rfl ⟨i,g,a,nb,rfl,⟨z2,z3,z4,z5⟩,HO.o,((((hB.setCell (p:=⟨_,0,none⟩) so _).setCell (p:=⟨_,1,none⟩) so _).setCell (p:=⟨_,0,none⟩) so _).setCell (p:=⟨_,1,none⟩) so _).drew⟩
  . clear hle;obtain⟨Qx,Qq⟩:=k.cp;obtain⟨Qy,Qu⟩:=m.cp;obtain⟨Qr,Qt⟩:=k.fp;obtain⟨Qz,Ua⟩:=m.fp;go_wp2_with fail
    go_region
    go_wp2_with fail
    obtain⟨q4,q5⟩:=O9 (C B (i:Nat)) (C B (g:Nat)) (C B (a:Nat)) (C B (nb:Nat)) k m;obtain⟨Qh,Qj⟩:=q4.cp;obtain⟨Qg,Qf⟩:=q5.cp;exact BB (v:=.tuple #[.agg #[C B (i:Nat),C B (g:Nat)],.agg #[C B (a:Nat),C B (nb:Nat)]]) (by simp[results,Tryz.results144,go_sem,Qh,Qj,Qg,Qf]) rfl ⟨i,g,a,nb,rfl,⟨z2,z3,z4,z5⟩,HO.o,((((hB.setCell (p:=⟨_,0,none⟩) so _).setCell (p:=⟨_,1,none⟩) so _).setCell (p:=⟨_,0,none⟩) so _).setCell (p:=⟨_,1,none⟩) so _).drew⟩
end
theorem VC(a:Option Addr)(la ca:Nat)(b:Option Addr)(lb cb x y:Nat)(w:World)(K:Row B w (D a la ca) (Jg J x))(L:Row B w (D b lb cb) (Jg J y))(H:y<=x)(ap:2<=lb):
 Calls Tryz.prog 144 #[D a la ca,D b lb cb] w λe w'=>∃o j i nb:Nat,e=.returned (.tuple #[.agg #[C B (o:Nat),C B (j:Nat)],.agg #[C B (i:Nat),C B (nb:Nat)]])/\(o<J/\j<J/\i<J/\nb<J)/\(j=0\/GL x y o j i nb)/\Bl w w':=by
 obtain⟨af,ai,aq,n,ae⟩:=JA K;obtain⟨ah,ak,av,an,am⟩:=JA L;have N:lb<=la:=by rw[af,ah];exact Y0 H
 obtain⟨k,F⟩:∃k,la=k+2:=⟨la-2,Y⟩;obtain⟨t,u,rfl,ad,I⟩:=ae (k+1) Y;have c:=Ju Jf x;have G:(Jg J x).length=k+2:=Y
 have A:(Jg J x)[k+1]?.getD 0≠0:=by
  intro e;have W:=Jv J (Jg J x) (k+1);rw[Ag Y,e,CL,Cn,Js Jf]at W;have h4:=Ys c (k+1);have z:=Lg Jf G Y;rw[show k+2-1=k+1 from rfl]at z;omega
 have f:(Jg J x)[k+1]?.getD 0<J:=c.getD uo _;obtain⟨d,g⟩:=ex ((Jg J x)[k+1]?.getD 0);rw[g]at I A f;obtain⟨P,Q,v⟩:=bitLen_spec d A (by rw[<-Gj];exact f);have hL:Lib.bitLen d<=64:=by
  rcases AZ 64 (Lib.bitLen d)with h|h
  . exfalso
    have z:2^64<=2^(Lib.bitLen d-1):=Ay Y Y;rw[Gj]at f;omega
  . exact h
 obtain⟨s,hs⟩:∃s,s=64-Lib.bitLen d:=⟨_,rfl⟩;obtain⟨p,v2⟩:=O1 (s:=s) c G g Q v P hL hs;rw[Js Jf]at p v2;have M:d<2^(64-s):=by rw[hs,show 64-(64-Lib.bitLen d)=Lib.bitLen d from by omega];exact v
 have m:0<J^k*2^(64-s):=FL (Cx uo) (A8 _);have hH:Ev x k s<J:=by
  unfold Ev;rw[A0 m];have hp:=Is (s:=s) Y;have R:J*(J^k*2^(64-s))*2^s=J^(k+2):=by
   rw[AH,AH,Av (2^(64-s)),hp,AY,AY,Av J,AH]
  rw[<-R]at p;exact Nat.lt_of_mul_lt_mul_right p
 have q:=λ(V:World) (h:Bl w V)=>O8 (some ⟨t,u,none⟩) la ca (Jg J x) k (k+1) la s V (Row.below K h) c F Y Y Y (Aa _) n (λ_=>by rw[g];exact M);have r:=λ(V:World) (h:Bl w V)=>O8 b lb cb (Jg J y) k (k+1) la s V (Row.below L h) (Ju Jf y) F Y Y Y N n (λe=>by
  have X:=Jv J (Jg J y) (k+1);rw[Ag Y,Js Jf]at X;have h7:=Jv J (Jg J x) (k+1);rw[Ag Y,Js Jf,g]at h7;have h8:=Ys c (k+1);have h9:(Jg J y)[k+1]?.getD 0<=d:=by
   rcases AZ d ((Jg J y)[k+1]?.getD 0)with h|h
   . exfalso
     have:=As (J^(k+1)) (show d+1<=(Jg J y)[k+1]?.getD 0 from h);rw[AO,Fs]at this;omega
   . exact h
  omega)
 rw[Js Jf]at q r;refine VB t u la (k+1) ca b lb cb x y d s (Ev x k s) (Ev y k s) w Y ad I f Y (show _=_ by omega) n Y q r hH (Nat.div_le_div_right H) ?_;intro sg h l i nb c xb hle T U;refine hle.out (S:=J^k*2^(64-s)) (al:=x%(J^k*2^(64-s))) (be:=y%(J^k*2^(64-s))) ?_ ?_ (Ck _ m) (Ck _ m) T U
 . unfold Ev;rw[Av];exact(Cf x _).symm
 . unfold Ev;rw[Av];exact(Cf y _).symm
attribute [local go_sem] Oper.semAt_some
def Kj(W:World)(p:Addr):Nat:=match W.cell? p with|some (.int _ z)=>z.toNat|_=>0
def rowVal(W:World):Value->Nat
 |D (some p) l _=>val J ((List.range l).map λj=>Kj W ⟨p.block,p.off+j,none⟩)
 |_=>0
theorem UN.rowVal{W:World}{a:Option Addr}{l c n:Nat}(h:UN W (D a l c) n):rowVal W (D a l c)=n:=by
 obtain⟨f,_,_,_,g⟩:=JA h;rcases Ca l with d|d
 . subst d;have m:n=0:=(JL Jf).1 (Az f.symm);subst m;cases a<;>rfl
 . obtain⟨b,off,rfl,_,_⟩:=g 0 d;show val J ((List.range l).map λj=>Kj W ⟨b,off+j,none⟩)=n;have e:(List.range l).map (λj=>Kj W ⟨b,off+j,none⟩)=Jg J n:=by
    refine List.ext_getElem (by rw[List.length_map,List.length_range];exact f) λj p i=>?_;obtain⟨o,q,e,_,k⟩:=g j Y;cases e;rw[List.getElem_map,List.getElem_range,Kj,k,An i];rfl
   rw[e,Js Jf]
theorem VD(a:Option Addr)(la ca:Nat)(b:Option Addr)(lb cb x y:Nat)(w:World)(ra:Row B w (D a la ca) (Jg J x))(rb:Row B w (D b lb cb) (Jg J y))(aq:la<1000000000000)(av:lb<1000000000000):
 Calls Tryz.prog 122 #[D a la ca,D b lb cb] w λe o=>∃u,e=.returned u/\UN o u (Nat.gcd x y)/\Bl w o:=by
 have P:=Z (MB _ _ (Jg J x) (Jg J y) w ra rb (Ju Jf x) (Ju Jf y) (Xj Jf x) (Xj Jf y));rw[Js Jf,Js Jf]at P;obtain⟨cm,ad⟩:=ex (Xr x y:Int);rw[ad]at P;obtain⟨Qj,Qm,Qh⟩:=Dh ad ra rb;clear ad ra rb;go_enter Tryz.func122,Tryz.ntmps122
 go_upto_if 14 with(go_at_call 132;refine P.o.mono ?_;rintro e w1 ⟨rfl,F⟩)
 go_cut [0,1] λN K wr=>∃(g:Option Addr) (f c0 X:Nat) (i:Option Addr) (l1 c1 d:Nat),N=D g f c0/\K=D i l1 c1/\Hid (UN wr (D g f c0) X)/\Hid (UN wr (D i l1 c1) d)/\Hid (d<=X/\Nat.gcd X d=Nat.gcd x y)/\f<1000000000000/\Bl w wr
 case first=>
  by_cases Qw:cm<0
  . have Qx:x<y:=by
     have h:=Qj.o;unfold Xr at h;split at h
     . assumption
     . split at h<;>omega
    go_wp2_with fail
    go_meet
    case rel=>exact⟨_,_,_,y,_,_,_,x,rfl,rfl,Z (UN.below Qh.o F),Z (UN.below Qm.o F),Z ⟨Y,CZ _ _⟩,av,F⟩
  . have Qx:¬(x<y):=λh=>by
     have r:=Qj.o;rw[Gz h]at r;omega
    go_wp2_with fail
    go_meet
    case rel=>exact⟨_,_,_,x,_,_,_,y,rfl,rfl,Z (UN.below Qm.o F),Z (UN.below Qh.o F),Z ⟨Y,rfl⟩,aq,F⟩
 case rest=>
  obtain⟨g,f,c0,X,i,l1,c1,d,rfl,rfl,r,R,L,h4,h5⟩:=hcut;clear P Qj Qm Qh F;go_wp2_with fail
  go_loopw [0,1] (λN K wr=>∃(g:Option Addr) (f c0 X:Nat) (i:Option Addr) (l1 c1 d:Nat),N=D g f c0/\K=D i l1 c1/\Hid (UN wr (D g f c0) X)/\Hid (UN wr (D i l1 c1) d)/\Hid (d<=X/\Nat.gcd X d=Nat.gcd x y)/\f<1000000000000/\Bl w wr)
   (λN K wr=>rowVal wr N+rowVal wr K)
  case atStart=>exact⟨g,f,c0,X,i,l1,c1,d,rfl,rfl,r,R,L,h4,h5⟩
  case round=>
   clear r R L h4 h5;obtain⟨g,f,c0,X,i,l1,c1,d,rfl,rfl,s,m,z,aw,S⟩:=hrel;have az:l1<=f:=by rw[UN.len s.o,UN.len m.o];exact Y0 z.o.1
   by_cases ay:1<l1
   . have Qw:(1:Int)<(l1:Int):=Y
     have Qe:d≠0:=λe=>by
      have h:=UN.len m.o;rw[e,JF]at h;simp at h;omega
     have Qu:=Z (VC g f c0 i l1 c1 X d _ s.o m.o z.o.1 Y);go_upto_region 5 with(go_at_call 144;refine Qu.o.mono ?_;rintro e j ⟨t,q,H,nb,rfl,⟨b1,b2,b3,b4⟩,af,n⟩)
     obtain⟨k,M⟩:=ex ((j.alloc (E #[C B (t:Nat),C B (q:Nat)] 169)).alloc (E #[C B (H:Nat),C B (nb:Nat)] 169));have Ql:Bl w j:=Bt S n;have I:Bl wr k:=by rw[<-M];exact(n.alloc n.size _).alloc (by have:=n.size;simp;omega) _
     have Qd:Bl w k:=Bt S I;have m5:Jq k j.heap.size 169 (C B (t:Nat)) (C B (q:Nat)):=by rw[<-M];exact(Jq.new j _ _ _).alloc _
     have m6:Jq k (j.heap.size+1) 169 (C B (H:Nat)) (C B (nb:Nat)):=by
      have h:=Jq.new (j.alloc (E #[C B (t:Nat),C B (q:Nat)] 169)) 169 (C B (H:Nat)) (C B (nb:Nat));rw[BA,M]at h;exact h
     have Qn:=UN.below s.o I;have Q:=UN.below m.o I;rw[M];clear M Qu n Ql;obtain⟨k0,k1⟩:=m5.cp;obtain⟨k2,k3⟩:=m6.cp;by_cases U:q=0
     . subst U;have Qk:=Z (MV g f c0 i l1 c1 X d k Qn Q Qe Y);clear af;go_wp2_with(go_at_call 146;refine Qk.o.mono ?_;rintro e w4 ⟨u,v,rfl,hu,G,T⟩;obtain⟨ua,uc,rfl⟩:=UN.form hu;obtain⟨va,vc,rfl⟩:=UN.form G)
       have Qi:=Ck X (show d>0 by omega);have Qq:=UN.below Q T;refine⟨⟨i,l1,c1,d,va,_,vc,X%d,rfl,rfl,Z Qq,Z G,Z ⟨Y,by rw[<-z.o.2,CZ d,<-Nat.gcd_rec,CZ]⟩,Y,Bt Qd T⟩,?_⟩;rw[UN.rowVal Qq,UN.rowVal G,UN.rowVal s.o,UN.rowVal m.o];have:=z.o.1;omega
     . have A:=af.resolve_left U;have Qs:nb*d≠0:=by
        have:=A.2.2.2;exact Nat.mul_ne_zero Y Qe
       obtain⟨Qr,Qp,Qa,Qo,Qg⟩:=GF (λ(V:World) (h:Bl k V)=>O7 t q g f c0 i l1 c1 X d V (UN.below Qn h) (UN.below Q h) b1 b2 Y Y (Nat.mul_ne_zero U Qe)) (λ(V:World) (h:Bl k V)=>O7 H nb g f c0 i l1 c1 X d V (UN.below Qn h) (UN.below Q h) b3 b4 Y Y Qs) (A.less U Y) A.gcd A.2.2.1;have Qf:=Z (show YY (t*X) (q*d)<=X by
        have e1:=A.1;have e2:=Cz (YY (t*X) (q*d)) A.2.2.2;omega)
       clear A af Qs;generalize YY (t*X) (q*d)=D1 at *;generalize YY (H*X) (nb*d)=D2 at *;have hq:Bl k k.drew:=(BE _ k).drew;go_upto_region 6 with fail
       go_region_held3 (λo=>o.cell? ⟨j.heap.size,0,none⟩=some (C B (t:Nat))/\o.cell? ⟨j.heap.size,1,none⟩=some (C B (q:Nat))/\o.cell? ⟨j.heap.size+1,0,none⟩=some (C B (H:Nat))/\o.cell? ⟨j.heap.size+1,1,none⟩=some (C B (nb:Nat))) (exact⟨k0,k1,k2,k3⟩)
        (first
         |(go_at_call 145;refine(Qr.o _ hq).mono ?_;clear Qr;rintro e w4 ⟨u4,rfl,am,T⟩;obtain⟨xa,xc,rfl⟩:=UN.form am;have hq:=Bt hq T;obtain⟨k0,k1⟩:=(m5.below hq).cp;obtain⟨k2,k3⟩:=(m6.below hq).cp)
         |(go_at_call 145;refine(Qp.o _ hq).mono ?_;clear Qp;rintro e w5 ⟨u5,rfl,ah,ai⟩;obtain⟨ya,yc,rfl⟩:=UN.form ah;have hq:=Bt hq ai;obtain⟨k0,k1⟩:=(m5.below hq).cp;obtain⟨k2,k3⟩:=(m6.below hq).cp))
       all_goals go_wp2_with fail
       have an:=UN.below am ai;refine⟨⟨xa,_,xc,D1,ya,_,yc,D2,rfl,rfl,Z an,Z ah,Z ⟨Nat.le_of_lt Qg.o,Qo.o.trans z.o.2⟩,?_,Bt Qd hq⟩,?_⟩
       . have r:=Y0 Qf.o;rw[<-UN.len s.o]at r;omega
       . rw[UN.rowVal an,UN.rowVal ah,UN.rowVal s.o,UN.rowVal m.o];exact Qa.o
   . rcases Ca l1 with h0|h0
     . subst h0;have Qt:d=0:=(JL Jf).1 (Az (UN.len m.o).symm);have HC:=Z (OV g f c0 _ wr s.o);have W:=Z (show X=Nat.gcd x y by rw[<-z.o.2,Qt,Nat.gcd_zero_right]);clear Qt;go_wp2_with(go_at_call 147;refine HC.o.mono ?_;rintro e j ⟨za,zc,rfl,hz,n⟩)
       go_ret;exact⟨_,rfl,by rw[<-W.o];exact hz,Bt S n⟩
     . obtain rfl:l1=1:=Y
       obtain⟨ae,ba,bc⟩:=MS (UN.len m.o).symm;obtain⟨bb,bo,rfl,ap,kb⟩:=(JA m.o).2.2.2.2 0 Y;rw[ae]at kb;have Qy:wr.cell? ⟨bb,bo,none⟩=some (C B (d:Nat)):=kb;have Qk:=Z (MV g f c0 (some ⟨bb,bo,none⟩) 1 c1 X d wr s.o m.o Y Y);have Qi:=Ck X (show d>0 by omega);have W:=Z (show Nat.gcd d (X%d)=Nat.gcd x y by rw[<-z.o.2,CZ d,<-Nat.gcd_rec,CZ]);have Qv:=Z (show ∀(V:World) (v:Option Addr) (l c:Nat),UN V (D v l c) (X%d)->Calls Tryz.prog 148 #[D (some ⟨V.heap.size,0,none⟩) 1 1,D v l c] (V.alloc (E #[C B (d:Nat)] 156)) λe o=>∃u,e=.returned u/\UN o u (Nat.gcd x y)/\Below (V.alloc (E #[C B (d:Nat)] 156)).heap.size (V.alloc (E #[C B (d:Nat)] 156)) o from λV v l c h=>by
        have r:=(DO.made (xs:=[d]) (BD V (E #[C B (d:Nat)] 156))).row 0 1 1 O Y Y Y;have R:Row B (V.alloc (E #[C B (d:Nat)] 156)) (D (some ⟨V.heap.size,0,none⟩) 1 1) (Jg J d):=by rw[ae];exact r
        have L:=U6 (some ⟨V.heap.size,0,none⟩) 1 v l c d (X%d) _ R (UN.below h (Ba V _)) Y;rw[W.o]at L;exact L)
       clear kb ae;go_upto_region 12 with(go_at_call 146;refine Qk.o.mono ?_;rintro e j ⟨u,v,rfl,hu,G,n⟩;obtain⟨ua,uc,rfl⟩:=UN.form hu;obtain⟨va,vc,rfl⟩:=UN.form G)
       have bf:=(n.cell (p:=⟨bb,bo,none⟩) ap).trans Qy;go_wp2_with(go_at_call 148;refine(Qv.o _ _ _ _ G).mono ?_;rintro e w3 ⟨u3,rfl,ak,I⟩;obtain⟨ta,tc,rfl⟩:=UN.form ak)
       go_ret;have Ql:Bl w j:=Bt S n;exact⟨_,rfl,ak,O5 Ql I⟩

