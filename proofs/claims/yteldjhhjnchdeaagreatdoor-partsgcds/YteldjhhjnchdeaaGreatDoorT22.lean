import Derived.Test.YteldjhhjnchdeaaGreatDoorT21
import Derived.Deep.RegionHeld3
import Derived.BigRegion
open Go.IntKind renaming u64->B
open Go.Value renaming int->C,slice->D
open Go.Obj renaming cells->E
set_option maxRecDepth 100000
set_option maxHeartbeats 16000000
namespace Go.Proofs.YteldjhhjnchdeaaGreatDoor
open Go.RowKit Go.Shelf
section
attribute [local go_sem] Oper.semAt_some
theorem QN{W:World}{B:Nat}{t:TypeId}{c d u0 u1:Value}(x0 x1 b a:Value)(h:Jn W B t c d)(k:Jn W (B+1) t u0 u1):
 Jn ((((W.setCell ⟨B,0,none⟩ x0).setCell ⟨B,1,none⟩ x1).setCell ⟨B+1,0,none⟩ b).setCell ⟨B+1,1,none⟩ a).drew B t x0 x1/\Jn ((((W.setCell ⟨B,0,none⟩ x0).setCell ⟨B,1,none⟩ x1).setCell ⟨B+1,0,none⟩ b).setCell ⟨B+1,1,none⟩ a).drew (B+1) t b a:=
 ⟨((((h.set0 x0).set1 x1).far DQ b).far DQ a).drew,((((k.far DQ x0).far DQ x1).set0 b).set1 a).drew⟩
theorem ZG(O W la A ca:Nat)(b:Option Addr)(lb cb x y d s H L:Nat)(w:World)(h1:(la:Int)-1=A)(aw:O<w.heap.size)
(ka:w.cell? ⟨O,W+A,none⟩=some (C B (d:Nat)))(aq:d<DR)(hs:s<=63)(HS:Hid ((64:Int)-(Lib.bitLen d:Int)=(s:Int)))(bk:la<=1099511627776)(cj:A<la)
(ai:Hid (∀V:World,Bl w V->Calls Tryz.prog 167 #[D (some ⟨O,W,none⟩) la ca,C .i64 (la:Nat),C B (s:Nat)] V λe o=>e=.returned (C B (H:Nat))/\Bl V o))
(aj:Hid (∀V:World,Bl w V->Calls Tryz.prog 167 #[D b lb cb,C .i64 (la:Nat),C B (s:Nat)] V λe o=>e=.returned (C B (L:Nat))/\Bl V o))
(J:H<DR)(ay:L<=H)(ap:Hid (∀U h l a nb j c,GU H L U h l a nb j c->c<=l->nb+c<=h-l->Hk x y a nb j c)):
 Calls Tryz.prog 144 #[D (some ⟨O,W,none⟩) la ca,D b lb cb] w λe o=>∃i g a nb:Nat,e=.returned (.tuple #[.agg #[C B (i:Nat),C B (g:Nat)],.agg #[C B (a:Nat),C B (nb:Nat)]])/\(i<DR/\g<DR/\a<DR/\nb<DR)/\(g=0\/Hk x y i g a nb)/\Bl w o:=by
 have i1:IntKind.i64.wrap ((la:Int)-1)=(A:Int):=by rw[h1];exact BW _ om
 have i3:IntKind.i64.wrap (A:Int)=(A:Int):=BW _ om;have bn:IntKind.u64.wrap (s:Int)=(s:Int):=Bs _ om;obtain⟨W0,M⟩:=ex ((w.alloc (E #[C B 0,C B 0] 169)).alloc (E #[C B 0,C B 0] 169));have Qf:Bl w W0:=by rw[<-M];exact(Ba w _).alloc DQ _
 have b4:Jn W0 w.heap.size 169 (C B 0) (C B 0):=by rw[<-M];exact(Jn.new w _ _ _).alloc _
 have b5:Jn W0 (w.heap.size+1) 169 (C B 0) (C B 0):=by
  have h:=Jn.new (w.alloc (E #[C B 0,C B 0] 169)) 169 (C B 0) (C B 0);rw[A1,M]at h;exact h
 have Qt:=(Qf.cell (p:=⟨O,W+A,none⟩) aw).trans ka;have Qm:=Ja M;have Qo:=Ja (show ∀V:World,Calls Tryz.prog 166 #[C B (d:Nat)] V λe o=>e=.returned (C .i64 (s:Nat))/\o=V from λV=>by
  have h:=Tryz.bits_LeadingZeros64 (d:Nat) V om (by unfold DR at aq;omega);rw[Cy,HS.o]at h;exact h)
 clear M ka HS;go_enter Tryz.func144,Tryz.ntmps144
 go_upto_region 1 with fail
 try rw[Qm.o]
 go_upto_region 2 with(go_at_call 166;refine(Qo.o _).mono ?_;rintro e o ⟨rfl,e1⟩;have e2:=e1.symm;subst e2;clear e1)
 have hq:Bl w W0:=Qf;go_upto_region 3 with(first
  |(go_at_call 167;refine(ai.o _ hq).mono ?_;clear ai;rintro e w1 ⟨rfl,ad⟩;have hq:=Bt hq ad)
  |(go_at_call 167;refine(aj.o _ hq).mono ?_;clear aj;rintro e m ⟨rfl,ae⟩;have hq:=Bt hq ae))
 go_wp2_with fail
 obtain⟨G,t⟩:=ex (((m.alloc (E #[C B 0,C B 0] 169)).alloc (E #[C B 1,C B 0] 169)).alloc (E #[C B 0,C B 1] 169));have Qn:Bl w G:=by rw[<-t];exact((hq.alloc hq.size _).alloc (by have:=hq.size;simp;omega) _).alloc (by have:=hq.size;simp;omega) _
 have F:Jn G m.heap.size 169 (C B (0:Nat)) (C B (0:Nat)):=by rw[<-t];exact((Jn.new m _ _ _).alloc _).alloc _
 have z:Jn G (m.heap.size+1) 169 (C B (1:Nat)) (C B (0:Nat)):=by
  have h:=(Jn.new (m.alloc (E #[C B 0,C B 0] 169)) 169 (C B 1) (C B 0)).alloc (E #[C B 0,C B 1] 169);rw[A1,t]at h;exact h
 have u:Jn G (m.heap.size+1+1) 169 (C B (0:Nat)) (C B (1:Nat)):=by
  have h:=Jn.new ((m.alloc (E #[C B 0,C B 0] 169)).alloc (E #[C B 1,C B 0] 169)) 169 (C B 0) (C B 1);rw[A1,A1,t]at h;exact h
 have T:Bl W0 m:=Bt ad ae;have n:Jn G w.heap.size 169 (C B 0) (C B 0):=by rw[<-t];exact(((b4.below T).alloc _).alloc _).alloc _
 have k:Jn G (w.heap.size+1) 169 (C B 0) (C B 0):=by rw[<-t];exact(((b5.below T).alloc _).alloc _).alloc _
 have Qr:w.heap.size+1<m.heap.size:=by have:=(b5.below T).lt;exact this
 rw[t];obtain⟨B9,am⟩:=ex (m.heap.size);rw[am]at F z u Qr ⊢;clear t T b4 b5 ad ae hq Qf am Qt Qo Qm;go_loopw [7,8] (λhv lv wr=>∃h l i g a nb j c:Nat,hv=C B (h:Nat)/\lv=C B (l:Nat)/\Hid (∃U,GU H L U h l a nb j c)/\Hid (g=0\/Hk x y i g a nb)/\(h<DR/\i<DR/\g<DR/\a<DR/\nb<DR/\j<DR/\c<DR)/\
  Jn wr B9 169 (C B (i:Nat)) (C B (g:Nat))/\Jn wr (B9+1) 169 (C B (a:Nat)) (C B (nb:Nat))/\Jn wr (B9+1+1) 169 (C B (j:Nat)) (C B (c:Nat))/\Jn wr w.heap.size 169 (C B 0) (C B 0)/\Jn wr (w.heap.size+1) 169 (C B 0) (C B 0)/\Bl w wr)
  (λ_ lv _=>(intOf lv).toNat)
 case atStart=>exact⟨H,L,0,0,1,0,0,1,rfl,rfl,⟨1,GU.start ay⟩,Or.inl rfl,⟨J,by unfold DR;omega,by unfold DR;omega,by unfold DR;omega,by unfold DR;omega,by unfold DR;omega,by unfold DR;omega⟩,F,z,u,n,k,Qn⟩
 case round=>
  clear F z u n k Qn;obtain⟨h,l,i,g,a,nb,j,c,rfl,rfl,ah,HO,⟨z1,z2,z3,Z,X,z6,z7⟩,F,z,u,n,k,Y⟩:=hrel;obtain⟨U,hle⟩:=ah.o;have cn:l<=h:=hle.2.2.2.2.2.2.2;have az:1<=c:=hle.2.2.2.2.2.2.1;obtain⟨bh,bu⟩:=F.cp;obtain⟨ci,bt⟩:=z.cp;obtain⟨ck,bi⟩:=u.cp;by_cases c1:c<=l
  . obtain⟨y1,y2⟩:=hle.small om;obtain⟨e,he⟩:∃e:Nat,(h:Int)-(l:Int)=(e:Int):=⟨h-l,om⟩;obtain⟨f,hf⟩:∃f:Nat,(nb:Int)+(c:Int)=(f:Int):=⟨nb+c,om⟩;have we:IntKind.u64.wrap (e:Int)=(e:Int):=Bs _ (by unfold DR at z1;omega);have wf:IntKind.u64.wrap (f:Int)=(f:Int):=Bs _ (by unfold DR at J;omega);by_cases c2:f<=e
    . have Qi:=Ja (ap.o _ _ _ _ _ _ _ hle c1 om);have K:=hle.step (show 1<=l by omega);have I:=Ja K;obtain⟨q,hq⟩:=ex (h/l);obtain⟨r,S⟩:=ex (h%l);rw[hq,S]at K I;have bg:r<l:=by rw[<-S];exact A7 _ om
      have ce:(h:Int)/(l:Int)=(q:Int):=by rw[<-hq];exact(Fo h l).symm
      have Qx:(h:Int)%(l:Int)=(r:Int):=by rw[<-S];exact(Int.natCast_emod h l).symm
      have Ql:a+q*j<=L:=by
       have h1:=K.2.2.1;have h2:=CB (a+q*j) (show 0<l by omega);omega
      have Qp:nb+q*c<=H:=by
       have h1:=K.2.1;have h2:=CB (nb+q*c) (show 0<l by omega);omega
      obtain⟨P,hP⟩:=ex (q*j);obtain⟨N,af⟩:=ex (q*c);rw[hP]at Ql I;rw[af]at Qp I;obtain⟨Q,ak⟩:=ex (a+P);obtain⟨R,an⟩:=ex (nb+N);rw[ak]at Ql I;rw[an]at Qp I;have p1:(q:Int)*(j:Int)=(P:Int):=by rw[<-hP];exact(Fa q j).symm
      have p2:(q:Int)*(c:Int)=(N:Int):=by rw[<-af];exact(Fa q c).symm
      have p3:(a:Int)+(P:Int)=(Q:Int):=om
      have p4:(nb:Int)+(N:Int)=(R:Int):=om
      have v1:IntKind.u64.wrap (P:Int)=(P:Int):=Bs _ (by unfold DR at J;omega);have v2:IntKind.u64.wrap (N:Int)=(N:Int):=Bs _ (by unfold DR at J;omega);have v3:IntKind.u64.wrap (Q:Int)=(Q:Int):=Bs _ (by unfold DR at J;omega);have v4:IntKind.u64.wrap (R:Int)=(R:Int):=Bs _ (by unfold DR at J;omega);have cg:q<=h:=by rw[<-hq];exact Fv _ _
      have v5:IntKind.u64.wrap (q:Int)=(q:Int):=Bs _ (by unfold DR at z1;omega);have bm:¬(l=0):=om
      obtain⟨bc,bj⟩:=F.fp;obtain⟨co,ct⟩:=z.fp;obtain⟨cl,bf⟩:=u.fp;clear K hle hP af ak an hq S y1 y2 ah HO;go_upto_region 6 with fail
      go_quiet (fail)
      go_wp2_with fail
      go_region
      go_wp2_with fail
      have g9:Jn (wr.drewN (nq+1)) B9 169 (C B (i:Nat)) (C B (g:Nat)):=F;have Ub:Jn (wr.drewN (nq+1)) (B9+1) 169 (C B (a:Nat)) (C B (nb:Nat)):=z;have Qz:Jn (wr.drewN (nq+1)) (B9+1+1) 169 (C B (j:Nat)) (C B (c:Nat)):=u;have g4:Jn (wr.drewN (nq+1)) w.heap.size 169 (C B 0) (C B 0):=n;have g5:Jn (wr.drewN (nq+1)) (w.heap.size+1) 169 (C B 0) (C B 0):=k;have gB:Bl w (wr.drewN (nq+1)):=Kv Y _;rw[Qx];refine⟨⟨l,r,a,nb,j,c,Q,R,rfl,rfl,⟨_,I.o⟩,Or.inr Qi.o,⟨om,Z,X,z6,z7,om,om⟩,?_,?_,?_,?_,?_,?_⟩,by simp[intOf];omega⟩
      . exact(((((g9.set0 _).set1 _).far DQ _).far DQ _).far so _).far so _
      . exact(((((Ub.far DQ _).far DQ _).set0 _).set1 _).far DQ _).far DQ _
      . exact(((((Qz.far so _).far so _).far DQ _).far DQ _).set0 _).set1 _
      . exact(((((g4.far so _).far so _).far so _).far so _).far so _).far so _
      . exact(((((g5.far so _).far so _).far so _).far so _).far so _).far so _
      . exact(((((gB.setCell (p:=⟨_,0,none⟩) so _).setCell (p:=⟨_,1,none⟩) so _).setCell (p:=⟨_,0,none⟩) so _).setCell (p:=⟨_,1,none⟩) so _).setCell (p:=⟨_,0,none⟩) so _).setCell (p:=⟨_,1,none⟩) so _
    . clear hle;obtain⟨Qy,Ua⟩:=n.cp;obtain⟨Uc,Qs⟩:=k.cp;obtain⟨Qq,Qu⟩:=n.fp;obtain⟨Qv,Qw⟩:=k.fp;go_wp2_with fail
      go_region
      go_wp2_with fail
      obtain⟨q4,q5⟩:=QN (C B (i:Nat)) (C B (g:Nat)) (C B (a:Nat)) (C B (nb:Nat)) n k;obtain⟨Qk,Qh⟩:=q4.cp;obtain⟨Qj,Qg⟩:=q5.cp;exact BA (v:=.tuple #[.agg #[C B (i:Nat),C B (g:Nat)],.agg #[C B (a:Nat),C B (nb:Nat)]]) (by simp[results,Tryz.results144,go_sem,Qk,Qh,Qj,Qg]) rfl ⟨i,g,a,nb,rfl,⟨z2,z3,Z,X⟩,HO.o,((((Y.setCell (p:=⟨_,0,none⟩) so _).setCell (p:=⟨_,1,none⟩) so _).setCell (p:=⟨_,0,none⟩) so _).setCell (p:=⟨_,1,none⟩) so _).drew⟩
  . clear hle;obtain⟨Qy,Ua⟩:=n.cp;obtain⟨Uc,Qs⟩:=k.cp;obtain⟨Qq,Qu⟩:=n.fp;obtain⟨Qv,Qw⟩:=k.fp;go_wp2_with fail
    go_region
    go_wp2_with fail
    obtain⟨q4,q5⟩:=QN (C B (i:Nat)) (C B (g:Nat)) (C B (a:Nat)) (C B (nb:Nat)) n k;obtain⟨Qk,Qh⟩:=q4.cp;obtain⟨Qj,Qg⟩:=q5.cp;exact BA (v:=.tuple #[.agg #[C B (i:Nat),C B (g:Nat)],.agg #[C B (a:Nat),C B (nb:Nat)]]) (by simp[results,Tryz.results144,go_sem,Qk,Qh,Qj,Qg]) rfl ⟨i,g,a,nb,rfl,⟨z2,z3,Z,X⟩,HO.o,((((Y.setCell (p:=⟨_,0,none⟩) so _).setCell (p:=⟨_,1,none⟩) so _).setCell (p:=⟨_,0,none⟩) so _).setCell (p:=⟨_,1,none⟩) so _).drew⟩
end
theorem ZH(a:Option Addr)(la ca:Nat)(b:Option Addr)(lb cb x y:Nat)(w:World)(J:Row B w (D a la ca) (Jc DR x))(z:Row B w (D b lb cb) (Jc DR y))(r:y<=x)(ak:2<=lb):
 Calls Tryz.prog 144 #[D a la ca,D b lb cb] w λe U=>∃m j i nb:Nat,e=.returned (.tuple #[.agg #[C B (m:Nat),C B (j:Nat)],.agg #[C B (i:Nat),C B (nb:Nat)]])/\(m<DR/\j<DR/\i<DR/\nb<DR)/\(j=0\/Hk x y m j i nb)/\Bl w U:=by
 obtain⟨ad,aj,ah,p,N⟩:=Ju J;obtain⟨ae,ai,am,an,af⟩:=Ju z;have M:lb<=la:=by rw[ad,ae];exact Xh r
 obtain⟨k,t⟩:∃k,la=k+2:=⟨la-2,om⟩;obtain⟨v,G,rfl,Q,K⟩:=N (k+1) om;have c:=Jp Jf x;have A:(Jc DR x).length=k+2:=om
 have F:(Jc DR x)[k+1]?.getD 0≠0:=by
  intro e;have h3:=Jq DR (Jc DR x) (k+1);rw[Ad om,e,Cv,Ci,Jo Jf]at h3;have h4:=Yy c (k+1);have q:=Xe Jf A om;rw[show k+2-1=k+1 from rfl]at q;omega
 have f:(Jc DR x)[k+1]?.getD 0<DR:=c.getD uo _;obtain⟨d,g⟩:=ex ((Jc DR x)[k+1]?.getD 0);rw[g]at K F f;obtain⟨Z,R,H⟩:=bitLen_spec d F (by rw[<-IE];exact f);have hL:Lib.bitLen d<=64:=by
  rcases AO 64 (Lib.bitLen d)with h|h
  . exfalso
    have q:2^64<=2^(Lib.bitLen d-1):=Aw om om;rw[IE]at f;omega
  . exact h
 obtain⟨s,hs⟩:∃s,s=64-Lib.bitLen d:=⟨_,rfl⟩;obtain⟨o,L⟩:=QF (s:=s) c A g R H Z hL hs;rw[Jo Jf]at o L;have X:d<2^(64-s):=by rw[hs,show 64-(64-Lib.bitLen d)=Lib.bitLen d from by omega];exact H
 have n:0<DR^k*2^(64-s):=DO (Fl uo) (Ce _);have T:GM x k s<DR:=by
  unfold GM;rw[AX n];have hp:=Ks (s:=s) om;have Y:DR*(DR^k*2^(64-s))*2^s=DR^(k+2):=by
   rw[Ay,Ay,Ar (2^(64-s)),hp,AP,AP,Ar DR,Ay]
  rw[<-Y]at o;exact Nat.lt_of_mul_lt_mul_right o
 have I:=λ(V:World) (h:Bl w V)=>QM (some ⟨v,G,none⟩) la ca (Jc DR x) k (k+1) la s V (Row.below J h) c t om om om (Aa _) p (λ_=>by rw[g];exact X);have u:=λ(V:World) (h:Bl w V)=>QM b lb cb (Jc DR y) k (k+1) la s V (Row.below z h) (Jp Jf y) t om om om M p (λe=>by
  have O:=Jq DR (Jc DR y) (k+1);rw[Ad om,Jo Jf]at O;have P:=Jq DR (Jc DR x) (k+1);rw[Ad om,Jo Jf,g]at P;have h8:=Yy c (k+1);have h9:(Jc DR y)[k+1]?.getD 0<=d:=by
   rcases AO d ((Jc DR y)[k+1]?.getD 0)with h|h
   . exfalso
     have:=Av (DR^(k+1)) (show d+1<=(Jc DR y)[k+1]?.getD 0 from h);rw[Ax,Fy]at this;omega
   . exact h
  omega)
 rw[Jo Jf]at I u;refine ZG v G la (k+1) ca b lb cb x y d s (GM x k s) (GM y k s) w om Q K f om (show _=_ by omega) p om I u T (Nat.div_le_div_right r) ?_;intro sg h l i nb c xb hle W h2;refine hle.out (S:=DR^k*2^(64-s)) (al:=x%(DR^k*2^(64-s))) (be:=y%(DR^k*2^(64-s))) ?_ ?_ (A7 _ n) (A7 _ n) W h2
 . unfold GM;rw[Ar];exact(Cc x _).symm
 . unfold GM;rw[Ar];exact(Cc y _).symm
attribute [local go_sem] Oper.semAt_some
def IF(W:World)(p:Addr):Nat:=match W.cell? p with|some (.int _ z)=>z.toNat|_=>0
def rowVal(W:World):Value->Nat
 |D (some p) l _=>val DR ((List.range l).map λj=>IF W ⟨p.block,p.off+j,none⟩)
 |_=>0
theorem UN.rowVal{W:World}{a:Option Addr}{l c n:Nat}(h:UN W (D a l c) n):rowVal W (D a l c)=n:=by
 obtain⟨f,_,_,_,g⟩:=Ju h;rcases AY l with d|d
 . subst d;have m:n=0:=(JA Jf).1 (Ap f.symm);subst m;cases a<;>rfl
 . obtain⟨b,off,rfl,_,_⟩:=g 0 d;show val DR ((List.range l).map λj=>IF W ⟨b,off+j,none⟩)=n;have e:(List.range l).map (λj=>IF W ⟨b,off+j,none⟩)=Jc DR n:=by
    refine List.ext_getElem (by rw[FO,List.length_range];exact f) (λj q i=>?_);obtain⟨p,o,e,_,k⟩:=g j om;cases e;rw[List.getElem_map,List.getElem_range,IF,k,Ah i];rfl
   rw[e,Jo Jf]
theorem ZI(a:Option Addr)(la ca:Nat)(b:Option Addr)(lb cb x y:Nat)(w:World)(ra:Row B w (D a la ca) (Jc DR x))(rb:Row B w (D b lb cb) (Jc DR y))(ak:la<1000000000000)(aj:lb<1000000000000):
 Calls Tryz.prog 122 #[D a la ca,D b lb cb] w λe m=>∃u,e=.returned u/\UN m u (Nat.gcd x y)/\Bl w m:=by
 have S:=Ja (Np _ _ (Jc DR x) (Jc DR y) w ra rb (Jp Jf x) (Jp Jf y) (Yk Jf x) (Yk Jf y));rw[Jo Jf,Jo Jf]at S;obtain⟨cm,ad⟩:=ex (Y9 x y:Int);rw[ad]at S;obtain⟨Qf,Qj,Qh⟩:=Dm ad ra rb;clear ad ra rb;go_enter Tryz.func122,Tryz.ntmps122
 go_upto_if 14 with(go_at_call 132;refine S.o.mono ?_;rintro e w1 ⟨rfl,z⟩)
 go_cut [0,1] (λI J wr=>∃(g:Option Addr) (f c0 X:Nat) (j:Option Addr) (l1 c1 d:Nat),I=D g f c0/\J=D j l1 c1/\Hid (UN wr (D g f c0) X)/\Hid (UN wr (D j l1 c1) d)/\Hid (d<=X/\Nat.gcd X d=Nat.gcd x y)/\f<1000000000000/\Bl w wr)
 case first=>
  by_cases Qy:cm<0
  . have Qv:x<y:=by
     have h:=Qf.o;unfold Y9 at h;split at h
     . assumption
     . split at h<;>omega
    go_wp2_with fail
    go_meet
    case rel=>exact⟨_,_,_,y,_,_,_,x,rfl,rfl,Ja (UN.below Qh.o z),Ja (UN.below Qj.o z),Ja ⟨om,C0 _ _⟩,aj,z⟩
  . have Qv:¬(x<y):=λh=>by
     have r:=Qf.o;rw[XT h]at r;omega
    go_wp2_with fail
    go_meet
    case rel=>exact⟨_,_,_,x,_,_,_,y,rfl,rfl,Ja (UN.below Qj.o z),Ja (UN.below Qh.o z),Ja ⟨om,rfl⟩,ak,z⟩
 case rest=>
  obtain⟨g,f,c0,X,j,l1,c1,d,rfl,rfl,r,Q,M,h4,h5⟩:=hcut;clear S Qf Qj Qh z;go_wp2_with fail
  go_loopw [0,1] (λI J wr=>∃(g:Option Addr) (f c0 X:Nat) (j:Option Addr) (l1 c1 d:Nat),I=D g f c0/\J=D j l1 c1/\Hid (UN wr (D g f c0) X)/\Hid (UN wr (D j l1 c1) d)/\Hid (d<=X/\Nat.gcd X d=Nat.gcd x y)/\f<1000000000000/\Bl w wr)
   (λI J wr=>rowVal wr I+rowVal wr J)
  case atStart=>exact⟨g,f,c0,X,j,l1,c1,d,rfl,rfl,r,Q,M,h4,h5⟩
  case round=>
   clear r Q M h4 h5;obtain⟨g,f,c0,X,j,l1,c1,d,rfl,rfl,t,o,F,aw,N⟩:=hrel;have an:l1<=f:=by rw[UN.len t.o,UN.len o.o];exact Xh F.o.1
   by_cases ap:1<l1
   . have Qy:(1:Int)<(l1:Int):=om
     have Qo:d≠0:=λe=>by
      have h:=UN.len o.o;rw[e,Jy]at h;simp at h;omega
     have Qu:=Ja (ZH g f c0 j l1 c1 X d _ t.o o.o F.o.1 om);go_upto_region 5 with(go_at_call 144;refine Qu.o.mono ?_;rintro e i ⟨s,q,G,nb,rfl,⟨b1,b2,b3,b4⟩,Y,n⟩)
     obtain⟨k,L⟩:=ex ((i.alloc (E #[C B (s:Nat),C B (q:Nat)] 169)).alloc (E #[C B (G:Nat),C B (nb:Nat)] 169));have Ql:Bl w i:=Bt N n;have K:Bl wr k:=by rw[<-L];exact(n.alloc n.size _).alloc (by have:=n.size;simp;omega) _
     have Qd:Bl w k:=Bt N K;have U:Jn k i.heap.size 169 (C B (s:Nat)) (C B (q:Nat)):=by rw[<-L];exact(Jn.new i _ _ _).alloc _
     have m6:Jn k (i.heap.size+1) 169 (C B (G:Nat)) (C B (nb:Nat)):=by
      have h:=Jn.new (i.alloc (E #[C B (s:Nat),C B (q:Nat)] 169)) 169 (C B (G:Nat)) (C B (nb:Nat));rw[A1,L]at h;exact h
     have Qi:=UN.below t.o K;have P:=UN.below o.o K;rw[L];clear L Qu n Ql;obtain⟨k0,k1⟩:=U.cp;obtain⟨T,k3⟩:=m6.cp;by_cases O:q=0
     . subst O;have Qm:=Ja (OB g f c0 j l1 c1 X d k Qi P Qo om);clear Y;go_wp2_with(go_at_call 146;refine Qm.o.mono ?_;rintro e w4 ⟨u,v,rfl,hu,H,R⟩;obtain⟨ua,uc,rfl⟩:=UN.form hu;obtain⟨va,vc,rfl⟩:=UN.form H)
       have Qk:=A7 X (show d>0 by omega);have Qr:=UN.below P R;refine⟨⟨j,l1,c1,d,va,_,vc,X%d,rfl,rfl,Ja Qr,Ja H,Ja ⟨om,by rw[<-F.o.2,C0 d,<-Nat.gcd_rec,C0]⟩,om,Bt Qd R⟩,?_⟩;rw[UN.rowVal Qr,UN.rowVal H,UN.rowVal t.o,UN.rowVal o.o];have:=F.o.1;omega
     . have A:=Y.resolve_left O;have Qq:nb*d≠0:=by
        have:=A.2.2.2;exact FP om Qo
       obtain⟨Qp,Qs,Qb,Qe,Qg⟩:=Gi (λ(V:World) (h:Bl k V)=>QL s q g f c0 j l1 c1 X d V (UN.below Qi h) (UN.below P h) b1 b2 om om (FP O Qo)) (λ(V:World) (h:Bl k V)=>QL G nb g f c0 j l1 c1 X d V (UN.below Qi h) (UN.below P h) b3 b4 om om Qq) (A.less O om) A.gcd A.2.2.1;have Qn:=Ja (show Xf (s*X) (q*d)<=X by
        have e1:=A.1;have e2:=Fh (Xf (s*X) (q*d)) A.2.2.2;omega)
       clear A Y Qq;generalize Xf (s*X) (q*d)=D1 at *;generalize Xf (G*X) (nb*d)=D2 at *;have hq:Bl k k.drew:=(BB _ k).drew;go_upto_region 6 with fail
       go_region_held3 (λm=>m.cell? ⟨i.heap.size,0,none⟩=some (C B (s:Nat))/\m.cell? ⟨i.heap.size,1,none⟩=some (C B (q:Nat))/\m.cell? ⟨i.heap.size+1,0,none⟩=some (C B (G:Nat))/\m.cell? ⟨i.heap.size+1,1,none⟩=some (C B (nb:Nat))) (exact⟨k0,k1,T,k3⟩)
        (first
         |(go_at_call 145;refine(Qp.o _ hq).mono ?_;clear Qp;rintro e w4 ⟨u4,rfl,ai,R⟩;obtain⟨xa,xc,rfl⟩:=UN.form ai;have hq:=Bt hq R;obtain⟨k0,k1⟩:=(U.below hq).cp;obtain⟨T,k3⟩:=(m6.below hq).cp)
         |(go_at_call 145;refine(Qs.o _ hq).mono ?_;clear Qs;rintro e w5 ⟨u5,rfl,W,af⟩;obtain⟨ya,yc,rfl⟩:=UN.form W;have hq:=Bt hq af;obtain⟨k0,k1⟩:=(U.below hq).cp;obtain⟨T,k3⟩:=(m6.below hq).cp))
       all_goals go_wp2_with fail
       have ah:=UN.below ai af;refine⟨⟨xa,_,xc,D1,ya,_,yc,D2,rfl,rfl,Ja ah,Ja W,Ja ⟨FT Qg.o,Qe.o.trans F.o.2⟩,?_,Bt Qd hq⟩,?_⟩
       . have r:=Xh Qn.o;rw[<-UN.len t.o]at r;omega
       . rw[UN.rowVal ah,UN.rowVal W,UN.rowVal t.o,UN.rowVal o.o];exact Qb.o
   . rcases AY l1 with h0|h0
     . subst h0;have Qt:d=0:=(JA Jf).1 (Ap (UN.len o.o).symm);have HC:=Ja (Pl g f c0 _ wr t.o);have HE:=Ja (show X=Nat.gcd x y by rw[<-F.o.2,Qt,Nat.gcd_zero_right]);clear Qt;go_wp2_with(go_at_call 147;refine HC.o.mono ?_;rintro e i ⟨za,zc,rfl,hz,n⟩)
       go_ret;exact⟨_,rfl,by rw[<-HE.o];exact hz,Bt N n⟩
     . obtain rfl:l1=1:=om
       obtain⟨Z,aq,az⟩:=N8 (UN.len o.o).symm;obtain⟨bb,bo,rfl,am,kb⟩:=(Ju o.o).2.2.2.2 0 om;rw[Z]at kb;have Qx:wr.cell? ⟨bb,bo,none⟩=some (C B (d:Nat)):=kb;have Qm:=Ja (OB g f c0 (some ⟨bb,bo,none⟩) 1 c1 X d wr t.o o.o om om);have Qk:=A7 X (show d>0 by omega);have HE:=Ja (show Nat.gcd d (X%d)=Nat.gcd x y by rw[<-F.o.2,C0 d,<-Nat.gcd_rec,C0]);have Qw:=Ja (show ∀(V:World) (v:Option Addr) (l c:Nat),UN V (D v l c) (X%d)->Calls Tryz.prog 148 #[D (some ⟨V.heap.size,0,none⟩) 1 1,D v l c] (V.alloc (E #[C B (d:Nat)] 156)) λe m=>∃u,e=.returned u/\UN m u (Nat.gcd x y)/\Below (V.alloc (E #[C B (d:Nat)] 156)).heap.size (V.alloc (E #[C B (d:Nat)] 156)) m from λV v l c h=>by
        have r:=(DX.made (xs:=[d]) (BE V (E #[C B (d:Nat)] 156))).row 0 1 1 DQ om om om;have Q:Row B (V.alloc (E #[C B (d:Nat)] 156)) (D (some ⟨V.heap.size,0,none⟩) 1 1) (Jc DR d):=by rw[Z];exact r
        have M:=ZB (some ⟨V.heap.size,0,none⟩) 1 v l c d (X%d) _ Q (UN.below h (Ba V _)) om;rw[HE.o]at M;exact M)
       clear kb Z;go_upto_region 12 with(go_at_call 146;refine Qm.o.mono ?_;rintro e i ⟨u,v,rfl,hu,H,n⟩;obtain⟨ua,uc,rfl⟩:=UN.form hu;obtain⟨va,vc,rfl⟩:=UN.form H)
       have ay:=(n.cell (p:=⟨bb,bo,none⟩) am).trans Qx;go_wp2_with(go_at_call 148;refine(Qw.o _ _ _ _ H).mono ?_;rintro e w3 ⟨u3,rfl,ae,K⟩;obtain⟨ta,tc,rfl⟩:=UN.form ae)
       go_ret;have Ql:Bl w i:=Bt N n;exact⟨_,rfl,ae,QJ Ql K⟩

