import Derived.Test.YteldjhhjnchdeaaGreatDoorT10
import Derived.Test.YteldjhhjnchdeaaGreatDoorT09
open Go.Value renaming slice->B,int->E
open Go.IntKind renaming u64->C
set_option maxRecDepth 100000
set_option maxHeartbeats 16000000
namespace Go.Proofs.YteldjhhjnchdeaaGreatDoor
open Go.RowKit Go.Shelf
variable{D Q bs f q xs:List Nat}{K R0 V c c' d i k len m n over ro s wd x:Nat}
theorem Vs{o v:Nat}(h:o<f.length):(f.set o v).take (o+1)=f.take o++[v]:=by
 rw[Cg (by rw[Cq];exact h),List.getElem_set_self,List.take_set,CX (by rw[Al];omega)]
theorem Pv{b:Nat}:∀(c:List Nat) (o:Nat) (W:World) (a:List Nat),DX W b a->o+c.length<=a.length->DX (W.setCells b o (cellsOf C c)) b (a.take o++(c++a.drop (o+c.length)))
 |[],o,W,a,h,_=>by
  have e:a.take o++([]++a.drop (o+([]:List Nat).length))=a:=DQ
  rw[e];exact h
 |v::r,o,W,a,h,hl=>by
  rw[Am]at hl;have d:=Pv r (o+1) (W.setCell ⟨b,o,none⟩ (E C (v:Nat))) (a.set o v) (h.set o v) (by rw[Cq];omega);rw[Vs om,List.drop_set_of_lt om,Cf]at d;have e:o+1+r.length=o+(v::r).length:=by rw[Am];omega
  rw[e]at d;exact d
theorem Pw{b:Nat}:∀(a:List Value) (o:Nat) (W:World),W.grownBy (W.setCells b o a) (some b)
 |[],_,W=>YD W _
 |v::r,o,W=>Jh (JC W b o v) (Pw r (o+1) _)
theorem Px(ty:TypeId)(g n c:Nat)(a:List Nat)(W:World)(h:DX W g a)(k:n<=a.length):
 ∃W',(Builtin.clear_ #[61] ty #[B (some ⟨g,0,none⟩) n c]).run Tryz.prog W=.ok (.tuple #[]) W'/\DX W' g (List.replicate n 0++a.drop n)/\W.grownBy W' (some g):=by
 rcases AY n with b|b
 . subst b;refine⟨W,?_,?_,YD W _⟩
   . simp[Builtin.clear_,run_underlying Tryz.underlying61]
   . rw[List.replicate_zero,Ao,AE];exact h
 . have d:=Lib.run_clear_slice (P:=Tryz.prog) W 61 156 ty (E C 0) Tryz.underlying61 (λw=>by kernel_rfl) rfl rfl g 0 n c b
    (λj i=>by rw[A8,h.cell om];rfl) (λj _=>h.frozen _)
   have e:(List.replicate n (Value.int C 0))=cellsOf C (List.replicate n 0):=by simp[cellsOf]
   rw[e]at d;have f:=Pv (List.replicate n 0) 0 W a h (by rw[Au];omega);rw[CV,Ao,Au,A8]at f;exact⟨_,d,f,Pw _ _ _⟩
theorem Nx(B:Nat):∀(D:List Nat) (j d:Nat),j<D.length->val B (D.set j d)+B^j*D[j]?.getD 0=val B D+B^j*d
 |[],_,_,h=>by cases h
 |x::D,0,d,_=>by simp[val];omega
 |x::D,j+1,d,h=>by
  have a:=Nx B D j d (by simpa using h);simp only[List.set_cons_succ,val,Ae,AP];have e:B*val B (D.set j d)+B*(B^j*D[j]?.getD 0)=B*val B D+B*(B^j*d):=by rw[<-Ax,a,Ax]
  have b:B^j*B*D[j]?.getD 0=B*(B^j*D[j]?.getD 0):=by rw[Ar (B^j) B,Ay]
  have c:B^j*B*d=B*(B^j*d):=by rw[Ar (B^j) B,Ay]
  omega
theorem Py(B n:Nat):val B (List.replicate n 0)=0:=by
 induction n with
 |zero=>rfl
 |succ n a=>rw[C7,val,a];simp
def F3(a bs:List Nat)(i:Nat)(D:List Nat):Prop:=
 D.length=a.length+bs.length/\DT DR D/\val DR D=val DR (a.take i)*val DR bs
theorem F3.start(a bs:List Nat):F3 a bs 0 (List.replicate (a.length+bs.length) 0):=
 ⟨Au,λx b=>by rw[CF b];unfold DR;omega,by rw[Py];simp[val]⟩
theorem Pz{B:Nat}(b:0<B):∀ {D:List Nat},val B D=0->∀j:Nat,D[j]?.getD 0=0
 |[],_,j=>by simp
 |d::D,h,0=>by
  rw[J5]at h;show d=0;omega
 |d::D,h,j+1=>by
  rw[J5]at h;have a:B*val B D=0:=om
  have c:val B D=0:=by
   rcases Nat.mul_eq_zero.1 a with h|h
   . omega
   . exact h
  rw[Ae];exact Pz b c j
theorem Ny{B:Nat}(c:k<=D.length)(h:val B D<B^k):val B (D.drop k)=0:=by
 have e:val B D=val B (D.take k)+B^k*val B (D.drop k):=by
  have b:=val_append B (D.take k) (D.drop k);rw[Cn,Al,CC c]at b;exact b
 rcases AY (val B (D.drop k))with a|a
 . exact a
 . have:=Av (B^k) a;omega
theorem F3.step(h:F3 f bs i D)(v:DT DR f)(s:DT DR bs)(w:i<f.length)(o:wd=f[i]?.getD 0)(hq:Xz D bs i wd bs.length over q):
 F3 f bs (i+1) ((Dd D i bs.length q).set (i+bs.length) over):=by
 obtain⟨t,m,k⟩:=h;obtain⟨q1,q2,q3,e⟩:=hq;have r:val DR D<DR^(i+bs.length):=by
  rw[k,CG];have b:=Yi (v.take i);rw[Al,CC om]at b;have d:=Yi s;rcases AY (val DR bs)with g|g
  . rw[g,Cv];exact DO (Fl uo) (Fl uo)
  . exact Nat.mul_lt_mul'' b d
 have c:=Ny om r;have j:(Dd D i bs.length q).length=D.length:=JW q1 om;refine⟨by rw[Cq,j];exact t,?_,?_⟩
 . intro x a;rcases List.mem_or_eq_of_mem_set a with a|a
   . rw[Dd]at a;rcases C8.1 a with a|a
     . exact(m.take i) x a
     . rcases C8.1 a with a|a
       . exact q2 x a
       . exact(m.drop _) x a
   . rw[a];exact q3
 . have b:=Nx DR (Dd D i bs.length q) (i+bs.length) over (by rw[j];omega);have d:(Dd D i bs.length q)[i+bs.length]?.getD 0=0:=by
    rw[IB q1 om];have:=Pz uo c 0;rw[CL,Ci]at this;exact this
   rw[d,Cv,Ci]at b;rw[b];have p:val DR (Dd D i bs.length q)=val DR (D.take i)+DR^i*val DR q:=by
    rw[Dd,val_append,val_append,Al,CC om,c];simp
   have u:val DR D=val DR (D.take i)+DR^i*val DR ((D.drop i).take bs.length):=by
    have l:=val_append DR (D.take i) (D.drop i);rw[Cn,Al,CC om]at l;have n:=val_append DR ((D.drop i).take bs.length) ((D.drop i).drop bs.length);rw[Cn,FJ,c,Cv,Ci]at n;rw[l,n]
   rw[Ad (Aa _)]at e;rw[p,CG,Ay,CO,<-Ax,e,Ax,<-CO,<-u,k,Jq,AA,o,Ay,Ar (f[i]?.getD 0)]
theorem F3.fin(h:F3 f bs f.length D)(b:f=Jc DR m)(c:bs=Jc DR n):Jw D=Jc DR (m*n):=by
 obtain⟨_,d,a⟩:=h;rw[Ad (Aa _)]at a;rw[<-J9 Jf d,a,b,c,Jo Jf,Jo Jf]
theorem Xz.tail(h:Xz (D++f) bs i wd len over q)(e:i+len<=D.length):Xz D bs i wd len over q:=by
 obtain⟨b,c,d,a⟩:=h;refine⟨b,c,d,?_⟩;rw[List.drop_append_of_le_length om,AU (by rw[AV];omega)]at a;exact a
theorem P0(a:i+len<=D.length):Dd (D++f) i len q=Dd D i len q++f:=by
 rw[Dd,Dd,AU om,List.drop_append_of_le_length a];simp
theorem Vt(g rl rc:Nat)(c:List Nat)(a:Option Addr)(la ca:Nat)(b:Option Addr)(lb cb m n:Nat)(w:World)
(f:DX w g c)(an:DT DR c)(P:la+lb<=c.length)(ah:la+lb<=rc)(aj:rc<=9223372036854775807)(ak:la+lb<=1099511627776)
(ra:Row C w (B a la ca) (Jc DR m))(I:Row C w (B b lb cb) (Jc DR n))(W:∀p,a=some p->0<la->p.block≠g)(V:∀p,b=some p->0<lb->p.block≠g):
 Calls Tryz.prog 141 #[B (some ⟨g,0,none⟩) rl rc,B a la ca,B b lb cb] w λe x=>∃u,e=.returned u/\(UN x u (m*n)/\w.grownBy x (some g))/\(u=B none 0 0\/∃l,u=B (some ⟨g,0,none⟩) l rc)/\∃y,DX x g y/\DT DR y/\y.length=c.length:=by
 obtain⟨J,aq,ay,bc,M⟩:=Ju ra;have A:=(Ju I).1;have L:=Jp Jf m;have xb:=Jp Jf n;have X:=Ja (λD (h:F3 (Jc DR m) (Jc DR n) (Jc DR m).length D)=>h.fin (m:=m) (n:=n) rfl rfl);have Q:=Ja I;generalize Jc DR m=r at *;generalize Jc DR n=k at *;obtain⟨W1,ai,hA1,Y⟩:=Px 0 g (la+lb) rc c w f P;have F:=Ja (F3.start r k);rw[<-J,<-A]at F;have S:DT DR (c.drop (la+lb)):=an.drop _;have Qo:(c.drop (la+lb)).length=c.length-(la+lb):=AV;obtain⟨N,K⟩:∃N,N=c.length:=⟨_,rfl⟩;rw[<-K]at Qo P ⊢;generalize c.drop (la+lb)=d at *;obtain⟨O,t,Qh,Qk,v⟩:=Gi M J A W V;clear M J A ra I K f W V;go_enter Tryz.func141,Tryz.ntmps141
 go_wp2;go_loopw [19] (λH wr=>∃(i:Nat) (D:List Nat),H=E .i64 i/\i<=la/\Hid (F3 r k i D)/\DX wr g (D++d)/\w.grownBy wr (some g))
  (λH _=>la-(intOf H).toNat)
 case atStart=>exact⟨0,_,rfl,AK _,F.o,hA1,Y⟩
 case round=>
  clear F hA1 Y ai;obtain⟨i,D,rfl,hi,o,f,s⟩:=hrel;have Qm:=o.o.1;rw[<-t.o,<-Qh.o]at Qm;by_cases ae:i<la
  . obtain⟨ab,ao,rfl,am,R⟩:=O.o i ae;have aw:wr.cell? ⟨ab,ao+i,none⟩=some (E C (r[i]?.getD 0:Nat)):=(BO (w:=w) (s.block ab am (λe=>Qk.o _ rfl om (by cases e;rfl)))).trans R;have hw:=L.getD uo i;have Qg:=Ja (λover q (h:Xz D k i (r[i]?.getD 0) k.length over q)=>o.o.step L xb (by rw[<-t.o];exact ae) rfl h);have Ql:Row C wr (B b lb cb) k:=Row.grown Q.o s v.o;have G:DT DR (D++d):=o.o.2.1.append S;rw[<-Qh.o]at Qg;generalize r[i]?.getD 0=wd at *;clear R;go_wp2_with(go_at_call 163;refine(Nr g i lb _ (D++d) b cb k wd _ f G (by rw[Ai];omega) om Ql xb v.o hw).mono ?_;rintro e w5 ⟨over,q,rfl,hq,hA5,af⟩;have Qi:=JW hq.1 (xs:=D++d) (ro:=i) (by rw[Ai];omega);have az:=hA5.cell (j:=i+lb) (by rw[Qi,Ai];omega);have ap:=hA5.frozen (i+lb);have T:=Ja hq;clear hq Qi)
    have U:=hA5.set (i+lb) over;rw[P0 om,FL _ _ (by rw[JW T.o.1 om];omega)]at U;exact⟨⟨i+1,(Dd D i lb q).set (i+lb) over,DQ,om,Qg.o over q (T.o.tail om),U,Jh (Jh s af) (JC _ _ _ _)⟩,by simp[intOf];omega⟩
  . obtain rfl:i=la:=om
    have Qc:Row C wr (B (some ⟨g,0,none⟩) (i+lb) rc) D:=by
     have h1:=f.row 0 (i+lb) rc (by rw[Ai];omega) ah aj ak;rwa[AE,AU om,Ad om]at h1
    have Qn:=Ja (X.o D (by rw[<-t.o];exact o.o));have G:DT DR (D++d):=o.o.2.1.append S;clear o X O Q Qk v;go_wp2_with(go_at_call 128;refine(Lf _ _ _ D _ Qc).mono ?_;rintro e w5 ⟨u,rfl,⟨z,Z⟩,ad⟩;rw[Qn.o]at z ad;obtain⟨ua,uc,rfl⟩:=UN.form z)
    go_ret;refine⟨_,rfl,⟨z,Jh s (J1 Z _)⟩,?_,D++d,f.below Z,G,by rw[Ai];omega⟩;rcases ad with⟨e,_⟩|e
    . exact Or.inl e
    . exact Or.inr ⟨_,e⟩
theorem F3.fing(h:F3 f bs f.length D):Jw D=Jc DR (val DR f*val DR bs):=by
 obtain⟨_,b,a⟩:=h;rw[Ad (Aa _)]at a;rw[<-J9 Jf b,a]
theorem Vu(g rl rc:Nat)(f:List Nat)(a:Option Addr)(la ca:Nat)(b:Option Addr)(lb cb:Nat)(c d:List Nat)(w:World)(J:DT DR c)(xb:DT DR d)
(m:DX w g f)(am:DT DR f)(N:la+lb<=f.length)(af:la+lb<=rc)(ai:rc<=9223372036854775807)(aj:la+lb<=1099511627776)
(ra:Row C w (B a la ca) c)(G:Row C w (B b lb cb) d)(U:∀p,a=some p->0<la->p.block≠g)(T:∀p,b=some p->0<lb->p.block≠g):
 Calls Tryz.prog 141 #[B (some ⟨g,0,none⟩) rl rc,B a la ca,B b lb cb] w λe t=>∃u,e=.returned u/\(UN t u (val DR c*val DR d)/\w.grownBy t (some g))/\(u=B none 0 0\/∃l,u=B (some ⟨g,0,none⟩) l rc)/\∃v,DX t g v/\DT DR v/\v.length=f.length:=by
 obtain⟨H,ap,aw,az,K⟩:=Ju ra;have y:=(Ju G).1;have V:=Ja (λD (h:F3 c d c.length D)=>h.fing);have O:=Ja G;obtain⟨W1,ah,hA1,W⟩:=Px 0 g (la+lb) rc f w m N;have z:=Ja (F3.start c d);rw[<-H,<-y]at z;have Q:DT DR (f.drop (la+lb)):=am.drop _;have Qo:(f.drop (la+lb)).length=f.length-(la+lb):=AV;obtain⟨L,I⟩:∃L,L=f.length:=⟨_,rfl⟩;rw[<-I]at Qo N ⊢;generalize f.drop (la+lb)=k at *;obtain⟨M,r,Qh,Qk,s⟩:=Gi K H y U T;clear K H y ra G I m U T;go_enter Tryz.func141,Tryz.ntmps141
 go_wp2;go_loopw [19] (λF wr=>∃(i:Nat) (D:List Nat),F=E .i64 i/\i<=la/\Hid (F3 c d i D)/\DX wr g (D++k)/\w.grownBy wr (some g))
  (λF _=>la-(intOf F).toNat)
 case atStart=>exact⟨0,_,rfl,AK _,z.o,hA1,W⟩
 case round=>
  clear z hA1 W ah;obtain⟨i,D,rfl,hi,n,m,o⟩:=hrel;have Qm:=n.o.1;rw[<-r.o,<-Qh.o]at Qm;by_cases ad:i<la
  . obtain⟨Y,ao,rfl,ak,P⟩:=M.o i ad;have aq:wr.cell? ⟨Y,ao+i,none⟩=some (E C (c[i]?.getD 0:Nat)):=(BO (w:=w) (o.block Y ak (λe=>Qk.o _ rfl om (by cases e;rfl)))).trans P;have hw:=J.getD uo i;have Qg:=Ja (λover q (h:Xz D d i (c[i]?.getD 0) d.length over q)=>n.o.step J xb (by rw[<-r.o];exact ad) rfl h);have Ql:Row C wr (B b lb cb) d:=Row.grown O.o o s.o;have A:DT DR (D++k):=n.o.2.1.append Q;rw[<-Qh.o]at Qg;generalize c[i]?.getD 0=wd at *;clear P;go_wp2_with(go_at_call 163;refine(Nr g i lb _ (D++k) b cb d wd _ m A (by rw[Ai];omega) om Ql xb s.o hw).mono ?_;rintro e w5 ⟨over,q,rfl,hq,hA5,ae⟩;have Qi:=JW hq.1 (xs:=D++k) (ro:=i) (by rw[Ai];omega);have ay:=hA5.cell (j:=i+lb) (by rw[Qi,Ai];omega);have an:=hA5.frozen (i+lb);have R:=Ja hq;clear hq Qi)
    have S:=hA5.set (i+lb) over;rw[P0 om,FL _ _ (by rw[JW R.o.1 om];omega)]at S;exact⟨⟨i+1,(Dd D i lb q).set (i+lb) over,DQ,om,Qg.o over q (R.o.tail om),S,Jh (Jh o ae) (JC _ _ _ _)⟩,by simp[intOf];omega⟩
  . obtain rfl:i=la:=om
    have Qc:Row C wr (B (some ⟨g,0,none⟩) (i+lb) rc) D:=by
     have h1:=m.row 0 (i+lb) rc (by rw[Ai];omega) af ai aj;rwa[AE,AU om,Ad om]at h1
    have Qn:=Ja (V.o D (by rw[<-r.o];exact n.o));have A:DT DR (D++k):=n.o.2.1.append Q;clear n V M O Qk s;go_wp2_with(go_at_call 128;refine(Lf _ _ _ D _ Qc).mono ?_;rintro e w5 ⟨u,rfl,⟨x,X⟩,Z⟩;rw[Qn.o]at x Z;obtain⟨ua,uc,rfl⟩:=UN.form x)
    go_ret;refine⟨_,rfl,⟨x,Jh o (J1 X _)⟩,?_,D++k,m.below X,A,by rw[Ai];omega⟩;rcases Z with⟨e,_⟩|e
    . exact Or.inl e
    . exact Or.inr ⟨_,e⟩
theorem IE:DR=2^64:=by unfold DR;rfl
def Hp(xs bs:List Nat)(ro wd i over c:Nat)(q:List Nat):Prop:=
 q.length=i/\DT DR q/\over<DR/\c<=1/\val DR q+val DR (bs.take i)*wd=val DR ((xs.drop ro).take i)+DR^i*(over+c)
theorem Hp.start(xs bs:List Nat)(ro wd:Nat):Hp xs bs ro wd 0 0 0 []:=⟨rfl,DT.nil _,by unfold DR;omega,om,by simp[val]⟩
theorem Hp.step(h:Hp xs bs ro wd i over c q)(d a c':Nat)(g:d<DR)(e:a<DR)(j:c'<=1)(f:d+bs[i]?.getD 0*wd+over+c=xs[ro+i]?.getD 0+DR*(a+c')):Hp xs bs ro wd (i+1) a c' (q++[d]):=by
 obtain⟨b,k,o,l,m⟩:=h;refine⟨by simp;omega,k.append (DT.cons g (DT.nil _)),e,j,?_⟩;rw[YC,b,Jq,Jq,CL,AA,AP,Ay,Ay];have n:DR^i*d+DR^i*(bs[i]?.getD 0*wd)+DR^i*(over+c)=DR^i*(xs[ro+i]?.getD 0)+DR^i*(DR*(a+c')):=by
  rw[<-Ax,<-Ax,<-CO,f,Ax]
 omega
theorem Vv{y r:Nat}(b:x<DR)(a:y<DR)(f:r<DR)(d:over<DR)(e:c<=1):
 XJ x y+Y3 (Yp x y) over 0<DR/\Gf r (Yx (Yp x y) over 0) c<DR/\GW r (Yx (Yp x y) over 0) c<=1/\Yx (Yp x y) over 0<DR/\
 Gf r (Yx (Yp x y) over 0) c+x*y+over+c=r+DR*(XJ x y+Y3 (Yp x y) over 0+GW r (Yx (Yp x y) over 0) c):=by
 have hp:=Pm b a;unfold XJ Yp Y3 Yx Gf GW;generalize x*y=p at *;unfold DR at *;split<;>omega
theorem Hp.last(h:Hp xs bs ro wd n over c q)(j:bs.length=n)(e:d<DR)(b:d+over+c=xs[ro+n]?.getD 0+DR*c'):
 (q++[d]).length=n+1/\DT DR (q++[d])/\val DR (q++[d])+val DR bs*wd=val DR ((xs.drop ro).take (n+1))+DR^(n+1)*c':=by
 obtain⟨a,g,l,i,f⟩:=h;refine⟨by simp;omega,g.append (DT.cons e (DT.nil _)),?_⟩;rw[Ad om]at f;rw[YC,a,Jq,CL,AP,Ay];have k:DR^n*d+DR^n*(over+c)=DR^n*(xs[ro+n]?.getD 0)+DR^n*(DR*c'):=by
  rw[<-Ax,<-CO,b,Ax]
 omega
def EW(x s:Nat):Nat:=x*2^s%DR
def EL(x s:Nat):Nat:=x/2^s
theorem Ks(hs:s<=64):2^s*2^(64-s)=DR:=by rw[<-CG,show s+(64-s)=64 from by omega];rfl
theorem Kt(hs:s<=64):EW x s=x%2^(64-s)*2^s:=by
 unfold EW;rw[<-Ks hs,Ar (2^s),Nat.mul_mod_mul_right]
theorem Vw(hs:s<=63)(j:x<DR)(g:c<2^s):c ||| EW x s=c+EW x s/\c+EW x s<DR/\EL x (64-s)<2^s/\c+EW x s+DR*EL x (64-s)=c+x*2^s:=by
 rw[Kt om];have hp:=Ks (s:=s) om;have f:=Cc x (2^(64-s));have e:=A7 x (Ce (64-s));unfold EL;have d:c ||| x%2^(64-s)*2^s=c+x%2^(64-s)*2^s:=by
  rw[Nat.or_comm,Ar,<-Fi g,CZ]
 refine⟨d,?_,?_,?_⟩
 . have i:(x%2^(64-s)+1)*2^s<=2^(64-s)*2^s:=Ak _ e;rw[AA,Cw,Ar (2^(64-s)),hp]at i;omega
 . rw[AX (Ce _),hp];exact j
 . rw[<-hp];generalize x/2^(64-s)=a at *;generalize x%2^(64-s)=b at *;generalize 2^(64-s)=E at *;generalize 2^s=F at *;rw[<-f];grind
def Ij(a:List Nat)(s i:Nat)(q:List Nat)(c:Nat):Prop:=
 q.length=i/\DT DR q/\c<2^s/\val DR q+DR^i*c=val DR (a.take i)*2^s
theorem Ij.start(a:List Nat)(s:Nat):Ij a s 0 [] 0:=⟨rfl,DT.nil _,Ce s,by simp[val]⟩
theorem Ij.step(h:Ij f s i q c)(e:d<DR)(g:c'<2^s)(b:d+DR*c'=c+f[i]?.getD 0*2^s):Ij f s (i+1) (q++[d]) c':=by
 obtain⟨a,j,m,k⟩:=h;refine⟨by simp;omega,j.append (DT.cons e (DT.nil _)),g,?_⟩;rw[YC,a,Jq,AA,AP,Ay,Ay];have l:DR^i*d+DR^i*(DR*c')=DR^i*c+DR^i*(f[i]?.getD 0*2^s):=by
  rw[<-Ax,b,Ax]
 omega
theorem Vx{P:Nat}(hs:s<=63)(i:x<DR):
 EW (P%2^s) (64-s) ||| EL x s=EW (P%2^s) (64-s)+EL x s/\EW (P%2^s) (64-s)+EL x s<DR/\EW x (64-s)=EW ((x+DR*P)%2^s) (64-s)/\
 (x+DR*P)/2^s=EW (P%2^s) (64-s)+EL x s+DR*(P/2^s):=by
 have hp:=Ks (s:=s) om;rw[Kt om,Kt om,Kt om,show 64-(64-s)=s from by omega,Nat.mod_mod];have c:EL x s<2^(64-s):=by
  unfold EL;rw[AX (Ce _),Ar,hp];exact i
 have f:=A7 P (Ce s);have d:=Cc P (2^s);refine⟨?_,?_,?_,?_⟩
 . rw[Ar,<-Fi c]
 . have g:(P%2^s+1)*2^(64-s)<=2^s*2^(64-s):=Ak _ f;rw[AA,Cw,hp]at g;omega
 . congr 1;rw[<-hp,Ay,CR,Nat.mod_mod]
 . unfold EL;have e:x+DR*P=x+2^s*(P%2^s*2^(64-s)+DR*(P/2^s)):=by
    rw[<-hp];generalize P/2^s=a at *;generalize P%2^s=b at *;generalize 2^(64-s)=E at *;generalize 2^s=F at *;rw[<-d];grind
   rw[e,Fd _ _ (Ce _)];omega
theorem Vy(B:Nat)(ds:List Nat)(k:Nat)(h:k<ds.length):val B (ds.drop k)=ds[k]?.getD 0+B*val B (ds.drop (k+1)):=by
 rw[A0 h,J5,Ah h];rfl
def GX(R0 V n K k:Nat)(D Q:List Nat):Prop:=
 D.length=K+n/\DT DR D/\Q.length=K/\DT DR Q/\val DR D<V*DR^k/\R0=val DR D+V*val DR Q/\∀j,j<k->Q[j]?.getD 0=0
theorem GX.win(h:GX R0 V n K (k+1) D Q)(m:k<K)(l:V<DR^n):
 val DR ((D.drop k).take (n+1))<V*DR/\val DR D=val DR (D.take k)+DR^k*val DR ((D.drop k).take (n+1))/\val DR (D.drop (k+(n+1)))=0:=by
 obtain⟨g,o,q,j,f,p,i⟩:=h;have d:val DR D<DR^(k+(n+1)):=by
  have e:DR^(k+(n+1))=DR^n*DR^(k+1):=by rw[<-CG];congr 1;omega
  rw[e];exact AC f (Ak _ om)
 have b:=Ny om d;have a:=val_append DR (D.take k) (D.drop k);rw[Cn,Al,CC om]at a;have c:=val_append DR ((D.drop k).take (n+1)) ((D.drop k).drop (n+1));rw[Cn,FJ,b,Cv,Ci]at c;rw[c]at a;refine⟨?_,a,b⟩;rcases AO (val DR ((D.drop k).take (n+1))) (V*DR)with h|h
 . exact h
 . exfalso
   have:=Av (DR^k) h;have e:DR^k*(V*DR)=V*DR^(k+1):=by rw[AP];grind
   omega
theorem GX.step(h:GX R0 V n K (k+1) D Q)(y:k<K)(w:V<DR^n)(i:q.length=n+1)(hq:DT DR q)
(e:val DR q=val DR ((D.drop k).take (n+1))%V)(g:0<V):
 GX R0 V n K k (Dd D k (n+1) q) (Q.set k (val DR ((D.drop k).take (n+1))/V)):=by
 obtain⟨u,s,o⟩:=h.win y w;obtain⟨t,b,z,v,G,r,f⟩:=h;generalize F:val DR ((D.drop k).take (n+1))=W at *;have l:=Cc W V;have p:=A7 W g;have m:W/V<DR:=by rw[AX g,Ar];exact u
 have c:val DR (Dd D k (n+1) q)=val DR (D.take k)+DR^k*val DR q:=by
  rw[Dd,val_append,val_append,Al,CC om,o];simp
 have d:=Nx DR Q k (W/V) om;rw[f k om,Cv,Ci]at d;have H:val DR (D.take k)<DR^k:=by
  have:=Yi (b.take k);rwa[Al,CC om]at this
 refine⟨by rw[JW i om];exact t,?_,by rw[Cq];exact z,?_,?_,?_,?_⟩
 . intro x a;rw[Dd]at a;rcases C8.1 a with a|a
   . exact(b.take k) x a
   . rcases C8.1 a with a|a
     . exact hq x a
     . exact(b.drop _) x a
 . intro x a;rcases List.mem_or_eq_of_mem_set a with a|a
   . exact v x a
   . rw[a];exact m
 . rw[c,e];have:=Av (DR^k) (show W%V+1<=V from p);rw[Ax,Fy,Ar _ V]at this;omega
 . rw[c,d,e,r,s,Ax];have:DR^k*W=DR^k*(W%V)+V*(DR^k*(W/V)):=by
    conv=>lhs;rw[<-l]
    grind
   omega
 . intro j A;rw[AW om];exact f j om
theorem GX.start(b:D.length=K+n)(d:DT DR D)(a:val DR D=R0)(f:R0<V*DR^K):GX R0 V n K K D (List.replicate K 0):=
 ⟨b,d,Au,λx e=>by rw[CF e];unfold DR;omega,by rw[a];exact f,by rw[Py,Cv,a,Ci],λj _=>by
  by_cases c:j<K
  . rw[List.getElem?_replicate_of_lt c];rfl
  . rw[At (by rw[Au];omega)];rfl⟩
theorem GX.fin{b:Nat}(h:GX R0 V n K 0 D Q)(f:R0=m*2^s)(e:V=b*2^s):Jw Q=Jc DR (m/b)/\val DR D=m%b*2^s:=by
 obtain⟨j,l,o,i,a,c,k⟩:=h;rw[Nat.pow_zero,Fy]at a;have d:R0/V=val DR Q:=by rw[c,Fd _ _ om,Cb a,A8]
 have g:R0%V=val DR D:=by rw[c,CR,Cm a]
 rw[f,e,Nat.mul_div_mul_right _ _ (Ce s)]at d;rw[f,e,Nat.mul_mod_mul_right]at g;exact⟨by rw[<-J9 Jf i,<-d],g.symm⟩
theorem Vz(f ro len cap:Nat)(xs:List Nat)(a:Option Addr)(cb:Nat)(bs:List Nat)(wd:Nat)(w:World)
(N:DX w f xs)(J:DT DR xs)(ad:ro+(len+1)<=xs.length)(Y:len+1<=cap)(H:Row C w (B a len cb) bs)(T:DT DR bs)(D:∀p,a=some p->0<len->p.block≠f)(A:wd<DR):
 Calls Tryz.prog 187 #[B (some ⟨f,ro,none⟩) (len+1) cap,B a len cb,E C (wd:Nat)] w λe y=>
  ∃c q,e=.returned (E C (c:Nat))/\(c<=1/\q.length=len+1/\DT DR q/\val DR q+val DR bs*wd=val DR ((xs.drop ro).take (len+1))+DR^(len+1)*c)/\DX y f (Dd xs ro (len+1) q)/\w.grownBy y (some f):=by
 obtain⟨hl,W,ae,X,j⟩:=Ju H;obtain⟨U,Q,L⟩:=Dm hl j D;clear j hl D H;go_enter Tryz.func187,Tryz.ntmps187
 go_wp2;go_loopw [7,8,16] (λov K v wr=>∃(i over c:Nat) (q:List Nat),v=E .i64 i/\ov=E C (over:Nat)/\K=E C (c:Nat)/\i<=len/\over<DR/\c<=1/\Hid (Hp xs bs ro wd i over c q)/\DX wr f (Dd xs ro i q)/\w.grownBy wr (some f))
  (λ_ _ v _=>len-(intOf v).toNat)
 case atStart=>exact⟨0,0,0,[],rfl,rfl,rfl,AK _,by unfold DR;omega,om,Hp.start _ _ _ _,by rw[mid_zero];exact N,YD _ _⟩
 case round=>
  obtain⟨i,over,c,q,rfl,rfl,rfl,hi,G,m,n,g,s⟩:=hrel;by_cases S:i<len
  . obtain⟨b,off,rfl,P,j⟩:=Q.o i S;have M:=L.o _ rfl om;have hq:=n.o.1;have af:wr.cell? ⟨b,off+i,none⟩=some (E C (bs[i]?.getD 0:Nat)):=(BO (w:=w) (s.block b P (λe=>M (by cases e;rfl)))).trans j;have O:wr.cell? ⟨f,ro+i,none⟩=some (E C (xs[ro+i]?.getD 0:Nat)):=by rw[<-IB hq om];exact g.cell (by rw[JW hq om];omega)
    have V:=g.frozen (ro+i);have I:=T.getD uo i;have u:=J.getD uo (ro+i);obtain⟨l,z,o,s4,F⟩:=Vv I A u G m;have k:=Ja (n.o.step _ _ _ z l o F);have t:=Ja (show ∀d,(Dd xs ro i q).set (ro+i) d=Dd xs ro (i+1) (q++[d])from λd=>Ie hq om d);clear j hq F;generalize bs[i]?.getD 0=x at *;generalize xs[ro+i]?.getD 0=r at *;have Z:=Lp (Yp x wd) over;have R:=Lq r (Yx (Yp x wd) over 0) c m;unfold DR at l;go_wp2_with(first
     |(go_at_call 183;refine(IC _ _ I A _).mono ?_;rintro e y ⟨rfl,rfl⟩))
    exact⟨⟨i+1,XJ x wd+Y3 (Yp x wd) over 0,GW r (Yx (Yp x wd) over 0) c,q++[Gf r (Yx (Yp x wd) over 0) c],DQ,DQ,rfl,om,k.o.2.2.1,k.o.2.2.2.1,k,by rw[<-t.o];exact g.set _ _,Jh s (JC _ _ _ _)⟩,by simp[intOf];omega⟩
  . obtain rfl:i=len:=om
    have hq:=n.o.1;have O:wr.cell? ⟨f,ro+i,none⟩=some (E C (xs[ro+i]?.getD 0:Nat)):=by rw[<-IB hq om];exact g.cell (by rw[JW hq om];omega)
    have V:=g.frozen (ro+i);have u:=J.getD uo (ro+i);obtain⟨l,z,o⟩:=Nk u G m;have k:=Ja (n.o.last U.o.symm l o);have t:=Ja (show ∀d,(Dd xs ro i q).set (ro+i) d=Dd xs ro (i+1) (q++[d])from λd=>Ie hq om d);clear hq o;generalize xs[ro+i]?.getD 0=r at *;have R:=Lq r over c m;go_wp2;go_ret;exact⟨GW r over c,_,rfl,⟨z,k.o⟩,by rw[<-t.o];exact g.set _ _,Jh s (JC _ _ _ _)⟩
