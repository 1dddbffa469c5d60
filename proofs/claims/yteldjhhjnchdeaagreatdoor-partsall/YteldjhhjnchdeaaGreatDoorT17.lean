import Derived.Test.YteldjhhjnchdeaaGreatDoorT10
import Derived.Test.YteldjhhjnchdeaaGreatDoorT09
set_option linter.all false
open Go.Value renaming slice->B,int->C
set_option maxRecDepth 99999
set_option maxHeartbeats 0
namespace Go.Proofs.YteldjhhjnchdeaaGreatDoor
open List renaming replicate->kT
open Proofs.Tryz
open Go.RowKit Go.Shelf
variable{D Q bs f q xs:kQ}{K R0 V c c' d i k len m n over ro s wd x:Nat}
theorem ZH{o v:Nat}(h:o<f.length):(f.set o v).take (o+1)=f.take o++[v]:=by
 grind[A0,List.take_set,Ah]
def QO{b:Nat}:∀(c:kQ) (o:Nat) (W:World) (a:kQ),DP W b a->o+c.length<=a.length->DP (W.setCells b o (cellsOf .u64 c)) b (a.take o++(c++a.drop (o+c.length)))
 |[],o,W,a,h,_=>by
  have e:a.take o++([]++a.drop (o+([]:kQ).length))=a:=DK
  rw[e];exact h
 |v::r,o,W,a,h,hl=>by
  rw[Ak]at hl;have d:=QO r (o+1) (W.setCell ⟨b,o,none⟩ (C .u64 (v:Nat))) (a.set o v) (h.set o v) DX;rw[ZH O,List.drop_set_of_lt O,Ce]at d;have e:o+1+r.length=o+(v::r).length:=by rw[Ak];omega
  rw[e]at d;exact d
theorem QP{b:Nat}:∀(a:List Value) (o:Nat) (W:World),W.grownBy (W.setCells b o a) (some b)
 |[],_,W=>YK W _
 |v::r,o,W=>Jg (JE W b o v) (QP r (o+1) _)
theorem QQ(ty:TypeId)(g n c:Nat)(a:kQ)(W:World)(h:DP W g a)(k:n<=a.length):
 ∃W',(Builtin.clear_ #[61] ty #[B (some ⟨g,0,none⟩) n c]).run Tryz.prog W=.ok (.tuple #[]) W'/\DP W' g (kT n 0++a.drop n)/\W.grownBy W' (some g):=by
 rcases AW n with b|b
 . subst b;refine⟨W,?_,?_,YK W _⟩
   . simp[Builtin.clear_,run_underlying underlying61]
   grind
 . have d:=Lib.run_clear_slice (P:=Tryz.prog) W 61 156 ty (C .u64 0) underlying61 (λw=>by kernel_rfl) J J g 0 n c b
    (λj i=>by rw[Ct,h.cell O];rfl) λj _=>h.frozen _
   have e:(kT n (Value.int .u64 0))=cellsOf .u64 (kT n 0):=by simp[cellsOf]
   rw[e]at d;have f:=QO (kT n 0) 0 W a h DX;grind[QP]
theorem N2(B:Nat):∀(D:kQ) (j d:Nat),j<D.length->val B (D.set j d)+B^j*D[j]?.getD 0=val B D+B^j*d
 |[],_,_,h=>by cases h
 |x::D,0,d,_=>by simp[val];omega
 |x::D,j+1,d,h=>by
  have a:=N2 B D j d (by simpa using h);grind[val]
def QR(B n:Nat):val B (kT n 0)=0:=by
 induction n with
 |zero=>rfl
 |succ n a=>rw[CP,val,a];simp
def Eo(a bs:kQ)(i:Nat)(D:kQ):Prop:=
 D.length=a.length+bs.length/\DM Z D/\val Z D=val Z (a.take i)*val Z bs
theorem Eo.start(a bs:kQ):Eo a bs 0 (kT (a.length+bs.length) 0):=
 ⟨AE,λx b=>by grind[Z],by rw[QR];simp[val]⟩
def QS{B:Nat}(c:0<B):∀ {D:kQ},val B D=0->∀j:Nat,D[j]?.getD 0=0
 |[],_,j=>by simp
 |d::D,h,0=>by
  rw[Yc]at h;show d=0;omega
 |d::D,h,j+1=>by
  rw[Yc]at h;have a:B*val B D=0:=O
  have b:val B D=0:=by
   rcases Nat.mul_eq_zero.1 a with h|h
   . omega
   . exact h
  rw[AD];exact QS c b j
def N3{B:Nat}(c:k<=D.length)(h:val B D<B^k):val B (D.drop k)=0:=by
 have e:val B D=val B (D.take k)+B^k*val B (D.drop k):=by
  have b:=val_append B (D.take k) (D.drop k);rw[A8,Ah,CQ c]at b;exact b
 rcases AW (val B (D.drop k))with a|a
 . exact a
 . have:=Ai (B^k) a;omega
theorem Eo.step(h:Eo f bs i D)(p:DM Z f)(o:DM Z bs)(u:i<f.length)(v:wd=f[i]?.getD 0)(hq:XK D bs i wd bs.length over q):
 Eo f bs (i+1) ((DY D i bs.length q).set (i+bs.length) over):=by
 obtain⟨t,k,n⟩:=h;obtain⟨q1,q2,q3,w⟩:=hq;have m:val Z D<Z^(i+bs.length):=by
  rw[n,CK];have b:=Yl (p.take i);rw[Ah,CQ O]at b;have c:=Yl o;rcases AW (val Z bs)with j|j
  . rw[j,Cr];exact DI (CL uo) (CL uo)
  . exact Nat.mul_lt_mul'' b c
 have d:=N3 O m;have l:(DY D i bs.length q).length=D.length:=J5 q1 O;refine⟨DX,?_,?_⟩
 . intro x a;rcases List.mem_or_eq_of_mem_set a with a|a
   . rw[DY]at a;rcases CA.1 a with a|a
     . exact(k.take i) x a
     . rcases CA.1 a with a|a
       . exact q2 x a
       . exact(k.drop _) x a
   . rw[a];exact q3
 . have b:=N2 Z (DY D i bs.length q) (i+bs.length) over (by rw[l];omega);have c:(DY D i bs.length q)[i+bs.length]?.getD 0=0:=by
    rw[Hv q1 O];have:=QS uo d 0;rw[List.getElem?_drop,Cb]at this;exact this
   rw[c,Cr,Cb]at b;rw[b];have r:val Z (DY D i bs.length q)=val Z (D.take i)+Z^i*val Z q:=by
    rw[DY,val_append,val_append,Ah,CQ O,d];simp
   have s:val Z D=val Z (D.take i)+Z^i*val Z ((D.drop i).take bs.length):=by
    have e:=val_append Z (D.take i) (D.drop i);rw[A8,Ah,CQ O]at e;have g:=val_append Z ((D.drop i).take bs.length) ((D.drop i).drop bs.length);rw[A8,Fx,d,Cr,Cb]at g;rw[e,g]
   grind[Jr]
theorem Eo.fin(h:Eo f bs f.length D)(c:f=Jc Z m)(d:bs=Jc Z n):Jz D=Jc Z (m*n):=by
 obtain⟨_,a,b⟩:=h;grind[J6,Je,Jp]
theorem XK.tail(h:XK (D++f) bs i wd len over q)(e:i+len<=D.length):XK D bs i wd len over q:=by
 obtain⟨a,b,c,d⟩:=h;refine⟨a,b,c,?_⟩;grind
theorem QT(a:i+len<=D.length):DY (D++f) i len q=DY D i len q++f:=by
 grind[DY]
def ZI(g rl rc:Nat)(c:kQ)(a:kR)(la ca:Nat)(b:kR)(lb cb m n:Nat)(w:World)
(f:DP w g c)(bf:DM Z c)(hz:la+lb<=c.length)(ap:la+lb<=rc)(bc:rc<=9223372036854775807)(az:la+lb<=1099511627776)
(ra:Row .u64 w (B a la ca) (Jc Z m))(k:Row .u64 w (B b lb cb) (Jc Z n))(ak:∀p,a=some p->0<la->p.block≠g)(am:∀p,b=some p->0<lb->p.block≠g):
 Calls Tryz.prog 141 #[B (some ⟨g,0,none⟩) rl rc,B a la ca,B b lb cb] w λe H=>∃u,e=.returned u/\(UN H u (m*n)/\w.grownBy H (some g))/\(u=B none 0 0\/∃l,u=B (some ⟨g,0,none⟩) l rc)/\∃I,DP H g I/\DM Z I/\I.length=c.length:=by
 obtain⟨E,bg,bn,bm,ah⟩:=Js ra;have x:=(Js k).1;have bh:=(Js k).2.1;have bt:=(Js k).2.2.1;have xa:=Jo Je m;have xb:=Jo Je n;have M:=Y λD (h:Eo (Jc Z m) (Jc Z n) (Jc Z m).length D)=>h.fin (m:=m) (n:=n) J J;have L:=Y k;generalize Jc Z m=t at *;generalize Jc Z n=o at *;obtain⟨W1,aq,hA1,W⟩:=QQ 0 g (la+lb) rc c w f hz;have v:=Y (Eo.start t o);rw[<-E,<-x]at v;have R:DM Z (c.drop (la+lb)):=bf.drop _;have Ql:(c.drop (la+lb)).length=c.length-(la+lb):=Cm;obtain⟨V,X⟩:∃V,V=c.length:=⟨_,J⟩;rw[<-X]at Ql hz ⊢;generalize c.drop (la+lb)=s at *;obtain⟨K,z,Q,T,A⟩:=GL ah E x ak am;clear ah E x ra k X f ak am;go_enter func141,ntmps141
 go_wp2;go_loopw [19] (λG wr=>∃(i:Nat) (D:kQ),G=C .i64 i/\i<=la/\Hid (Eo t o i D)/\DP wr g (D++s)/\w.grownBy wr (some g))
  (λG _=>la-(intOf G).toNat)
 case atStart=>exact⟨0,_,J,As _,v.o,hA1,W⟩
 case round=>
  clear v hA1 W aq;obtain⟨i,D,rfl,hi,d,f,r⟩:=hrel;have Qn:=d.o.1;rw[<-z.o,<-Q.o]at Qn;by_cases aj:i<la
  . obtain⟨ab,ao,rfl,an,ae⟩:=K.o i aj;have bj:=(BR (w:=w) (r.block ab an λe=>T.o _ J O (by cases e;rfl))).trans ae;have hw:=xa.getD uo i;have U:=Y λover q (h:XK D o i (t[i]?.getD 0) o.length over q)=>d.o.step xa xb (by rw[<-z.o];exact aj) J h;have Qm:=Row.grown L.o r A.o;have y:=d.o.2.1.append R;rw[<-Q.o]at U;generalize t[i]?.getD 0=wd at *;clear ae;go_wp2_with(go_at_call 163;refine(Nw g i lb _ (D++s) b cb o wd _ f y (by rw[At];omega) O Qm xb A.o hw).mono ?_;rintro e w5 ⟨over,q,rfl,hq,hA5,ay⟩;have S:=J5 hq.1 (xs:=D++s) (ro:=i) (by rw[At];omega);have bi:=hA5.cell (j:=i+lb) (by rw[S,At];omega);have bk:=hA5.frozen (i+lb);have N:=Y hq;clear hq S)
    have P:=hA5.set (i+lb) over;rw[QT O,List.set_append_left _ _ (by rw[J5 N.o.1 O];omega)]at P;exact⟨⟨i+1,(DY D i lb q).set (i+lb) over,DK,O,U.o over q (N.o.tail O),P,Jg (Jg r ay) (JE _ _ _ _)⟩,by simp[intOf];omega⟩
  . obtain rfl:i=la:=O
    have Qe:Row .u64 wr (B (some ⟨g,0,none⟩) (i+lb) rc) D:=by
     have h1:=f.row 0 (i+lb) rc DX ap bc az;rwa[AQ,Cl O,Ad O]at h1
    have Qo:=Y (M.o D (by rw[<-z.o];exact d.o));have y:=d.o.2.1.append R;clear d M K L T A;go_wp2_with(go_at_call 128;refine(Lj _ _ _ D _ Qe).mono ?_;rintro e w5 ⟨u,rfl,⟨F,ad⟩,ai⟩;rw[Qo.o]at F ai;obtain⟨ua,uc,rfl⟩:=UN.form F)
    go_ret;refine⟨_,J,⟨F,Jg r (J4 ad _)⟩,?_,D++s,f.below ad,y,DX⟩;rcases ai with⟨e,_⟩|e
    . exact Am e
    . exact Ax ⟨_,e⟩
theorem Eo.fing(h:Eo f bs f.length D):Jz D=Jc Z (val Z f*val Z bs):=by
 obtain⟨_,a,b⟩:=h;grind[J6,Je]
def ZJ(g rl rc:Nat)(c:kQ)(a:kR)(la ca:Nat)(b:kR)(lb cb:Nat)(d f:kQ)(w:World)(xa:DM Z d)(xb:DM Z f)
(m:DP w g c)(az:DM Z c)(hz:la+lb<=c.length)(am:la+lb<=rc)(ay:rc<=9223372036854775807)(aq:la+lb<=1099511627776)
(ra:Row .u64 w (B a la ca) d)(n:Row .u64 w (B b lb cb) f)(ai:∀p,a=some p->0<la->p.block≠g)(aj:∀p,b=some p->0<lb->p.block≠g):
 Calls Tryz.prog 141 #[B (some ⟨g,0,none⟩) rl rc,B a la ca,B b lb cb] w λe F=>∃u,e=.returned u/\(UN F u (val Z d*val Z f)/\w.grownBy F (some g))/\(u=B none 0 0\/∃l,u=B (some ⟨g,0,none⟩) l rc)/\∃G,DP F g G/\DM Z G/\G.length=c.length:=by
 obtain⟨z,bc,bk,bj,ad⟩:=Js ra;have t:=(Js n).1;have bf:=(Js n).2.1;have bm:=(Js n).2.2.1;have K:=Y λD (h:Eo d f d.length D)=>h.fing;have I:=Y n;obtain⟨W1,an,hA1,U⟩:=QQ 0 g (la+lb) rc c w m hz;have s:=Y (Eo.start d f);rw[<-z,<-t]at s;have P:DM Z (c.drop (la+lb)):=az.drop _;have Ql:(c.drop (la+lb)).length=c.length-(la+lb):=Cm;obtain⟨T,V⟩:∃T,T=c.length:=⟨_,J⟩;rw[<-V]at Ql hz ⊢;generalize c.drop (la+lb)=r at *;obtain⟨H,x,N,R,y⟩:=GL ad z t ai aj;clear ad z t ra n V m ai aj;go_enter func141,ntmps141
 go_wp2;go_loopw [19] (λE wr=>∃(i:Nat) (D:kQ),E=C .i64 i/\i<=la/\Hid (Eo d f i D)/\DP wr g (D++r)/\w.grownBy wr (some g))
  (λE _=>la-(intOf E).toNat)
 case atStart=>exact⟨0,_,J,As _,s.o,hA1,U⟩
 case round=>
  clear s hA1 U an;obtain⟨i,D,rfl,hi,k,m,o⟩:=hrel;have Qn:=k.o.1;rw[<-x.o,<-N.o]at Qn;by_cases ah:i<la
  . obtain⟨ab,ao,rfl,ak,X⟩:=H.o i ah;have bh:=(BR (w:=w) (o.block ab ak λe=>R.o _ J O (by cases e;rfl))).trans X;have hw:=xa.getD uo i;have S:=Y λover q (h:XK D f i (d[i]?.getD 0) f.length over q)=>k.o.step xa xb (by rw[<-x.o];exact ah) J h;have Qm:=Row.grown I.o o y.o;have v:=k.o.2.1.append P;rw[<-N.o]at S;generalize d[i]?.getD 0=wd at *;clear X;go_wp2_with(go_at_call 163;refine(Nw g i lb _ (D++r) b cb f wd _ m v (by rw[At];omega) O Qm xb y.o hw).mono ?_;rintro e w5 ⟨over,q,rfl,hq,hA5,ap⟩;have Q:=J5 hq.1 (xs:=D++r) (ro:=i) (by rw[At];omega);have bg:=hA5.cell (j:=i+lb) (by rw[Q,At];omega);have bi:=hA5.frozen (i+lb);have L:=Y hq;clear hq Q)
    have M:=hA5.set (i+lb) over;rw[QT O,List.set_append_left _ _ (by rw[J5 L.o.1 O];omega)]at M;exact⟨⟨i+1,(DY D i lb q).set (i+lb) over,DK,O,S.o over q (L.o.tail O),M,Jg (Jg o ap) (JE _ _ _ _)⟩,by simp[intOf];omega⟩
  . obtain rfl:i=la:=O
    have Qe:Row .u64 wr (B (some ⟨g,0,none⟩) (i+lb) rc) D:=by
     have h1:=m.row 0 (i+lb) rc DX am ay aq;rwa[AQ,Cl O,Ad O]at h1
    have Qo:=Y (K.o D (by rw[<-x.o];exact k.o));have v:=k.o.2.1.append P;clear k K H I R y;go_wp2_with(go_at_call 128;refine(Lj _ _ _ D _ Qe).mono ?_;rintro e w5 ⟨u,rfl,⟨A,W⟩,ae⟩;rw[Qo.o]at A ae;obtain⟨ua,uc,rfl⟩:=UN.form A)
    go_ret;refine⟨_,J,⟨A,Jg o (J4 W _)⟩,?_,D++r,m.below W,v,DX⟩;rcases ae with⟨e,_⟩|e
    . exact Am e
    . exact Ax ⟨_,e⟩
def Ib:Z=2^64:=by unfold Z;rfl
def Gx(xs bs:kQ)(ro wd i over c:Nat)(q:kQ):Prop:=
 q.length=i/\DM Z q/\over<Z/\c<=1/\val Z q+val Z (bs.take i)*wd=val Z ((xs.drop ro).take i)+Z^i*(over+c)
def Gx.start(xs bs:kQ)(ro wd:Nat):Gx xs bs ro wd 0 0 0 []:=⟨J,DM.nil _,by unfold Z;omega,O,by simp[val]⟩
theorem Gx.step(h:Gx xs bs ro wd i over c q)(d a c':Nat)(f:d<Z)(g:a<Z)(e:c'<=1)(n:d+bs[i]?.getD 0*wd+over+c=xs[ro+i]?.getD 0+Z*(a+c')):Gx xs bs ro wd (i+1) a c' (q++[d]):=by
 obtain⟨j,b,k,l,m⟩:=h;refine⟨by simp;omega,b.append (DM.cons f (DM.nil _)),g,e,?_⟩;grind[YA,Jr]
theorem ZK{y r:Nat}(a:x<Z)(b:y<Z)(f:r<Z)(e:over<Z)(d:c<=1):
 XQ x y+Y9 (Yw x y) over 0<Z/\GK r (YF (Yw x y) over 0) c<Z/\F6 r (YF (Yw x y) over 0) c<=1/\YF (Yw x y) over 0<Z/\
 GK r (YF (Yw x y) over 0) c+x*y+over+c=r+Z*(XQ x y+Y9 (Yw x y) over 0+F6 r (YF (Yw x y) over 0) c):=by
 have hp:=QG a b;grind[XQ,Yw,Y9,YF,GK,F6,Z]
theorem Gx.last(h:Gx xs bs ro wd n over c q)(k:bs.length=n)(b:d<Z)(j:d+over+c=xs[ro+n]?.getD 0+Z*c'):
 (q++[d]).length=n+1/\DM Z (q++[d])/\val Z (q++[d])+val Z bs*wd=val Z ((xs.drop ro).take (n+1))+Z^(n+1)*c':=by
 obtain⟨e,a,f,g,i⟩:=h;refine⟨by simp;omega,a.append (DM.cons b (DM.nil _)),?_⟩;grind[YA,Jr]
def D8(x s:Nat):Nat:=x*2^s%Z
def Dx(x s:Nat):Nat:=x/2^s
theorem Kn(hs:s<=64):2^s*2^(64-s)=Z:=by rw[<-CK,show s+(64-s)=64 from by omega];rfl
theorem Ko(hs:s<=64):D8 x s=x%2^(64-s)*2^s:=by
 grind[D8,Kn,Nat.mul_mod_mul_right]
theorem ZL(hs:s<=63)(e:x<Z)(d:c<2^s):c ||| D8 x s=c+D8 x s/\c+D8 x s<Z/\Dx x (64-s)<2^s/\c+D8 x s+Z*Dx x (64-s)=c+x*2^s:=by
 rw[Ko O];have hp:=Kn (s:=s) O;have g:=A4 x (2^(64-s));have a:=AZ x (Ca (64-s));unfold Dx;have b:c ||| x%2^(64-s)*2^s=c+x%2^(64-s)*2^s:=by
  rw[Nat.or_comm,AB,<-C6 d,Fi]
 refine⟨b,?_,?_,?_⟩
 . have f:(x%2^(64-s)+1)*2^s<=2^(64-s)*2^s:=Af _ a;grind
 . rw[AF (Ca _),hp];exact e
 grind
def Ic(a:kQ)(s i:Nat)(q:kQ)(c:Nat):Prop:=
 q.length=i/\DM Z q/\c<2^s/\val Z q+Z^i*c=val Z (a.take i)*2^s
def Ic.start(a:kQ)(s:Nat):Ic a s 0 [] 0:=⟨J,DM.nil _,Ca s,by simp[val]⟩
theorem Ic.step(h:Ic f s i q c)(e:d<Z)(b:c'<2^s)(l:d+Z*c'=c+f[i]?.getD 0*2^s):Ic f s (i+1) (q++[d]) c':=by
 obtain⟨g,a,j,k⟩:=h;refine⟨by simp;omega,a.append (DM.cons e (DM.nil _)),b,?_⟩;grind[YA,Jr]
theorem ZM{P:Nat}(hs:s<=63)(f:x<Z):
 D8 (P%2^s) (64-s) ||| Dx x s=D8 (P%2^s) (64-s)+Dx x s/\D8 (P%2^s) (64-s)+Dx x s<Z/\D8 x (64-s)=D8 ((x+Z*P)%2^s) (64-s)/\
 (x+Z*P)/2^s=D8 (P%2^s) (64-s)+Dx x s+Z*(P/2^s):=by
 have hp:=Kn (s:=s) O;rw[Ko O,Ko O,Ko O,show 64-(64-s)=s from by omega,Nat.mod_mod];have i:Dx x s<2^(64-s):=by
  unfold Dx;rw[AF (Ca _),AB,hp];exact f
 have c:=AZ P (Ca s);have d:=A4 P (2^s);refine⟨?_,?_,?_,?_⟩
 . grind[AB,C6]
 . have g:(P%2^s+1)*2^(64-s)<=2^s*2^(64-s):=Af _ c;grind
 . grind[Ch,CC,Nat.mod_mod]
 . unfold Dx;have e:x+Z*P=x+2^s*(P%2^s*2^(64-s)+Z*(P/2^s)):=by
    rw[<-hp];generalize P/2^s=a at *;generalize P%2^s=b at *;generalize 2^(64-s)=E at *;generalize 2^s=F at *;rw[<-d];grind
   grind[CZ]
theorem ZN(B:Nat)(ds:kQ)(k:Nat)(h:k<ds.length):val B (ds.drop k)=ds[k]?.getD 0+B*val B (ds.drop (k+1)):=by
 grind[AV,Yc]
def F7(R0 V n K k:Nat)(D Q:kQ):Prop:=
 D.length=K+n/\DM Z D/\Q.length=K/\DM Z Q/\val Z D<V*Z^k/\R0=val Z D+V*val Z Q/\∀j,j<k->Q[j]?.getD 0=0
theorem F7.win(h:F7 R0 V n K (k+1) D Q)(r:k<K)(q:V<Z^n):
 val Z ((D.drop k).take (n+1))<V*Z/\val Z D=val Z (D.take k)+Z^k*val Z ((D.drop k).take (n+1))/\val Z (D.drop (k+(n+1)))=0:=by
 obtain⟨g,i,j,l,f,m,o⟩:=h;have p:0<Z:=by unfold Z;omega
 have d:val Z D<Z^(k+(n+1)):=by
  have e:Z^(k+(n+1))=Z^n*Z^(k+1):=by rw[<-CK];congr 1;omega
  rw[e];exact Ap f (Af _ O)
 have c:=N3 O d;have a:=val_append Z (D.take k) (D.drop k);rw[A8,Ah,CQ O]at a;have b:=val_append Z ((D.drop k).take (n+1)) ((D.drop k).drop (n+1));rw[A8,Fx,c,Cr,Cb]at b;rw[b]at a;refine⟨?_,a,c⟩;rcases AP (val Z ((D.drop k).take (n+1))) (V*Z)with h|h
 . exact h
 . exfalso
   have:=Ai (Z^k) h;have e:Z^k*(V*Z)=V*Z^(k+1):=by rw[Cc];grind
   omega
theorem F7.step(h:F7 R0 V n K (k+1) D Q)(p:k<K)(o:V<Z^n)(r:q.length=n+1)(hq:DM Z q)
(s:val Z q=val Z ((D.drop k).take (n+1))%V)(c:0<V):
 F7 R0 V n K k (DY D k (n+1) q) (Q.set k (val Z ((D.drop k).take (n+1))/V)):=by
 obtain⟨t,H,u⟩:=h.win p o;obtain⟨i,b,v,l,w,y,m⟩:=h;have z:0<Z:=by unfold Z;omega
 generalize A:val Z ((D.drop k).take (n+1))=W at *;have E:=A4 W V;have e:=AZ W c;have d:W/V<Z:=by rw[AF c,AB];exact t
 have f:val Z (DY D k (n+1) q)=val Z (D.take k)+Z^k*val Z q:=by
  rw[DY,val_append,val_append,Ah,CQ O,u];simp
 have g:=N2 Z Q k (W/V) O;rw[m k O,Cr,Cb]at g;have G:val Z (D.take k)<Z^k:=by
  have:=Yl (b.take k);rwa[Ah,CQ O]at this
 refine⟨by rw[J5 r O];exact i,?_,DX,?_,?_,?_,?_⟩
 . intro x a;rw[DY]at a;rcases CA.1 a with a|a
   . exact(b.take k) x a
   . rcases CA.1 a with a|a
     . exact hq x a
     . exact(b.drop _) x a
 . intro x a;rcases List.mem_or_eq_of_mem_set a with a|a
   . exact l x a
   . rw[a];exact d
 . rw[f,s];have:=Ai (Z^k) (show W%V+1<=V from e);grind
 . grind
 . intro j F;grind
theorem F7.start(b:D.length=K+n)(c:DM Z D)(a:val Z D=R0)(d:R0<V*Z^K):F7 R0 V n K K D (kT K 0):=
 ⟨b,c,AE,λx e=>by grind[Z],by rw[a];exact d,by rw[QR,Cr,a,Cb],λj _=>by
  grind⟩
theorem F7.fin{b:Nat}(h:F7 R0 V n K 0 D Q)(j:R0=m*2^s)(k:V=b*2^s):Jz Q=Jc Z (m/b)/\val Z D=m%b*2^s:=by
 obtain⟨a,c,d,e,f,g,i⟩:=h;grind[CZ,A3,CC,Ci,Nat.mul_div_mul_right,Nat.mul_mod_mul_right,J6,Je]
def ZO(f ro len cap:Nat)(xs:kQ)(a:kR)(cb:Nat)(bs:kQ)(wd:Nat)(w:World)
(S:DP w f xs)(G:DM Z xs)(aj:ro+(len+1)<=xs.length)(ae:len+1<=cap)(A:Row .u64 w (B a len cb) bs)(U:DM Z bs)(D:∀p,a=some p->0<len->p.block≠f)(F:wd<Z):
 Calls Tryz.prog 187 #[B (some ⟨f,ro,none⟩) (len+1) cap,B a len cb,C .u64 (wd:Nat)] w λe y=>
  ∃c q,e=.returned (C .u64 (c:Nat))/\(c<=1/\q.length=len+1/\DM Z q/\val Z q+val Z bs*wd=val Z ((xs.drop ro).take (len+1))+Z^(len+1)*c)/\DP y f (DY xs ro (len+1) q)/\w.grownBy y (some f):=by
 obtain⟨hl,ah,ad,ai,k⟩:=Js A;obtain⟨K,I,L⟩:=Dc hl k D;clear k hl D A;go_enter func187,ntmps187
 go_wp2;go_loopw [7,8,16] (λov R u wr=>∃(i over c:Nat) (q:kQ),u=C .i64 i/\ov=C .u64 (over:Nat)/\R=C .u64 (c:Nat)/\i<=len/\over<Z/\c<=1/\Hid (Gx xs bs ro wd i over c q)/\DP wr f (DY xs ro i q)/\w.grownBy wr (some f))
  (λ_ _ u _=>len-(intOf u).toNat)
 case atStart=>exact⟨0,0,0,[],J,J,J,As _,by unfold Z;omega,O,Gx.start _ _ _ _,by rw[mid_zero];exact S,YK _ _⟩
 case round=>
  obtain⟨i,over,c,q,rfl,rfl,rfl,hi,E,m,l,g,hg⟩:=hrel;by_cases V:i<len
  . obtain⟨b,ak,rfl,T,k⟩:=I.o i V;have P:=L.o _ J O;have hq:=l.o.1;have X:=(BR (w:=w) (hg.block b T λe=>P (by cases e;rfl))).trans k;have M:wr.cell? ⟨f,ro+i,none⟩=some (C .u64 (xs[ro+i]?.getD 0:Nat)):=by rw[<-Hv hq O];exact g.cell (by rw[J5 hq O];omega)
    have N:=g.frozen (ro+i);have z:=U.getD uo i;have t:=G.getD uo (ro+i);obtain⟨n,v,o,s4,H⟩:=ZK z F t E m;have j:=Y (l.o.step _ _ _ v n o H);have s:=Y (show ∀d,(DY xs ro i q).set (ro+i) d=DY xs ro (i+1) (q++[d])from λd=>IX hq O d);clear k hq H;generalize bs[i]?.getD 0=x at *;generalize xs[ro+i]?.getD 0=r at *;have W:=Lu (Yw x wd) over;have Q:=Lv r (YF (Yw x wd) over 0) c m;unfold Z at n;go_wp2_with(first
     |(go_at_call 183;refine(Hw _ _ z F _).mono ?_;rintro e y ⟨rfl,rfl⟩))
    exact⟨⟨i+1,XQ x wd+Y9 (Yw x wd) over 0,F6 r (YF (Yw x wd) over 0) c,q++[GK r (YF (Yw x wd) over 0) c],DK,DK,J,O,j.o.2.2.1,j.o.2.2.2.1,j,by rw[<-s.o];exact g.set _ _,Jg hg (JE _ _ _ _)⟩,by simp[intOf];omega⟩
  . obtain rfl:i=len:=O
    have hq:=l.o.1;have M:wr.cell? ⟨f,ro+i,none⟩=some (C .u64 (xs[ro+i]?.getD 0:Nat)):=by rw[<-Hv hq O];exact g.cell (by rw[J5 hq O];omega)
    have N:=g.frozen (ro+i);have t:=G.getD uo (ro+i);obtain⟨n,v,o⟩:=Nq t E m;have j:=Y (l.o.last K.o.symm n o);have s:=Y (show ∀d,(DY xs ro i q).set (ro+i) d=DY xs ro (i+1) (q++[d])from λd=>IX hq O d);clear hq o;generalize xs[ro+i]?.getD 0=r at *;have Q:=Lv r over c m;go_wp2;go_ret;exact⟨F6 r over c,_,J,⟨v,j.o⟩,by rw[<-s.o];exact g.set _ _,Jg hg (JE _ _ _ _)⟩
