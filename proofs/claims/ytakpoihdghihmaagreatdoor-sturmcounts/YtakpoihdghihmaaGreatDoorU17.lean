import Derived.Test.YtakpoihdghihmaaGreatDoorU10
import Derived.Test.YtakpoihdghihmaaGreatDoorU09
set_option linter.all false
open Go.Value renaming slice->B,int->C
set_option maxRecDepth 99999
set_option maxHeartbeats 0
namespace Go.Proofs.YtakpoihdghihmaaGreatDoor
open List renaming replicate->nL
open Proofs.Tryz
open Go.RowKit Go.Shelf
variable{D Q bs f q xs:m4}{K R0 V c c' d i k len m n over ro s wd x:Nat}
theorem aQ{o v:Nat}(h:o<f.length):(f.set o v).take (o+1)=f.take o++[v]:=by
 grind[A7,List.take_set,Ai]
def R5{b:Nat}:∀(c:m4) (o:Nat) (W:World) (a:m4),DO W b a->o+c.length<=a.length->DO (W.setCells b o (cellsOf .u64 c)) b (a.take o++(c++a.drop (o+c.length)))
 |[],o,W,a,h,_=>by
  have e:a.take o++([]++a.drop (o+([]:m4).length))=a:=DG
  rw[e];exact h
 |v::r,o,W,a,h,hl=>by
  rw[Ah]at hl;have d:=R5 r (o+1) (W.setCell ⟨b,o,none⟩ (C .u64 (v:Nat))) (a.set o v) (h.set o v) DI;rw[aQ O,List.drop_set_of_lt O,Ff]at d;have e:o+1+r.length=o+(v::r).length:=by rw[Ah];omega
  rw[e]at d;exact d
theorem R8{b:Nat}:∀(a:List Value) (o:Nat) (W:World),W.grownBy (W.setCells b o a) (some b)
 |[],_,W=>YV W _
 |v::r,o,W=>Jf (JH W b o v) (R8 r (o+1) _)
theorem R9(ty:TypeId)(g n c:Nat)(a:m4)(W:World)(h:DO W g a)(k:n<=a.length):
 ∃W',(Builtin.clear_ #[33] ty #[B (some ⟨g,0,none⟩) n c]).run Tryz.prog W=.ok (.tuple #[]) W'/\DO W' g (nL n 0++a.drop n)/\W.grownBy W' (some g):=by
 rcases AZ n with b|b
 . subst b;refine⟨W,?_,?_,YV W _⟩
   . simp[Builtin.clear_,run_underlying underlying33]
   grind
 . have d:=Lib.run_clear_slice (P:=Tryz.prog) W 33 115 ty (C .u64 0) underlying33 (λw=>by kernel_rfl) J J g 0 n c b
    (λj i=>by rw[CA,h.cell O];rfl) λj _=>h.frozen _
   have e:(nL n (Value.int .u64 0))=cellsOf .u64 (nL n 0):=by simp[cellsOf]
   rw[e]at d;have f:=R5 (nL n 0) 0 W a h DI;grind[R8]
theorem Oy(B:Nat):∀(D:m4) (j d:Nat),j<D.length->val B (D.set j d)+B^j*D[j]?.getD 0=val B D+B^j*d
 |[],_,_,h=>by cases h
 |x::D,0,d,_=>by simp[val];omega
 |x::D,j+1,d,h=>by
  have a:=Oy B D j d (by simpa using h);grind[val]
def SA(B n:Nat):val B (nL n 0)=0:=by
 induction n with
 |zero=>rfl
 |succ n a=>rw[Fj,val,a];simp
def Ey(a bs:m4)(i:Nat)(D:m4):Prop:=
 D.length=a.length+bs.length/\DJ Z D/\val Z D=val Z (a.take i)*val Z bs
theorem Ey.start(a bs:m4):Ey a bs 0 (nL (a.length+bs.length) 0):=
 ⟨AW,λx b=>by grind[Z],by rw[SA];simp[val]⟩
def SB{B:Nat}(c:0<B):∀ {D:m4},val B D=0->∀j:Nat,D[j]?.getD 0=0
 |[],_,j=>by simp
 |d::D,h,0=>by
  rw[Yi]at h;show d=0;omega
 |d::D,h,j+1=>by
  rw[Yi]at h;have a:B*val B D=0:=O
  have b:val B D=0:=by
   rcases Nat.mul_eq_zero.1 a with h|h
   . omega
   . exact h
  rw[AJ];exact SB c b j
def Oz{B:Nat}(c:k<=D.length)(h:val B D<B^k):val B (D.drop k)=0:=by
 have e:val B D=val B (D.take k)+B^k*val B (D.drop k):=by
  have b:=val_append B (D.take k) (D.drop k);rw[Ch,Ai,C1 c]at b;exact b
 rcases AZ (val B (D.drop k))with a|a
 . exact a
 . have:=Aj (B^k) a;omega
theorem Ey.step(h:Ey f bs i D)(r:DJ Z f)(p:DJ Z bs)(w:i<f.length)(y:wd=f[i]?.getD 0)(hq:XZ D bs i wd bs.length over q):
 Ey f bs (i+1) ((DW D i bs.length q).set (i+bs.length) over):=by
 obtain⟨v,k,o⟩:=h;obtain⟨l,q2,s,z⟩:=hq;have n:val Z D<Z^(i+bs.length):=by
  rw[o,CV];have b:=Yw (r.take i);rw[Ai,C1 O]at b;have c:=Yw p;rcases AZ (val Z bs)with j|j
  . rw[j,Cz];exact DF (CW uo) (CW uo)
  . exact Nat.mul_lt_mul'' b c
 have d:=Oz O n;have m:(DW D i bs.length q).length=D.length:=J4 l O;refine⟨DI,?_,?_⟩
 . intro x a;rcases List.mem_or_eq_of_mem_set a with a|a
   . rw[DW]at a;rcases CS.1 a with a|a
     . exact(k.take i) x a
     . rcases CS.1 a with a|a
       . exact q2 x a
       . exact(k.drop _) x a
   . rw[a];exact s
 . have b:=Oy Z (DW D i bs.length q) (i+bs.length) over (by rw[m];omega);have c:(DW D i bs.length q)[i+bs.length]?.getD 0=0:=by
    rw[IV l O];have:=SB uo d 0;rw[List.getElem?_drop,Cl]at this;exact this
   rw[c,Cz,Cl]at b;rw[b];have t:val Z (DW D i bs.length q)=val Z (D.take i)+Z^i*val Z q:=by
    rw[DW,val_append,val_append,Ai,C1 O,d];simp
   have u:val Z D=val Z (D.take i)+Z^i*val Z ((D.drop i).take bs.length):=by
    have e:=val_append Z (D.take i) (D.drop i);rw[Ch,Ai,C1 O]at e;have g:=val_append Z ((D.drop i).take bs.length) ((D.drop i).drop bs.length);rw[Ch,FN,d,Cz,Cl]at g;rw[e,g]
   grind[Js]
theorem Ey.fin(h:Ey f bs f.length D)(c:f=Jd Z m)(d:bs=Jd Z n):Jz D=Jd Z (m*n):=by
 obtain⟨_,a,b⟩:=h;grind[Yd,Jg,Jq]
theorem XZ.tail(h:XZ (D++f) bs i wd len over q)(e:i+len<=D.length):XZ D bs i wd len over q:=by
 obtain⟨a,b,c,d⟩:=h;refine⟨a,b,c,?_⟩;grind
theorem SC(a:i+len<=D.length):DW (D++f) i len q=DW D i len q++f:=by
 grind[DW]
def aR(g rl rc:Nat)(c:m4)(a:nJ)(la ca:Nat)(b:nJ)(lb cb m n:Nat)(w:World)
(f:DO w g c)(bf:DJ Z c)(hz:la+lb<=c.length)(ap:la+lb<=rc)(bc:rc<=9223372036854775807)(az:la+lb<=1099511627776)
(ra:Row .u64 w (B a la ca) (Jd Z m))(k:Row .u64 w (B b lb cb) (Jd Z n))(ak:∀p,a=some p->0<la->p.block≠g)(am:∀p,b=some p->0<lb->p.block≠g):
 Calls Tryz.prog 168 #[B (some ⟨g,0,none⟩) rl rc,B a la ca,B b lb cb] w λe H=>∃u,e=.returned u/\(UN H u (m*n)/\w.grownBy H (some g))/\(u=B none 0 0\/∃l,u=B (some ⟨g,0,none⟩) l rc)/\∃I,DO H g I/\DJ Z I/\I.length=c.length:=by
 obtain⟨E,bg,bn,bm,ah⟩:=Ju ra;have x:=(Ju k).1;have bh:=(Ju k).2.1;have bt:=(Ju k).2.2.1;have xa:=Jr Jg m;have xb:=Jr Jg n;have M:=Y λD (h:Ey (Jd Z m) (Jd Z n) (Jd Z m).length D)=>h.fin (m:=m) (n:=n) J J;have L:=Y k;generalize Jd Z m=t at *;generalize Jd Z n=o at *;obtain⟨W1,aq,hA1,W⟩:=R9 0 g (la+lb) rc c w f hz;have v:=Y (Ey.start t o);rw[<-E,<-x]at v;have R:DJ Z (c.drop (la+lb)):=bf.drop _;have Ql:(c.drop (la+lb)).length=c.length-(la+lb):=Cs;obtain⟨V,X⟩:∃V,V=c.length:=⟨_,J⟩;rw[<-X]at Ql hz ⊢;generalize c.drop (la+lb)=s at *;obtain⟨K,z,Q,T,A⟩:=Gn ah E x ak am;clear ah E x ra k X f ak am;go_enter func168,ntmps168
 go_wp2;go_loopw [19] (λG wr=>∃(i:Nat) (D:m4),G=C .i64 i/\i<=la/\Hid (Ey t o i D)/\DO wr g (D++s)/\w.grownBy wr (some g))
  (λG _=>la-(intOf G).toNat)
 case atStart=>exact⟨0,_,J,Ap _,v.o,hA1,W⟩
 case round=>
  clear v hA1 W aq;obtain⟨i,D,rfl,hi,d,f,r⟩:=hrel;have Qn:=d.o.1;rw[<-z.o,<-Q.o]at Qn;by_cases aj:i<la
  . obtain⟨ab,ao,rfl,an,ae⟩:=K.o i aj;have bj:=(BQ (w:=w) (r.block ab an λe=>T.o _ J O (by cases e;rfl))).trans ae;have hw:=xa.getD uo i;have U:=Y λover q (h:XZ D o i (t[i]?.getD 0) o.length over q)=>d.o.step xa xb (by rw[<-z.o];exact aj) J h;have Qm:=Row.grown L.o r A.o;have y:=d.o.2.1.append R;rw[<-Q.o]at U;generalize t[i]?.getD 0=wd at *;clear ae;go_wp2_with(go_at_call 167;refine(Oq g i lb _ (D++s) b cb o wd _ f y (by rw[Cc];omega) O Qm xb A.o hw).mono ?_;rintro e w5 ⟨over,q,rfl,hq,hA5,ay⟩;have S:=J4 hq.1 (xs:=D++s) (ro:=i) (by rw[Cc];omega);have bi:=hA5.cell (j:=i+lb) (by rw[S,Cc];omega);have bk:=hA5.frozen (i+lb);have N:=Y hq;clear hq S)
    have P:=hA5.set (i+lb) over;rw[SC O,List.set_append_left _ _ (by rw[J4 N.o.1 O];omega)]at P;exact⟨⟨i+1,(DW D i lb q).set (i+lb) over,DG,O,U.o over q (N.o.tail O),P,Jf (Jf r ay) (JH _ _ _ _)⟩,by simp[intOf];omega⟩
  . obtain rfl:i=la:=O
    have Qe:Row .u64 wr (B (some ⟨g,0,none⟩) (i+lb) rc) D:=by
     have h1:=f.row 0 (i+lb) rc DI ap bc az;rwa[Ca,CB O,Ad O]at h1
    have Qo:=Y (M.o D (by rw[<-z.o];exact d.o));have y:=d.o.2.1.append R;clear d M K L T A;go_wp2_with(go_at_call 73;refine(OY _ _ _ D _ Qe).mono ?_;rintro e w5 ⟨u,rfl,⟨F,ad⟩,ai⟩;rw[Qo.o]at F ai;obtain⟨ua,uc,rfl⟩:=UN.form F)
    go_ret;refine⟨_,J,⟨F,Jf r (Ya ad _)⟩,?_,D++s,f.below ad,y,DI⟩;rcases ai with⟨e,_⟩|e
    . exact An e
    . exact Au ⟨_,e⟩
theorem Ey.fing(h:Ey f bs f.length D):Jz D=Jd Z (val Z f*val Z bs):=by
 obtain⟨_,a,b⟩:=h;grind[Yd,Jg]
def aS(g rl rc:Nat)(c:m4)(a:nJ)(la ca:Nat)(b:nJ)(lb cb:Nat)(d f:m4)(w:World)(xa:DJ Z d)(xb:DJ Z f)
(m:DO w g c)(az:DJ Z c)(hz:la+lb<=c.length)(am:la+lb<=rc)(ay:rc<=9223372036854775807)(aq:la+lb<=1099511627776)
(ra:Row .u64 w (B a la ca) d)(n:Row .u64 w (B b lb cb) f)(ai:∀p,a=some p->0<la->p.block≠g)(aj:∀p,b=some p->0<lb->p.block≠g):
 Calls Tryz.prog 168 #[B (some ⟨g,0,none⟩) rl rc,B a la ca,B b lb cb] w λe F=>∃u,e=.returned u/\(UN F u (val Z d*val Z f)/\w.grownBy F (some g))/\(u=B none 0 0\/∃l,u=B (some ⟨g,0,none⟩) l rc)/\∃G,DO F g G/\DJ Z G/\G.length=c.length:=by
 obtain⟨z,bc,bk,bj,ad⟩:=Ju ra;have t:=(Ju n).1;have bf:=(Ju n).2.1;have bm:=(Ju n).2.2.1;have K:=Y λD (h:Ey d f d.length D)=>h.fing;have I:=Y n;obtain⟨W1,an,hA1,U⟩:=R9 0 g (la+lb) rc c w m hz;have s:=Y (Ey.start d f);rw[<-z,<-t]at s;have P:DJ Z (c.drop (la+lb)):=az.drop _;have Ql:(c.drop (la+lb)).length=c.length-(la+lb):=Cs;obtain⟨T,V⟩:∃T,T=c.length:=⟨_,J⟩;rw[<-V]at Ql hz ⊢;generalize c.drop (la+lb)=r at *;obtain⟨H,x,N,R,y⟩:=Gn ad z t ai aj;clear ad z t ra n V m ai aj;go_enter func168,ntmps168
 go_wp2;go_loopw [19] (λE wr=>∃(i:Nat) (D:m4),E=C .i64 i/\i<=la/\Hid (Ey d f i D)/\DO wr g (D++r)/\w.grownBy wr (some g))
  (λE _=>la-(intOf E).toNat)
 case atStart=>exact⟨0,_,J,Ap _,s.o,hA1,U⟩
 case round=>
  clear s hA1 U an;obtain⟨i,D,rfl,hi,k,m,o⟩:=hrel;have Qn:=k.o.1;rw[<-x.o,<-N.o]at Qn;by_cases ah:i<la
  . obtain⟨ab,ao,rfl,ak,X⟩:=H.o i ah;have bh:=(BQ (w:=w) (o.block ab ak λe=>R.o _ J O (by cases e;rfl))).trans X;have hw:=xa.getD uo i;have S:=Y λover q (h:XZ D f i (d[i]?.getD 0) f.length over q)=>k.o.step xa xb (by rw[<-x.o];exact ah) J h;have Qm:=Row.grown I.o o y.o;have v:=k.o.2.1.append P;rw[<-N.o]at S;generalize d[i]?.getD 0=wd at *;clear X;go_wp2_with(go_at_call 167;refine(Oq g i lb _ (D++r) b cb f wd _ m v (by rw[Cc];omega) O Qm xb y.o hw).mono ?_;rintro e w5 ⟨over,q,rfl,hq,hA5,ap⟩;have Q:=J4 hq.1 (xs:=D++r) (ro:=i) (by rw[Cc];omega);have bg:=hA5.cell (j:=i+lb) (by rw[Q,Cc];omega);have bi:=hA5.frozen (i+lb);have L:=Y hq;clear hq Q)
    have M:=hA5.set (i+lb) over;rw[SC O,List.set_append_left _ _ (by rw[J4 L.o.1 O];omega)]at M;exact⟨⟨i+1,(DW D i lb q).set (i+lb) over,DG,O,S.o over q (L.o.tail O),M,Jf (Jf o ap) (JH _ _ _ _)⟩,by simp[intOf];omega⟩
  . obtain rfl:i=la:=O
    have Qe:Row .u64 wr (B (some ⟨g,0,none⟩) (i+lb) rc) D:=by
     have h1:=m.row 0 (i+lb) rc DI am ay aq;rwa[Ca,CB O,Ad O]at h1
    have Qo:=Y (K.o D (by rw[<-x.o];exact k.o));have v:=k.o.2.1.append P;clear k K H I R y;go_wp2_with(go_at_call 73;refine(OY _ _ _ D _ Qe).mono ?_;rintro e w5 ⟨u,rfl,⟨A,W⟩,ae⟩;rw[Qo.o]at A ae;obtain⟨ua,uc,rfl⟩:=UN.form A)
    go_ret;refine⟨_,J,⟨A,Jf o (Ya W _)⟩,?_,D++r,m.below W,v,DI⟩;rcases ae with⟨e,_⟩|e
    . exact An e
    . exact Au ⟨_,e⟩
def I6:Z=2^64:=by unfold Z;rfl
def Hx(xs bs:m4)(ro wd i over c:Nat)(q:m4):Prop:=
 q.length=i/\DJ Z q/\over<Z/\c<=1/\val Z q+val Z (bs.take i)*wd=val Z ((xs.drop ro).take i)+Z^i*(over+c)
def Hx.start(xs bs:m4)(ro wd:Nat):Hx xs bs ro wd 0 0 0 []:=⟨J,DJ.nil _,by unfold Z;omega,O,by simp[val]⟩
theorem Hx.step(h:Hx xs bs ro wd i over c q)(d a c':Nat)(f:d<Z)(g:a<Z)(e:c'<=1)(n:d+bs[i]?.getD 0*wd+over+c=xs[ro+i]?.getD 0+Z*(a+c')):Hx xs bs ro wd (i+1) a c' (q++[d]):=by
 obtain⟨j,b,k,l,m⟩:=h;refine⟨by simp;omega,b.append (DJ.cons f (DJ.nil _)),g,e,?_⟩;grind[YM,Js]
theorem aT{y r:Nat}(a:x<Z)(b:y<Z)(f:r<Z)(e:over<Z)(d:c<=1):
 EN x y+Xn (YH x y) over 0<Z/\Gj r (YQ (YH x y) over 0) c<Z/\GV r (YQ (YH x y) over 0) c<=1/\YQ (YH x y) over 0<Z/\
 Gj r (YQ (YH x y) over 0) c+x*y+over+c=r+Z*(EN x y+Xn (YH x y) over 0+GV r (YQ (YH x y) over 0) c):=by
 have hp:=Rw a b;grind[EN,YH,Xn,YQ,Gj,GV,Z]
theorem Hx.last(h:Hx xs bs ro wd n over c q)(k:bs.length=n)(b:d<Z)(j:d+over+c=xs[ro+n]?.getD 0+Z*c'):
 (q++[d]).length=n+1/\DJ Z (q++[d])/\val Z (q++[d])+val Z bs*wd=val Z ((xs.drop ro).take (n+1))+Z^(n+1)*c':=by
 obtain⟨e,a,f,g,i⟩:=h;refine⟨by simp;omega,a.append (DJ.cons b (DJ.nil _)),?_⟩;grind[YM,Js]
def EA(x s:Nat):Nat:=x*2^s%Z
def Dx(x s:Nat):Nat:=x/2^s
theorem LT(a:s<=64):2^s*2^(64-s)=Z:=by rw[<-CV,show s+(64-s)=64 from by omega];rfl
theorem LU(a:s<=64):EA x s=x%2^(64-s)*2^s:=by
 grind[EA,LT,Nat.mul_mod_mul_right]
theorem aU(i:s<=63)(e:x<Z)(d:c<2^s):c ||| EA x s=c+EA x s/\c+EA x s<Z/\Dx x (64-s)<2^s/\c+EA x s+Z*Dx x (64-s)=c+x*2^s:=by
 rw[LU O];have hp:=LT (s:=s) O;have g:=Ce x (2^(64-s));have a:=A9 x (Cj (64-s));unfold Dx;have b:c ||| x%2^(64-s)*2^s=c+x%2^(64-s)*2^s:=by
  rw[Nat.or_comm,AD,<-Fl d,FF]
 refine⟨b,?_,?_,?_⟩
 . have f:(x%2^(64-s)+1)*2^s<=2^(64-s)*2^s:=Ae _ a;grind
 . rw[AM (Cj _),hp];exact e
 grind
def I7(a:m4)(s i:Nat)(q:m4)(c:Nat):Prop:=
 q.length=i/\DJ Z q/\c<2^s/\val Z q+Z^i*c=val Z (a.take i)*2^s
def I7.start(a:m4)(s:Nat):I7 a s 0 [] 0:=⟨J,DJ.nil _,Cj s,by simp[val]⟩
theorem I7.step(h:I7 f s i q c)(e:d<Z)(b:c'<2^s)(l:d+Z*c'=c+f[i]?.getD 0*2^s):I7 f s (i+1) (q++[d]) c':=by
 obtain⟨g,a,j,k⟩:=h;refine⟨by simp;omega,a.append (DJ.cons e (DJ.nil _)),b,?_⟩;grind[YM,Js]
theorem aV{P:Nat}(i:s<=63)(f:x<Z):
 EA (P%2^s) (64-s) ||| Dx x s=EA (P%2^s) (64-s)+Dx x s/\EA (P%2^s) (64-s)+Dx x s<Z/\EA x (64-s)=EA ((x+Z*P)%2^s) (64-s)/\
 (x+Z*P)/2^s=EA (P%2^s) (64-s)+Dx x s+Z*(P/2^s):=by
 have hp:=LT (s:=s) O;rw[LU O,LU O,LU O,show 64-(64-s)=s from by omega,Nat.mod_mod];have j:Dx x s<2^(64-s):=by
  unfold Dx;rw[AM (Cj _),AD,hp];exact f
 have c:=A9 P (Cj s);have d:=Ce P (2^s);refine⟨?_,?_,?_,?_⟩
 . grind[AD,Fl]
 . have g:(P%2^s+1)*2^(64-s)<=2^s*2^(64-s):=Ae _ c;grind
 . grind[Cp,CJ,Nat.mod_mod]
 . unfold Dx;have e:x+Z*P=x+2^s*(P%2^s*2^(64-s)+Z*(P/2^s)):=by
    rw[<-hp];generalize P/2^s=a at *;generalize P%2^s=b at *;generalize 2^(64-s)=E at *;generalize 2^s=F at *;rw[<-d];grind
   grind[Fe]
theorem aW(B:Nat)(ds:m4)(k:Nat)(h:k<ds.length):val B (ds.drop k)=ds[k]?.getD 0+B*val B (ds.drop (k+1)):=by
 grind[Cg,Yi]
def GW(R0 V n K k:Nat)(D Q:m4):Prop:=
 D.length=K+n/\DJ Z D/\Q.length=K/\DJ Z Q/\val Z D<V*Z^k/\R0=val Z D+V*val Z Q/\∀j,j<k->Q[j]?.getD 0=0
theorem GW.win(h:GW R0 V n K (k+1) D Q)(r:k<K)(q:V<Z^n):
 val Z ((D.drop k).take (n+1))<V*Z/\val Z D=val Z (D.take k)+Z^k*val Z ((D.drop k).take (n+1))/\val Z (D.drop (k+(n+1)))=0:=by
 obtain⟨g,i,j,l,f,m,o⟩:=h;have p:0<Z:=by unfold Z;omega
 have d:val Z D<Z^(k+(n+1)):=by
  have e:Z^(k+(n+1))=Z^n*Z^(k+1):=by rw[<-CV];congr 1;omega
  rw[e];exact Aw f (Ae _ O)
 have c:=Oz O d;have a:=val_append Z (D.take k) (D.drop k);rw[Ch,Ai,C1 O]at a;have b:=val_append Z ((D.drop k).take (n+1)) ((D.drop k).drop (n+1));rw[Ch,FN,c,Cz,Cl]at b;rw[b]at a;refine⟨?_,a,c⟩;rcases AQ (val Z ((D.drop k).take (n+1))) (V*Z)with h|h
 . exact h
 . exfalso
   have:=Aj (Z^k) h;have e:Z^k*(V*Z)=V*Z^(k+1):=by rw[Cm];grind
   omega
theorem GW.step(h:GW R0 V n K (k+1) D Q)(p:k<K)(o:V<Z^n)(r:q.length=n+1)(hq:DJ Z q)
(s:val Z q=val Z ((D.drop k).take (n+1))%V)(c:0<V):
 GW R0 V n K k (DW D k (n+1) q) (Q.set k (val Z ((D.drop k).take (n+1))/V)):=by
 obtain⟨t,H,u⟩:=h.win p o;obtain⟨i,b,v,l,w,y,m⟩:=h;have z:0<Z:=by unfold Z;omega
 generalize A:val Z ((D.drop k).take (n+1))=W at *;have E:=Ce W V;have e:=A9 W c;have d:W/V<Z:=by rw[AM c,AD];exact t
 have f:val Z (DW D k (n+1) q)=val Z (D.take k)+Z^k*val Z q:=by
  rw[DW,val_append,val_append,Ai,C1 O,u];simp
 have g:=Oy Z Q k (W/V) O;rw[m k O,Cz,Cl]at g;have G:val Z (D.take k)<Z^k:=by
  have:=Yw (b.take k);rwa[Ai,C1 O]at this
 refine⟨by rw[J4 r O];exact i,?_,DI,?_,?_,?_,?_⟩
 . intro x a;rw[DW]at a;rcases CS.1 a with a|a
   . exact(b.take k) x a
   . rcases CS.1 a with a|a
     . exact hq x a
     . exact(b.drop _) x a
 . intro x a;rcases List.mem_or_eq_of_mem_set a with a|a
   . exact l x a
   . rw[a];exact d
 . rw[f,s];have:=Aj (Z^k) (show W%V+1<=V from e);grind
 . grind
 . intro j F;grind
theorem GW.start(b:D.length=K+n)(c:DJ Z D)(a:val Z D=R0)(d:R0<V*Z^K):GW R0 V n K K D (nL K 0):=
 ⟨b,c,AW,λx e=>by grind[Z],by rw[a];exact d,by rw[SA,Cz,a,Cl],λj _=>by
  grind⟩
theorem GW.fin{b:Nat}(h:GW R0 V n K 0 D Q)(j:R0=m*2^s)(k:V=b*2^s):Jz Q=Jd Z (m/b)/\val Z D=m%b*2^s:=by
 obtain⟨a,c,d,e,f,g,i⟩:=h;grind[Fe,Cn,CJ,Ct,Nat.mul_div_mul_right,Nat.mul_mod_mul_right,Yd,Jg]
def aX(f ro len cap:Nat)(xs:m4)(a:nJ)(cb:Nat)(bs:m4)(wd:Nat)(w:World)
(S:DO w f xs)(G:DJ Z xs)(aj:ro+(len+1)<=xs.length)(ae:len+1<=cap)(A:Row .u64 w (B a len cb) bs)(U:DJ Z bs)(D:∀p,a=some p->0<len->p.block≠f)(F:wd<Z):
 Calls Tryz.prog 221 #[B (some ⟨f,ro,none⟩) (len+1) cap,B a len cb,C .u64 (wd:Nat)] w λe y=>
  ∃c q,e=.returned (C .u64 (c:Nat))/\(c<=1/\q.length=len+1/\DJ Z q/\val Z q+val Z bs*wd=val Z ((xs.drop ro).take (len+1))+Z^(len+1)*c)/\DO y f (DW xs ro (len+1) q)/\w.grownBy y (some f):=by
 obtain⟨hl,ah,ad,ai,k⟩:=Ju A;obtain⟨K,I,L⟩:=DX hl k D;clear k hl D A;go_enter func221,ntmps221
 go_wp2;go_loopw [7,8,16] (λov R u wr=>∃(i over c:Nat) (q:m4),u=C .i64 i/\ov=C .u64 (over:Nat)/\R=C .u64 (c:Nat)/\i<=len/\over<Z/\c<=1/\Hid (Hx xs bs ro wd i over c q)/\DO wr f (DW xs ro i q)/\w.grownBy wr (some f))
  (λ_ _ u _=>len-(intOf u).toNat)
 case atStart=>exact⟨0,0,0,[],J,J,J,Ap _,by unfold Z;omega,O,Hx.start _ _ _ _,by rw[mid_zero];exact S,YV _ _⟩
 case round=>
  obtain⟨i,over,c,q,rfl,rfl,rfl,hi,E,m,l,g,hg⟩:=hrel;by_cases V:i<len
  . obtain⟨b,ak,rfl,T,k⟩:=I.o i V;have P:=L.o _ J O;have hq:=l.o.1;have X:=(BQ (w:=w) (hg.block b T λe=>P (by cases e;rfl))).trans k;have M:wr.cell? ⟨f,ro+i,none⟩=some (C .u64 (xs[ro+i]?.getD 0:Nat)):=by rw[<-IV hq O];exact g.cell (by rw[J4 hq O];omega)
    have N:=g.frozen (ro+i);have z:=U.getD uo i;have t:=G.getD uo (ro+i);obtain⟨n,v,o,s4,H⟩:=aT z F t E m;have j:=Y (l.o.step _ _ _ v n o H);have s:=Y (show ∀d,(DW xs ro i q).set (ro+i) d=DW xs ro (i+1) (q++[d])from λd=>Iz hq O d);clear k hq H;generalize bs[i]?.getD 0=x at *;generalize xs[ro+i]?.getD 0=r at *;have W:=Mf (YH x wd) over;have Q:=Mg r (YQ (YH x wd) over 0) c m;unfold Z at n;go_wp2_with(first
     |(go_at_call 197;refine(IW _ _ z F _).mono ?_;rintro e y ⟨rfl,rfl⟩))
    exact⟨⟨i+1,EN x wd+Xn (YH x wd) over 0,GV r (YQ (YH x wd) over 0) c,q++[Gj r (YQ (YH x wd) over 0) c],DG,DG,J,O,j.o.2.2.1,j.o.2.2.2.1,j,by rw[<-s.o];exact g.set _ _,Jf hg (JH _ _ _ _)⟩,by simp[intOf];omega⟩
  . obtain rfl:i=len:=O
    have hq:=l.o.1;have M:wr.cell? ⟨f,ro+i,none⟩=some (C .u64 (xs[ro+i]?.getD 0:Nat)):=by rw[<-IV hq O];exact g.cell (by rw[J4 hq O];omega)
    have N:=g.frozen (ro+i);have t:=G.getD uo (ro+i);obtain⟨n,v,o⟩:=Ok t E m;have j:=Y (l.o.last K.o.symm n o);have s:=Y (show ∀d,(DW xs ro i q).set (ro+i) d=DW xs ro (i+1) (q++[d])from λd=>Iz hq O d);clear hq o;generalize xs[ro+i]?.getD 0=r at *;have Q:=Mg r over c m;go_wp2;go_ret;exact⟨GV r over c,_,J,⟨v,j.o⟩,by rw[<-s.o];exact g.set _ _,Jf hg (JH _ _ _ _)⟩
