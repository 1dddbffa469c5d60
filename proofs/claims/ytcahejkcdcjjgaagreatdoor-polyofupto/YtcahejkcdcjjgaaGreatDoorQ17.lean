import Derived.Test.YtcahejkcdcjjgaaGreatDoorQ10
import Derived.Test.YtcahejkcdcjjgaaGreatDoorQ09
set_option linter.all false
open Go.Value renaming slice->B,int->C
set_option maxRecDepth 99999
set_option maxHeartbeats 0
namespace Go.Proofs.YtcahejkcdcjjgaaGreatDoor
open List renaming replicate->TT
open Proofs.Tryz
open Go.RowKit Go.Shelf
variable{D Q bs f q xs:Ja}{K V c c' d g i k len m n over ro s wd x:Nat}
theorem O6{o v:Nat}(h:o<f.length):(f.set o v).take (o+1)=f.take o++[v]:=by
 grind[AG,List.take_set,Ae]
def LA{b:Nat}:∀(c:Ja) (o:Nat) (W:World) (a:Ja),DG W b a->o+c.length<=a.length->DG (W.setCells b o (cellsOf .u64 c)) b (a.take o++(c++a.drop (o+c.length)))
 |[],o,W,a,h,_=>by
  have e:a.take o++([]++a.drop (o+([]:Ja).length))=a:=sp
  rw[e];exact h
 |v::r,o,W,a,h,hl=>by
  rw[Ai]at hl;have d:=LA r (o+1) (W.setCell ⟨b,o,none⟩ (C .u64 (v:Nat))) (a.set o v) (h.set o v) DO;rw[O6 O,List.drop_set_of_lt O,A2]at d;have e:o+1+r.length=o+(v::r).length:=by rw[Ai];omega
  rw[e]at d;exact d
theorem LB{b:Nat}:∀(a:List Value) (o:Nat) (W:World),W.grownBy (W.setCells b o a) (some b)
 |[],_,W=>Yi W _
 |v::r,o,W=>Je (JB W b o v) (LB r (o+1) _)
theorem LC(ty:TypeId)(g n c:Nat)(a:Ja)(W:World)(h:DG W g a)(k:n<=a.length):
 ∃W',(Builtin.clear_ #[34] ty #[B (some ⟨g,0,none⟩) n c]).run Tryz.prog W=.ok (.tuple #[]) W'/\DG W' g (TT n 0++a.drop n)/\W.grownBy W' (some g):=by
 rcases AF n with b|b
 . subst b;refine⟨W,?_,?_,Yi W _⟩
   . simp[Builtin.clear_,run_underlying underlying34]
   grind
 . have d:=Lib.run_clear_slice (P:=Tryz.prog) W 34 163 ty (C .u64 0) underlying34 (λw=>by kernel_rfl) J J g 0 n c b
    (λj i=>by rw[Cd,h.cell O];rfl) λj _=>h.frozen _
   have e:(TT n (Value.int .u64 0))=cellsOf .u64 (TT n 0):=by simp[cellsOf]
   rw[e]at d;have f:=LA (TT n 0) 0 W a h DO;grind[LB]
theorem IM(B:Nat):∀(D:Ja) (j d:Nat),j<D.length->val B (D.set j d)+B^j*D[j]?.getD 0=val B D+B^j*d
 |[],_,_,h=>by cases h
 |x::D,0,d,_=>by simp[val];omega
 |x::D,j+1,d,h=>by
  have a:=IM B D j d (by simpa using h);grind[val]
def LD(B n:Nat):val B (TT n 0)=0:=by
 induction n with
 |zero=>rfl
 |succ n a=>rw[Cs,val,a];simp
def Dv(a bs:Ja)(i:Nat)(D:Ja):Prop:=
 D.length=a.length+bs.length/\DE Y D/\val Y D=val Y (a.take i)*val Y bs
theorem Dv.start(a bs:Ja):Dv a bs 0 (TT (a.length+bs.length) 0):=
 ⟨AZ,λx b=>by grind[Y],by rw[LD];simp[val]⟩
def LE{B:Nat}(c:0<B):∀ {D:Ja},val B D=0->∀j:Nat,D[j]?.getD 0=0
 |[],_,j=>by simp
 |d::D,h,0=>by
  rw[JO]at h;show d=0;omega
 |d::D,h,j+1=>by
  rw[JO]at h;have a:B*val B D=0:=O
  have b:val B D=0:=by
   rcases Nat.mul_eq_zero.1 a with h|h
   . omega
   . exact h
  rw[AQ];exact LE c b j
def XV{B:Nat}(c:k<=D.length)(h:val B D<B^k):val B (D.drop k)=0:=by
 have e:val B D=val B (D.take k)+B^k*val B (D.drop k):=by
  have b:=val_append B (D.take k) (D.drop k);rw[AR,Ae,Ct c]at b;exact b
 rcases AF (val B (D.drop k))with a|a
 . exact a
 . have:=Ar (B^k) a;omega
theorem Dv.step(h:Dv f bs i D)(r:DE Y f)(o:DE Y bs)(v:i<f.length)(w:wd=f[i]?.getD 0)(p:YE D bs i wd bs.length over q):
 Dv f bs (i+1) ((DL D i bs.length q).set (i+bs.length) over):=by
 obtain⟨u,k,n⟩:=h;obtain⟨q1,q2,q3,y⟩:=p;have m:val Y D<Y^(i+bs.length):=by
  rw[n,Cx];have b:=JS (r.take i);rw[Ae,Ct O]at b;have c:=JS o;rcases AF (val Y bs)with j|j
  . rw[j,A8];exact DC (C5 uo) (C5 uo)
  . exact Nat.mul_lt_mul'' b c
 have d:=XV O m;have l:(DL D i bs.length q).length=D.length:=JK q1 O;refine⟨DO,?_,?_⟩
 . intro x a;rcases List.mem_or_eq_of_mem_set a with a|a
   . rw[DL]at a;rcases Cp.1 a with a|a
     . exact(k.take i) x a
     . rcases Cp.1 a with a|a
       . exact q2 x a
       . exact(k.drop _) x a
   . rw[a];exact q3
 . have b:=IM Y (DL D i bs.length q) (i+bs.length) over (by rw[l];omega);have c:(DL D i bs.length q)[i+bs.length]?.getD 0=0:=by
    rw[XM q1 O];have:=LE uo d 0;rw[List.getElem?_drop,AX]at this;exact this
   rw[c,A8,AX]at b;rw[b];have s:val Y (DL D i bs.length q)=val Y (D.take i)+Y^i*val Y q:=by
    rw[DL,val_append,val_append,Ae,Ct O,d];simp
   have t:val Y D=val Y (D.take i)+Y^i*val Y ((D.drop i).take bs.length):=by
    have e:=val_append Y (D.take i) (D.drop i);rw[AR,Ae,Ct O]at e;have g:=val_append Y ((D.drop i).take bs.length) ((D.drop i).drop bs.length);rw[AR,CV,d,A8,AX]at g;rw[e,g]
   grind[Jl]
theorem Dv.fin(h:Dv f bs f.length D)(c:f=Jb Y m)(d:bs=Jb Y n):Jp D=Jb Y (m*n):=by
 obtain⟨_,a,b⟩:=h;grind[JN,Jc,Ji]
theorem YE.tail(h:YE (D++f) bs i wd len over q)(e:i+len<=D.length):YE D bs i wd len over q:=by
 obtain⟨a,b,c,d⟩:=h;refine⟨a,b,c,?_⟩;grind
theorem LF(a:i+len<=D.length):DL (D++f) i len q=DL D i len q++f:=by
 grind[DL]
def O7(g rl rc:Nat)(d:Ja)(a:TR)(c ca:Nat)(b:TR)(lb F m n:Nat)(w:World)
(k:DG w g d)(bh:DE Y d)(hz:c+lb<=d.length)(az:c+lb<=rc)(bg:rc<=9223372036854775807)(bf:c+lb<=1099511627776)
(ra:Row .u64 w (B a c ca) (Jb Y m))(o:Row .u64 w (B b lb F) (Jb Y n))(an:∀p,a=some p->0<c->p.block≠g)(aq:∀p,b=some p->0<lb->p.block≠g):
 Calls Tryz.prog 153 #[B (some ⟨g,0,none⟩) rl rc,B a c ca,B b lb F] w λe L=>∃u,e=.returned u/\(UN L u (m*n)/\w.grownBy L (some g))/\(u=B none 0 0\/∃l,u=B (some ⟨g,0,none⟩) l rc)/\∃M,DG L g M/\DE Y M/\M.length=d.length:=by
 obtain⟨G,bi,bu,bt,aj⟩:=Jm ra;have y:=(Jm o).1;have bj:=(Jm o).2.1;have bz:=(Jm o).2.2.1;have xa:=Jh Jc m;have xb:=Jh Jc n;have Q:=Z λD (h:Dv (Jb Y m) (Jb Y n) (Jb Y m).length D)=>h.fin (m:=m) (n:=n) J J;have P:=Z o;generalize Jb Y m=v at *;generalize Jb Y n=r at *;obtain⟨W1,bc,hA1,ae⟩:=LC 0 g (c+lb) rc d w k hz;have x:=Z (Dv.start v r);rw[<-G,<-y]at x;have U:DE Y (d.drop (c+lb)):=bh.drop _;have Ql:(d.drop (c+lb)).length=d.length-(c+lb):=A5;obtain⟨ad,hZ⟩:∃ad,ad=d.length:=⟨_,J⟩;rw[<-hZ]at Ql hz ⊢;generalize d.drop (c+lb)=t at *;obtain⟨N,A,T,W,E⟩:=Ej aj G y an aq;clear aj G y ra o hZ k an aq;go_enter func153,ntmps153
 go_wp2;go_loopw [19] (λK wr=>∃(i:Nat) (D:Ja),K=C .i64 i/\i<=c/\Hid (Dv v r i D)/\DG wr g (D++t)/\w.grownBy wr (some g))
  (λK _=>c-(intOf K).toNat)
 case atStart=>exact⟨0,_,J,AH _,x.o,hA1,ae⟩
 case round=>
  clear x hA1 ae bc;obtain⟨i,D,rfl,hi,f,k,s⟩:=hrel;have Qn:=f.o.1;rw[<-A.o,<-T.o]at Qn;by_cases am:i<c
  . obtain⟨ab,ao,rfl,ay,ai⟩:=N.o i am;have bm:=(BS (w:=w) (s.block ab ay λe=>W.o _ J O (by cases e;rfl))).trans ai;have hw:=xa.getD uo i;have X:=Z λover q (h:YE D r i (v[i]?.getD 0) r.length over q)=>f.o.step xa xb (by rw[<-A.o];exact am) J h;have Qm:=Row.grown P.o s E.o;have z:=f.o.2.1.append U;rw[<-T.o]at X;generalize v[i]?.getD 0=wd at *;clear ai;go_wp2_with(go_at_call 172;refine(IG g i lb _ (D++t) b F r wd _ k z (by rw[AE];omega) O Qm xb E.o hw).mono ?_;rintro e w5 ⟨over,q,rfl,H,hA5,bd⟩;have V:=JK H.1 (xs:=D++t) (ro:=i) (by rw[AE];omega);have bk:=hA5.cell (j:=i+lb) (by rw[V,AE];omega);have bn:=hA5.frozen (i+lb);have R:=Z H;clear H V)
    have S:=hA5.set (i+lb) over;rw[LF O,List.set_append_left _ _ (by rw[JK R.o.1 O];omega)]at S;exact⟨⟨i+1,(DL D i lb q).set (i+lb) over,sp,O,X.o over q (R.o.tail O),S,Je (Je s bd) (JB _ _ _ _)⟩,by simp[intOf];omega⟩
  . obtain rfl:i=c:=O
    have Qe:Row .u64 wr (B (some ⟨g,0,none⟩) (i+lb) rc) D:=by
     have h1:=k.row 0 (i+lb) rc DO az bg bf;rwa[AB,A3 O,Ac O]at h1
    have Qo:=Z (Q.o D (by rw[<-A.o];exact f.o));have z:=f.o.2.1.append U;clear f Q N P W E;go_wp2_with(go_at_call 132;refine(F8 _ _ _ D _ Qe).mono ?_;rintro e w5 ⟨u,rfl,⟨I,ah⟩,ak⟩;rw[Qo.o]at I ak;obtain⟨ua,uc,rfl⟩:=UN.form I)
    go_ret;refine⟨_,J,⟨I,Je s (JJ ah _)⟩,?_,D++t,k.below ah,z,DO⟩;rcases ak with⟨e,_⟩|e
    . exact Al e
    . exact Au ⟨_,e⟩
theorem Dv.fing(h:Dv f bs f.length D):Jp D=Jb Y (val Y f*val Y bs):=by
 obtain⟨_,a,b⟩:=h;grind[JN,Jc]
def O8(g rl rc:Nat)(d:Ja)(a:TR)(c X:Nat)(b:TR)(lb A:Nat)(f k:Ja)(w:World)(xa:DE Y f)(xb:DE Y k)
(n:DG w g d)(bg:DE Y d)(hz:c+lb<=d.length)(ay:c+lb<=rc)(bf:rc<=9223372036854775807)(bd:c+lb<=1099511627776)
(ra:Row .u64 w (B a c X) f)(o:Row .u64 w (B b lb A) k)(am:∀p,a=some p->0<c->p.block≠g)(an:∀p,b=some p->0<lb->p.block≠g):
 Calls Tryz.prog 153 #[B (some ⟨g,0,none⟩) rl rc,B a c X,B b lb A] w λe I=>∃u,e=.returned u/\(UN I u (val Y f*val Y k)/\w.grownBy I (some g))/\(u=B none 0 0\/∃l,u=B (some ⟨g,0,none⟩) l rc)/\∃K,DG I g K/\DE Y K/\K.length=d.length:=by
 obtain⟨E,bh,bt,bn,ai⟩:=Jm ra;have v:=(Jm o).1;have bi:=(Jm o).2.1;have bu:=(Jm o).2.2.1;have N:=Z λD (h:Dv f k f.length D)=>h.fing;have M:=Z o;obtain⟨W1,az,hA1,ad⟩:=LC 0 g (c+lb) rc d w n hz;have t:=Z (Dv.start f k);rw[<-E,<-v]at t;have S:DE Y (d.drop (c+lb)):=bg.drop _;have Ql:(d.drop (c+lb)).length=d.length-(c+lb):=A5;obtain⟨W,hZ⟩:∃W,W=d.length:=⟨_,J⟩;rw[<-hZ]at Ql hz ⊢;generalize d.drop (c+lb)=s at *;obtain⟨L,y,R,U,z⟩:=Ej ai E v am an;clear ai E v ra o hZ n am an;go_enter func153,ntmps153
 go_wp2;go_loopw [19] (λH wr=>∃(i:Nat) (D:Ja),H=C .i64 i/\i<=c/\Hid (Dv f k i D)/\DG wr g (D++s)/\w.grownBy wr (some g))
  (λH _=>c-(intOf H).toNat)
 case atStart=>exact⟨0,_,J,AH _,t.o,hA1,ad⟩
 case round=>
  clear t hA1 ad az;obtain⟨i,D,rfl,hi,m,n,r⟩:=hrel;have Qn:=m.o.1;rw[<-y.o,<-R.o]at Qn;by_cases ak:i<c
  . obtain⟨ab,ao,rfl,aq,ah⟩:=L.o i ak;have bk:=(BS (w:=w) (r.block ab aq λe=>U.o _ J O (by cases e;rfl))).trans ah;have hw:=xa.getD uo i;have V:=Z λover q (h:YE D k i (f[i]?.getD 0) k.length over q)=>m.o.step xa xb (by rw[<-y.o];exact ak) J h;have Qm:=Row.grown M.o r z.o;have x:=m.o.2.1.append S;rw[<-R.o]at V;generalize f[i]?.getD 0=wd at *;clear ah;go_wp2_with(go_at_call 172;refine(IG g i lb _ (D++s) b A k wd _ n x (by rw[AE];omega) O Qm xb z.o hw).mono ?_;rintro e w5 ⟨over,q,rfl,F,hA5,bc⟩;have T:=JK F.1 (xs:=D++s) (ro:=i) (by rw[AE];omega);have bj:=hA5.cell (j:=i+lb) (by rw[T,AE];omega);have bm:=hA5.frozen (i+lb);have P:=Z F;clear F T)
    have Q:=hA5.set (i+lb) over;rw[LF O,List.set_append_left _ _ (by rw[JK P.o.1 O];omega)]at Q;exact⟨⟨i+1,(DL D i lb q).set (i+lb) over,sp,O,V.o over q (P.o.tail O),Q,Je (Je r bc) (JB _ _ _ _)⟩,by simp[intOf];omega⟩
  . obtain rfl:i=c:=O
    have Qe:Row .u64 wr (B (some ⟨g,0,none⟩) (i+lb) rc) D:=by
     have h1:=n.row 0 (i+lb) rc DO ay bf bd;rwa[AB,A3 O,Ac O]at h1
    have Qo:=Z (N.o D (by rw[<-y.o];exact m.o));have x:=m.o.2.1.append S;clear m N L M U z;go_wp2_with(go_at_call 132;refine(F8 _ _ _ D _ Qe).mono ?_;rintro e w5 ⟨u,rfl,⟨G,ae⟩,aj⟩;rw[Qo.o]at G aj;obtain⟨ua,uc,rfl⟩:=UN.form G)
    go_ret;refine⟨_,J,⟨G,Je r (JJ ae _)⟩,?_,D++s,n.below ae,x,DO⟩;rcases aj with⟨e,_⟩|e
    . exact Al e
    . exact Au ⟨_,e⟩
def Em:Y=2^64:=by unfold Y;rfl
def EP(xs bs:Ja)(ro wd i over c:Nat)(q:Ja):Prop:=
 q.length=i/\DE Y q/\over<Y/\c<=1/\val Y q+val Y (bs.take i)*wd=val Y ((xs.drop ro).take i)+Y^i*(over+c)
def EP.start(xs bs:Ja)(ro wd:Nat):EP xs bs ro wd 0 0 0 []:=⟨J,DE.nil _,by unfold Y;omega,O,by simp[val]⟩
theorem EP.step(h:EP xs bs ro wd i over c q)(d a c':Nat)(f:d<Y)(g:a<Y)(e:c'<=1)(n:d+bs[i]?.getD 0*wd+over+c=xs[ro+i]?.getD 0+Y*(a+c')):EP xs bs ro wd (i+1) a c' (q++[d]):=by
 obtain⟨j,b,k,l,m⟩:=h;refine⟨by simp;omega,b.append (DE.cons f (DE.nil _)),g,e,?_⟩;grind[J0,Jl]
theorem O9{y r:Nat}(a:x<Y)(b:y<Y)(f:r<Y)(e:over<Y)(d:c<=1):
 YK x y+Yk (JZ x y) over 0<Y/\EA r (J3 (JZ x y) over 0) c<Y/\D6 r (J3 (JZ x y) over 0) c<=1/\J3 (JZ x y) over 0<Y/\
 EA r (J3 (JZ x y) over 0) c+x*y+over+c=r+Y*(YK x y+Yk (JZ x y) over 0+D6 r (J3 (JZ x y) over 0) c):=by
 have hp:=K1 a b;grind[YK,JZ,Yk,J3,EA,D6,Y]
theorem EP.last(h:EP xs bs ro wd n over c q)(k:bs.length=n)(b:d<Y)(j:d+over+c=xs[ro+n]?.getD 0+Y*c'):
 (q++[d]).length=n+1/\DE Y (q++[d])/\val Y (q++[d])+val Y bs*wd=val Y ((xs.drop ro).take (n+1))+Y^(n+1)*c':=by
 obtain⟨e,a,f,g,i⟩:=h;refine⟨by simp;omega,a.append (DE.cons b (DE.nil _)),?_⟩;grind[J0,Jl]
def Dg(x s:Nat):Nat:=x*2^s%Y
def Dc(x s:Nat):Nat:=x/2^s
theorem X0(hs:s<=64):2^s*2^(64-s)=Y:=by rw[<-Cx,show s+(64-s)=64 from by omega];rfl
theorem Fk(hs:s<=64):Dg x s=x%2^(64-s)*2^s:=by
 grind[Dg,X0,Nat.mul_mod_mul_right]
theorem PA(hs:s<=63)(e:x<Y)(d:c<2^s):c ||| Dg x s=c+Dg x s/\c+Dg x s<Y/\Dc x (64-s)<2^s/\c+Dg x s+Y*Dc x (64-s)=c+x*2^s:=by
 rw[Fk O];have hp:=X0 (s:=s) O;have g:=AO x (2^(64-s));have a:=AK x (AW (64-s));unfold Dc;have b:c ||| x%2^(64-s)*2^s=c+x%2^(64-s)*2^s:=by
  rw[Nat.or_comm,AC,<-CA d,CO]
 refine⟨b,?_,?_,?_⟩
 . have f:(x%2^(64-s)+1)*2^s<=2^(64-s)*2^s:=Af _ a;grind
 . rw[Aq (AW _),hp];exact e
 grind
def Eo(a:Ja)(s i:Nat)(q:Ja)(c:Nat):Prop:=
 q.length=i/\DE Y q/\c<2^s/\val Y q+Y^i*c=val Y (a.take i)*2^s
def Eo.start(a:Ja)(s:Nat):Eo a s 0 [] 0:=⟨J,DE.nil _,AW s,by simp[val]⟩
theorem Eo.step(h:Eo f s i q c)(e:d<Y)(b:c'<2^s)(l:d+Y*c'=c+f[i]?.getD 0*2^s):Eo f s (i+1) (q++[d]) c':=by
 obtain⟨g,a,j,k⟩:=h;refine⟨by simp;omega,a.append (DE.cons e (DE.nil _)),b,?_⟩;grind[J0,Jl]
theorem PB{P:Nat}(hs:s<=63)(f:x<Y):
 Dg (P%2^s) (64-s) ||| Dc x s=Dg (P%2^s) (64-s)+Dc x s/\Dg (P%2^s) (64-s)+Dc x s<Y/\Dg x (64-s)=Dg ((x+Y*P)%2^s) (64-s)/\
 (x+Y*P)/2^s=Dg (P%2^s) (64-s)+Dc x s+Y*(P/2^s):=by
 have hp:=X0 (s:=s) O;rw[Fk O,Fk O,Fk O,show 64-(64-s)=s from by omega,Nat.mod_mod];have i:Dc x s<2^(64-s):=by
  unfold Dc;rw[Aq (AW _),AC,hp];exact f
 have c:=AK P (AW s);have d:=AO P (2^s);refine⟨?_,?_,?_,?_⟩
 . grind[AC,CA]
 . have g:(P%2^s+1)*2^(64-s)<=2^s*2^(64-s):=Af _ c;grind
 . grind[Cf,Cj,Nat.mod_mod]
 . unfold Dc;have e:x+Y*P=x+2^s*(P%2^s*2^(64-s)+Y*(P/2^s)):=by
    rw[<-hp];generalize P/2^s=a at *;generalize P%2^s=b at *;generalize 2^(64-s)=E at *;generalize 2^s=F at *;rw[<-d];grind
   grind[Cw]
theorem PC(B:Nat)(ds:Ja)(k:Nat)(h:k<ds.length):val B (ds.drop k)=ds[k]?.getD 0+B*val B (ds.drop (k+1)):=by
 grind[AD,JO]
def Xq(a V n K k:Nat)(D Q:Ja):Prop:=
 D.length=K+n/\DE Y D/\Q.length=K/\DE Y Q/\val Y D<V*Y^k/\a=val Y D+V*val Y Q/\∀j,j<k->Q[j]?.getD 0=0
theorem Xq.win(h:Xq g V n K (k+1) D Q)(s:k<K)(r:V<Y^n):
 val Y ((D.drop k).take (n+1))<V*Y/\val Y D=val Y (D.take k)+Y^k*val Y ((D.drop k).take (n+1))/\val Y (D.drop (k+(n+1)))=0:=by
 obtain⟨i,j,l,m,f,o,p⟩:=h;have q:0<Y:=by unfold Y;omega
 have d:val Y D<Y^(k+(n+1)):=by
  have e:Y^(k+(n+1))=Y^n*Y^(k+1):=by rw[<-Cx];congr 1;omega
  rw[e];exact Ao f (Af _ O)
 have c:=XV O d;have a:=val_append Y (D.take k) (D.drop k);rw[AR,Ae,Ct O]at a;have b:=val_append Y ((D.drop k).take (n+1)) ((D.drop k).drop (n+1));rw[AR,CV,c,A8,AX]at b;rw[b]at a;refine⟨?_,a,c⟩;rcases Az (val Y ((D.drop k).take (n+1))) (V*Y)with h|h
 . exact h
 . exfalso
   have:=Ar (Y^k) h;have e:Y^k*(V*Y)=V*Y^(k+1):=by rw[A9];grind
   omega
theorem Xq.step(h:Xq g V n K (k+1) D Q)(r:k<K)(p:V<Y^n)(t:q.length=n+1)(s:DE Y q)
(u:val Y q=val Y ((D.drop k).take (n+1))%V)(c:0<V):
 Xq g V n K k (DL D k (n+1) q) (Q.set k (val Y ((D.drop k).take (n+1))/V)):=by
 obtain⟨v,L,w⟩:=h.win r p;obtain⟨l,b,y,m,z,A,o⟩:=h;have E:0<Y:=by unfold Y;omega
 generalize F:val Y ((D.drop k).take (n+1))=W at *;have G:=AO W V;have e:=AK W c;have d:W/V<Y:=by rw[Aq c,AC];exact v
 have f:val Y (DL D k (n+1) q)=val Y (D.take k)+Y^k*val Y q:=by
  rw[DL,val_append,val_append,Ae,Ct O,w];simp
 have i:=IM Y Q k (W/V) O;rw[o k O,A8,AX]at i;have I:val Y (D.take k)<Y^k:=by
  have:=JS (b.take k);rwa[Ae,Ct O]at this
 refine⟨by rw[JK t O];exact l,?_,DO,?_,?_,?_,?_⟩
 . intro x a;rw[DL]at a;rcases Cp.1 a with a|a
   . exact(b.take k) x a
   . rcases Cp.1 a with a|a
     . exact s x a
     . exact(b.drop _) x a
 . intro x a;rcases List.mem_or_eq_of_mem_set a with a|a
   . exact m x a
   . rw[a];exact d
 . rw[f,u];have:=Ar (Y^k) (show W%V+1<=V from e);grind
 . grind
 . intro j H;grind
theorem Xq.start(b:D.length=K+n)(c:DE Y D)(a:val Y D=g)(d:g<V*Y^K):Xq g V n K K D (TT K 0):=
 ⟨b,c,AZ,λx e=>by grind[Y],by rw[a];exact d,by rw[LD,A8,a,AX],λj _=>by
  grind⟩
theorem Xq.fin{b:Nat}(h:Xq g V n K 0 D Q)(k:g=m*2^s)(l:V=b*2^s):Jp Q=Jb Y (m/b)/\val Y D=m%b*2^s:=by
 obtain⟨a,c,d,e,f,i,j⟩:=h;grind[Cw,AV,Cj,Cb,Nat.mul_div_mul_right,Nat.mul_mod_mul_right,JN,Jc]
def PD(f ro len cap:Nat)(xs:Ja)(a:TR)(D:Nat)(bs:Ja)(wd:Nat)(w:World)
(U:DG w f xs)(I:DE Y xs)(ak:ro+(len+1)<=xs.length)(ah:len+1<=cap)(E:Row .u64 w (B a len D) bs)(W:DE Y bs)(F:∀p,a=some p->0<len->p.block≠f)(H:wd<Y):
 Calls Tryz.prog 199 #[B (some ⟨f,ro,none⟩) (len+1) cap,B a len D,C .u64 (wd:Nat)] w λe z=>
  ∃c q,e=.returned (C .u64 (c:Nat))/\(c<=1/\q.length=len+1/\DE Y q/\val Y q+val Y bs*wd=val Y ((xs.drop ro).take (len+1))+Y^(len+1)*c)/\DG z f (DL xs ro (len+1) q)/\w.grownBy z (some f):=by
 obtain⟨hl,ai,ae,aj,l⟩:=Jm E;obtain⟨M,L,N⟩:=DY hl l F;clear l hl F E;go_enter func199,ntmps199
 go_wp2;go_loopw [7,8,16] (λov T v wr=>∃(i over c:Nat) (q:Ja),v=C .i64 i/\ov=C .u64 (over:Nat)/\T=C .u64 (c:Nat)/\i<=len/\over<Y/\c<=1/\Hid (EP xs bs ro wd i over c q)/\DG wr f (DL xs ro i q)/\w.grownBy wr (some f))
  (λ_ _ v _=>len-(intOf v).toNat)
 case atStart=>exact⟨0,0,0,[],J,J,J,AH _,by unfold Y;omega,O,EP.start _ _ _ _,by rw[mid_zero];exact U,Yi _ _⟩
 case round=>
  obtain⟨i,over,c,q,rfl,rfl,rfl,hi,G,n,m,j,hg⟩:=hrel;by_cases X:i<len
  . obtain⟨b,am,rfl,V,l⟩:=L.o i X;have R:=N.o _ J O;have g:=m.o.1;have ad:=(BS (w:=w) (hg.block b V λe=>R (by cases e;rfl))).trans l;have P:wr.cell? ⟨f,ro+i,none⟩=some (C .u64 (xs[ro+i]?.getD 0:Nat)):=by rw[<-XM g O];exact j.cell (by rw[JK g O];omega)
    have Q:=j.frozen (ro+i);have A:=W.getD uo i;have u:=I.getD uo (ro+i);obtain⟨o,y,s,s4,K⟩:=O9 A H u G n;have k:=Z (m.o.step _ _ _ y o s K);have t:=Z (show ∀d,(DL xs ro i q).set (ro+i) d=DL xs ro (i+1) (q++[d])from λd=>Ek g O d);clear l g K;generalize bs[i]?.getD 0=x at *;generalize xs[ro+i]?.getD 0=r at *;have a1:=GG (JZ x wd) over;have S:=GH r (J3 (JZ x wd) over 0) c n;unfold Y at o;go_wp2_with(first
     |(go_at_call 190;refine(XO _ _ A H _).mono ?_;rintro e z ⟨rfl,rfl⟩))
    exact⟨⟨i+1,YK x wd+Yk (JZ x wd) over 0,D6 r (J3 (JZ x wd) over 0) c,q++[EA r (J3 (JZ x wd) over 0) c],sp,sp,J,O,k.o.2.2.1,k.o.2.2.2.1,k,by rw[<-t.o];exact j.set _ _,Je hg (JB _ _ _ _)⟩,by simp[intOf];omega⟩
  . obtain rfl:i=len:=O
    have g:=m.o.1;have P:wr.cell? ⟨f,ro+i,none⟩=some (C .u64 (xs[ro+i]?.getD 0:Nat)):=by rw[<-XM g O];exact j.cell (by rw[JK g O];omega)
    have Q:=j.frozen (ro+i);have u:=I.getD uo (ro+i);obtain⟨o,y,s⟩:=IA u G n;have k:=Z (m.o.last M.o.symm o s);have t:=Z (show ∀d,(DL xs ro i q).set (ro+i) d=DL xs ro (i+1) (q++[d])from λd=>Ek g O d);clear g s;generalize xs[ro+i]?.getD 0=r at *;have S:=GH r over c n;go_wp2;go_ret;exact⟨D6 r over c,_,J,⟨y,k.o⟩,by rw[<-t.o];exact j.set _ _,Je hg (JB _ _ _ _)⟩
