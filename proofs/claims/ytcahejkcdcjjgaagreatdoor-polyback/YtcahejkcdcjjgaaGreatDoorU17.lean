import Derived.Test.YtcahejkcdcjjgaaGreatDoorU10
import Derived.Test.YtcahejkcdcjjgaaGreatDoorU09
set_option linter.all false
open Go.Value renaming slice->B,int->C
set_option maxRecDepth 99999
set_option maxHeartbeats 0
namespace Go.Proofs.YtcahejkcdcjjgaaGreatDoor
open List renaming replicate->Td
open Proofs.Tryz
open Go.RowKit Go.Shelf
variable{D Q bs f q xs:Ta}{K V c c' d g i k len m n over ro s wd x:Nat}
theorem PS{o v:Nat}(h:o<f.length):(f.set o v).take (o+1)=f.take o++[v]:=by
 grind[AM,List.take_set,Ae]
def LV{b:Nat}:∀(c:Ta) (o:Nat) (W:World) (a:Ta),C9 W b a->o+c.length<=a.length->C9 (W.setCells b o (cellsOf .u64 c)) b (a.take o++(c++a.drop (o+c.length)))
 |[],o,W,a,h,_=>by
  have e:a.take o++([]++a.drop (o+([]:Ta).length))=a:=B5
  rw[e];exact h
 |v::r,o,W,a,h,hl=>by
  rw[Ag]at hl;have d:=LV r (o+1) (W.setCell ⟨b,o,none⟩ (C .u64 (v:Nat))) (a.set o v) (h.set o v) DJ;rw[PS Y,List.drop_set_of_lt Y,Cr]at d;have e:o+1+r.length=o+(v::r).length:=by rw[Ag];omega
  rw[e]at d;exact d
theorem LW{b:Nat}:∀(a:List Value) (o:Nat) (W:World),W.grownBy (W.setCells b o a) (some b)
 |[],_,W=>Ya W _
 |v::r,o,W=>Je (Jt W b o v) (LW r (o+1) _)
theorem LX(ty:TypeId)(g n c:Nat)(a:Ta)(W:World)(h:C9 W g a)(k:n<=a.length):
 ∃W',(Builtin.clear_ #[34] ty #[B (some ⟨g,0,none⟩) n c]).run Tryz.prog W=.ok (.tuple #[]) W'/\C9 W' g (Td n 0++a.drop n)/\W.grownBy W' (some g):=by
 rcases AE n with b|b
 . subst b;refine⟨W,?_,?_,Ya W _⟩
   . simp[Builtin.clear_,run_underlying underlying34]
   grind
 . have d:=Lib.run_clear_slice (P:=Tryz.prog) W 34 163 ty (C .u64 0) underlying34 (λw=>by kernel_rfl) J J g 0 n c b
    (λj i=>by rw[Cp,h.cell Y];rfl) λj _=>h.frozen _
   have e:(Td n (Value.int .u64 0))=cellsOf .u64 (Td n 0):=by simp[cellsOf]
   rw[e]at d;have f:=LV (Td n 0) 0 W a h DJ;grind[LW]
theorem Il(B:Nat):∀(D:Ta) (j d:Nat),j<D.length->val B (D.set j d)+B^j*D[j]?.getD 0=val B D+B^j*d
 |[],_,_,h=>by cases h
 |x::D,0,d,_=>by simp[val];omega
 |x::D,j+1,d,h=>by
  have a:=Il B D j d (by simpa using h);grind[val]
def LY(B n:Nat):val B (Td n 0)=0:=by
 induction n with
 |zero=>rfl
 |succ n a=>rw[Cu,val,a];simp
def Dn(a bs:Ta)(i:Nat)(D:Ta):Prop:=
 D.length=a.length+bs.length/\B7 O D/\val O D=val O (a.take i)*val O bs
theorem Dn.start(a bs:Ta):Dn a bs 0 (Td (a.length+bs.length) 0):=
 ⟨A3,λx b=>by grind[O],by rw[LY];simp[val]⟩
def LZ{B:Nat}(c:0<B):∀ {D:Ta},val B D=0->∀j:Nat,D[j]?.getD 0=0
 |[],_,j=>by simp
 |d::D,h,0=>by
  rw[JQ]at h;show d=0;omega
 |d::D,h,j+1=>by
  rw[JQ]at h;have a:B*val B D=0:=Y
  have b:val B D=0:=by
   rcases Nat.mul_eq_zero.1 a with h|h
   . omega
   . exact h
  rw[AP];exact LZ c b j
def XZ{B:Nat}(c:k<=D.length)(h:val B D<B^k):val B (D.drop k)=0:=by
 have e:val B D=val B (D.take k)+B^k*val B (D.drop k):=by
  have b:=val_append B (D.take k) (D.drop k);rw[AQ,Ae,Cw c]at b;exact b
 rcases AE (val B (D.drop k))with a|a
 . exact a
 . have:=Aq (B^k) a;omega
theorem Dn.step(h:Dn f bs i D)(r:B7 O f)(o:B7 O bs)(v:i<f.length)(w:wd=f[i]?.getD 0)(p:YN D bs i wd bs.length over q):
 Dn f bs (i+1) ((DF D i bs.length q).set (i+bs.length) over):=by
 obtain⟨u,k,n⟩:=h;obtain⟨q1,q2,q3,y⟩:=p;have m:val O D<O^(i+bs.length):=by
  rw[n,Cz];have b:=JV (r.take i);rw[Ae,Cw Y]at b;have c:=JV o;rcases AE (val O bs)with j|j
  . rw[j,A8];exact B3 (C3 uo) (C3 uo)
  . exact Nat.mul_lt_mul'' b c
 have d:=XZ Y m;have l:(DF D i bs.length q).length=D.length:=JL q1 Y;refine⟨DJ,?_,?_⟩
 . intro x a;rcases List.mem_or_eq_of_mem_set a with a|a
   . rw[DF]at a;rcases Co.1 a with a|a
     . exact(k.take i) x a
     . rcases Co.1 a with a|a
       . exact q2 x a
       . exact(k.drop _) x a
   . rw[a];exact q3
 . have b:=Il O (DF D i bs.length q) (i+bs.length) over (by rw[l];omega);have c:(DF D i bs.length q)[i+bs.length]?.getD 0=0:=by
    rw[XO q1 Y];have:=LZ uo d 0;rw[List.getElem?_drop,AV]at this;exact this
   rw[c,A8,AV]at b;rw[b];have s:val O (DF D i bs.length q)=val O (D.take i)+O^i*val O q:=by
    rw[DF,val_append,val_append,Ae,Cw Y,d];simp
   have t:val O D=val O (D.take i)+O^i*val O ((D.drop i).take bs.length):=by
    have e:=val_append O (D.take i) (D.drop i);rw[AQ,Ae,Cw Y]at e;have g:=val_append O ((D.drop i).take bs.length) ((D.drop i).drop bs.length);rw[AQ,CM,d,A8,AV]at g;rw[e,g]
   grind[Jl]
theorem Dn.fin(h:Dn f bs f.length D)(c:f=Jb O m)(d:bs=Jb O n):Jq D=Jb O (m*n):=by
 obtain⟨_,a,b⟩:=h;grind[JM,Jd,Jj]
theorem YN.tail(h:YN (D++f) bs i wd len over q)(e:i+len<=D.length):YN D bs i wd len over q:=by
 obtain⟨a,b,c,d⟩:=h;refine⟨a,b,c,?_⟩;grind
theorem La(a:i+len<=D.length):DF (D++f) i len q=DF D i len q++f:=by
 grind[DF]
def PT(g rl rc:Nat)(d:Ta)(a:Tb)(c ca:Nat)(b:Tb)(lb F m n:Nat)(w:World)
(k:C9 w g d)(bf:B7 O d)(hz:c+lb<=d.length)(aq:c+lb<=rc)(bd:rc<=9223372036854775807)(bc:c+lb<=1099511627776)
(ra:Row .u64 w (B a c ca) (Jb O m))(o:Row .u64 w (B b lb F) (Jb O n))(am:∀p,a=some p->0<c->p.block≠g)(an:∀p,b=some p->0<lb->p.block≠g):
 Calls Tryz.prog 153 #[B (some ⟨g,0,none⟩) rl rc,B a c ca,B b lb F] w λe L=>∃u,e=.returned u/\(UN L u (m*n)/\w.grownBy L (some g))/\(u=B none 0 0\/∃l,u=B (some ⟨g,0,none⟩) l rc)/\∃M,C9 L g M/\B7 O M/\M.length=d.length:=by
 obtain⟨G,bg,bn,bm,ai⟩:=Jm ra;have y:=(Jm o).1;have bh:=(Jm o).2.1;have bt:=(Jm o).2.2.1;have xa:=Ji Jd m;have xb:=Ji Jd n;have Q:=Ja λD (h:Dn (Jb O m) (Jb O n) (Jb O m).length D)=>h.fin (m:=m) (n:=n) J J;have P:=Ja o;generalize Jb O m=v at *;generalize Jb O n=r at *;obtain⟨W1,ay,hA1,ad⟩:=LX 0 g (c+lb) rc d w k hz;have x:=Ja (Dn.start v r);rw[<-G,<-y]at x;have U:B7 O (d.drop (c+lb)):=bf.drop _;have Ql:(d.drop (c+lb)).length=d.length-(c+lb):=AX;obtain⟨Z,hZ⟩:∃Z,Z=d.length:=⟨_,J⟩;rw[<-hZ]at Ql hz ⊢;generalize d.drop (c+lb)=t at *;obtain⟨N,A,T,W,E⟩:=Ei ai G y am an;clear ai G y ra o hZ k am an;go_enter func153,ntmps153
 go_wp2;go_loopw [19] (λK wr=>∃(i:Nat) (D:Ta),K=C .i64 i/\i<=c/\Hid (Dn v r i D)/\C9 wr g (D++t)/\w.grownBy wr (some g))
  (λK _=>c-(intOf K).toNat)
 case atStart=>exact⟨0,_,J,AL _,x.o,hA1,ad⟩
 case round=>
  clear x hA1 ad ay;obtain⟨i,D,rfl,hi,f,k,s⟩:=hrel;have Qn:=f.o.1;rw[<-A.o,<-T.o]at Qn;by_cases ak:i<c
  . obtain⟨ab,ao,rfl,ap,ah⟩:=N.o i ak;have bj:=(BO (w:=w) (s.block ab ap λe=>W.o _ J Y (by cases e;rfl))).trans ah;have hw:=xa.getD uo i;have X:=Ja λover q (h:YN D r i (v[i]?.getD 0) r.length over q)=>f.o.step xa xb (by rw[<-A.o];exact ak) J h;have Qm:=Row.grown P.o s E.o;have z:=f.o.2.1.append U;rw[<-T.o]at X;generalize v[i]?.getD 0=wd at *;clear ah;go_wp2_with(go_at_call 172;refine(Ie g i lb _ (D++t) b F r wd _ k z (by rw[As];omega) Y Qm xb E.o hw).mono ?_;rintro e w5 ⟨over,q,rfl,H,hA5,az⟩;have V:=JL H.1 (xs:=D++t) (ro:=i) (by rw[As];omega);have bi:=hA5.cell (j:=i+lb) (by rw[V,As];omega);have bk:=hA5.frozen (i+lb);have R:=Ja H;clear H V)
    have S:=hA5.set (i+lb) over;rw[La Y,List.set_append_left _ _ (by rw[JL R.o.1 Y];omega)]at S;exact⟨⟨i+1,(DF D i lb q).set (i+lb) over,B5,Y,X.o over q (R.o.tail Y),S,Je (Je s az) (Jt _ _ _ _)⟩,by simp[intOf];omega⟩
  . obtain rfl:i=c:=Y
    have Qe:Row .u64 wr (B (some ⟨g,0,none⟩) (i+lb) rc) D:=by
     have h1:=k.row 0 (i+lb) rc DJ aq bd bc;rwa[At,A4 Y,Ac Y]at h1
    have Qo:=Ja (Q.o D (by rw[<-A.o];exact f.o));have z:=f.o.2.1.append U;clear f Q N P W E;go_wp2_with(go_at_call 132;refine(GQ _ _ _ D _ Qe).mono ?_;rintro e w5 ⟨u,rfl,⟨I,ae⟩,aj⟩;rw[Qo.o]at I aj;obtain⟨ua,uc,rfl⟩:=UN.form I)
    go_ret;refine⟨_,J,⟨I,Je s (JK ae _)⟩,?_,D++t,k.below ae,z,DJ⟩;rcases aj with⟨e,_⟩|e
    . exact Ao e
    . exact Ax ⟨_,e⟩
theorem Dn.fing(h:Dn f bs f.length D):Jq D=Jb O (val O f*val O bs):=by
 obtain⟨_,a,b⟩:=h;grind[JM,Jd]
def PU(g rl rc:Nat)(d:Ta)(a:Tb)(c W:Nat)(b:Tb)(lb A:Nat)(f k:Ta)(w:World)(xa:B7 O f)(xb:B7 O k)
(n:C9 w g d)(bd:B7 O d)(hz:c+lb<=d.length)(ap:c+lb<=rc)(bc:rc<=9223372036854775807)(az:c+lb<=1099511627776)
(ra:Row .u64 w (B a c W) f)(o:Row .u64 w (B b lb A) k)(ak:∀p,a=some p->0<c->p.block≠g)(am:∀p,b=some p->0<lb->p.block≠g):
 Calls Tryz.prog 153 #[B (some ⟨g,0,none⟩) rl rc,B a c W,B b lb A] w λe I=>∃u,e=.returned u/\(UN I u (val O f*val O k)/\w.grownBy I (some g))/\(u=B none 0 0\/∃l,u=B (some ⟨g,0,none⟩) l rc)/\∃K,C9 I g K/\B7 O K/\K.length=d.length:=by
 obtain⟨E,bf,bm,bk,ah⟩:=Jm ra;have v:=(Jm o).1;have bg:=(Jm o).2.1;have bn:=(Jm o).2.2.1;have N:=Ja λD (h:Dn f k f.length D)=>h.fing;have M:=Ja o;obtain⟨W1,aq,hA1,X⟩:=LX 0 g (c+lb) rc d w n hz;have t:=Ja (Dn.start f k);rw[<-E,<-v]at t;have S:B7 O (d.drop (c+lb)):=bd.drop _;have Ql:(d.drop (c+lb)).length=d.length-(c+lb):=AX;obtain⟨Z,hZ⟩:∃Z,Z=d.length:=⟨_,J⟩;rw[<-hZ]at Ql hz ⊢;generalize d.drop (c+lb)=s at *;obtain⟨L,y,R,U,z⟩:=Ei ah E v ak am;clear ah E v ra o hZ n ak am;go_enter func153,ntmps153
 go_wp2;go_loopw [19] (λH wr=>∃(i:Nat) (D:Ta),H=C .i64 i/\i<=c/\Hid (Dn f k i D)/\C9 wr g (D++s)/\w.grownBy wr (some g))
  (λH _=>c-(intOf H).toNat)
 case atStart=>exact⟨0,_,J,AL _,t.o,hA1,X⟩
 case round=>
  clear t hA1 X aq;obtain⟨i,D,rfl,hi,m,n,r⟩:=hrel;have Qn:=m.o.1;rw[<-y.o,<-R.o]at Qn;by_cases aj:i<c
  . obtain⟨ab,ao,rfl,an,ae⟩:=L.o i aj;have bi:=(BO (w:=w) (r.block ab an λe=>U.o _ J Y (by cases e;rfl))).trans ae;have hw:=xa.getD uo i;have V:=Ja λover q (h:YN D k i (f[i]?.getD 0) k.length over q)=>m.o.step xa xb (by rw[<-y.o];exact aj) J h;have Qm:=Row.grown M.o r z.o;have x:=m.o.2.1.append S;rw[<-R.o]at V;generalize f[i]?.getD 0=wd at *;clear ae;go_wp2_with(go_at_call 172;refine(Ie g i lb _ (D++s) b A k wd _ n x (by rw[As];omega) Y Qm xb z.o hw).mono ?_;rintro e w5 ⟨over,q,rfl,F,hA5,ay⟩;have T:=JL F.1 (xs:=D++s) (ro:=i) (by rw[As];omega);have bh:=hA5.cell (j:=i+lb) (by rw[T,As];omega);have bj:=hA5.frozen (i+lb);have P:=Ja F;clear F T)
    have Q:=hA5.set (i+lb) over;rw[La Y,List.set_append_left _ _ (by rw[JL P.o.1 Y];omega)]at Q;exact⟨⟨i+1,(DF D i lb q).set (i+lb) over,B5,Y,V.o over q (P.o.tail Y),Q,Je (Je r ay) (Jt _ _ _ _)⟩,by simp[intOf];omega⟩
  . obtain rfl:i=c:=Y
    have Qe:Row .u64 wr (B (some ⟨g,0,none⟩) (i+lb) rc) D:=by
     have h1:=n.row 0 (i+lb) rc DJ ap bc az;rwa[At,A4 Y,Ac Y]at h1
    have Qo:=Ja (N.o D (by rw[<-y.o];exact m.o));have x:=m.o.2.1.append S;clear m N L M U z;go_wp2_with(go_at_call 132;refine(GQ _ _ _ D _ Qe).mono ?_;rintro e w5 ⟨u,rfl,⟨G,ad⟩,ai⟩;rw[Qo.o]at G ai;obtain⟨ua,uc,rfl⟩:=UN.form G)
    go_ret;refine⟨_,J,⟨G,Je r (JK ad _)⟩,?_,D++s,n.below ad,x,DJ⟩;rcases ai with⟨e,_⟩|e
    . exact Ao e
    . exact Ax ⟨_,e⟩
def FC:O=2^64:=by unfold O;rfl
def EW(xs bs:Ta)(ro wd i over c:Nat)(q:Ta):Prop:=
 q.length=i/\B7 O q/\over<O/\c<=1/\val O q+val O (bs.take i)*wd=val O ((xs.drop ro).take i)+O^i*(over+c)
def EW.start(xs bs:Ta)(ro wd:Nat):EW xs bs ro wd 0 0 0 []:=⟨J,B7.nil _,by unfold O;omega,Y,by simp[val]⟩
theorem EW.step(h:EW xs bs ro wd i over c q)(d a c':Nat)(f:d<O)(g:a<O)(e:c'<=1)(n:d+bs[i]?.getD 0*wd+over+c=xs[ro+i]?.getD 0+O*(a+c')):EW xs bs ro wd (i+1) a c' (q++[d]):=by
 obtain⟨j,b,k,l,m⟩:=h;refine⟨by simp;omega,b.append (B7.cons f (B7.nil _)),g,e,?_⟩;grind[J1,Jl]
theorem PV{y r:Nat}(a:x<O)(b:y<O)(f:r<O)(e:over<O)(d:c<=1):
 YT x y+Ys (JZ x y) over 0<O/\D8 r (J2 (JZ x y) over 0) c<O/\D4 r (J2 (JZ x y) over 0) c<=1/\J2 (JZ x y) over 0<O/\
 D8 r (J2 (JZ x y) over 0) c+x*y+over+c=r+O*(YT x y+Ys (JZ x y) over 0+D4 r (J2 (JZ x y) over 0) c):=by
 have hp:=LN a b;grind[YT,JZ,Ys,J2,D8,D4,O]
theorem EW.last(h:EW xs bs ro wd n over c q)(k:bs.length=n)(b:d<O)(j:d+over+c=xs[ro+n]?.getD 0+O*c'):
 (q++[d]).length=n+1/\B7 O (q++[d])/\val O (q++[d])+val O bs*wd=val O ((xs.drop ro).take (n+1))+O^(n+1)*c':=by
 obtain⟨e,a,f,g,i⟩:=h;refine⟨by simp;omega,a.append (B7.cons b (B7.nil _)),?_⟩;grind[J1,Jl]
def DZ(x s:Nat):Nat:=x*2^s%O
def DS(x s:Nat):Nat:=x/2^s
theorem X6(hs:s<=64):2^s*2^(64-s)=O:=by rw[<-Cz,show s+(64-s)=64 from by omega];rfl
theorem F0(hs:s<=64):DZ x s=x%2^(64-s)*2^s:=by
 grind[DZ,X6,Nat.mul_mod_mul_right]
theorem PW(hs:s<=63)(e:x<O)(d:c<2^s):c ||| DZ x s=c+DZ x s/\c+DZ x s<O/\DS x (64-s)<2^s/\c+DZ x s+O*DS x (64-s)=c+x*2^s:=by
 rw[F0 Y];have hp:=X6 (s:=s) Y;have g:=AO x (2^(64-s));have a:=AJ x (AR (64-s));unfold DS;have b:c ||| x%2^(64-s)*2^s=c+x%2^(64-s)*2^s:=by
  rw[Nat.or_comm,AC,<-CC d,CP]
 refine⟨b,?_,?_,?_⟩
 . have f:(x%2^(64-s)+1)*2^s<=2^(64-s)*2^s:=Af _ a;grind
 . rw[Ap (AR _),hp];exact e
 grind
def FD(a:Ta)(s i:Nat)(q:Ta)(c:Nat):Prop:=
 q.length=i/\B7 O q/\c<2^s/\val O q+O^i*c=val O (a.take i)*2^s
def FD.start(a:Ta)(s:Nat):FD a s 0 [] 0:=⟨J,B7.nil _,AR s,by simp[val]⟩
theorem FD.step(h:FD f s i q c)(e:d<O)(b:c'<2^s)(l:d+O*c'=c+f[i]?.getD 0*2^s):FD f s (i+1) (q++[d]) c':=by
 obtain⟨g,a,j,k⟩:=h;refine⟨by simp;omega,a.append (B7.cons e (B7.nil _)),b,?_⟩;grind[J1,Jl]
theorem PX{P:Nat}(hs:s<=63)(f:x<O):
 DZ (P%2^s) (64-s) ||| DS x s=DZ (P%2^s) (64-s)+DS x s/\DZ (P%2^s) (64-s)+DS x s<O/\DZ x (64-s)=DZ ((x+O*P)%2^s) (64-s)/\
 (x+O*P)/2^s=DZ (P%2^s) (64-s)+DS x s+O*(P/2^s):=by
 have hp:=X6 (s:=s) Y;rw[F0 Y,F0 Y,F0 Y,show 64-(64-s)=s from by omega,Nat.mod_mod];have i:DS x s<2^(64-s):=by
  unfold DS;rw[Ap (AR _),AC,hp];exact f
 have c:=AJ P (AR s);have d:=AO P (2^s);refine⟨?_,?_,?_,?_⟩
 . grind[AC,CC]
 . have g:(P%2^s+1)*2^(64-s)<=2^s*2^(64-s):=Af _ c;grind
 . grind[Ce,Cj,Nat.mod_mod]
 . unfold DS;have e:x+O*P=x+2^s*(P%2^s*2^(64-s)+O*(P/2^s)):=by
    rw[<-hp];generalize P/2^s=a at *;generalize P%2^s=b at *;generalize 2^(64-s)=E at *;generalize 2^s=F at *;rw[<-d];grind
   grind[Cy]
theorem PY(B:Nat)(ds:Ta)(k:Nat)(h:k<ds.length):val B (ds.drop k)=ds[k]?.getD 0+B*val B (ds.drop (k+1)):=by
 grind[AD,JQ]
def Xp(a V n K k:Nat)(D Q:Ta):Prop:=
 D.length=K+n/\B7 O D/\Q.length=K/\B7 O Q/\val O D<V*O^k/\a=val O D+V*val O Q/\∀j,j<k->Q[j]?.getD 0=0
theorem Xp.win(h:Xp g V n K (k+1) D Q)(s:k<K)(r:V<O^n):
 val O ((D.drop k).take (n+1))<V*O/\val O D=val O (D.take k)+O^k*val O ((D.drop k).take (n+1))/\val O (D.drop (k+(n+1)))=0:=by
 obtain⟨i,j,l,m,f,o,p⟩:=h;have q:0<O:=by unfold O;omega
 have d:val O D<O^(k+(n+1)):=by
  have e:O^(k+(n+1))=O^n*O^(k+1):=by rw[<-Cz];congr 1;omega
  rw[e];exact Ak f (Af _ Y)
 have c:=XZ Y d;have a:=val_append O (D.take k) (D.drop k);rw[AQ,Ae,Cw Y]at a;have b:=val_append O ((D.drop k).take (n+1)) ((D.drop k).drop (n+1));rw[AQ,CM,c,A8,AV]at b;rw[b]at a;refine⟨?_,a,c⟩;rcases AH (val O ((D.drop k).take (n+1))) (V*O)with h|h
 . exact h
 . exfalso
   have:=Aq (O^k) h;have e:O^k*(V*O)=V*O^(k+1):=by rw[A9];grind
   omega
theorem Xp.step(h:Xp g V n K (k+1) D Q)(r:k<K)(p:V<O^n)(t:q.length=n+1)(s:B7 O q)
(u:val O q=val O ((D.drop k).take (n+1))%V)(c:0<V):
 Xp g V n K k (DF D k (n+1) q) (Q.set k (val O ((D.drop k).take (n+1))/V)):=by
 obtain⟨v,L,w⟩:=h.win r p;obtain⟨l,b,y,m,z,A,o⟩:=h;have E:0<O:=by unfold O;omega
 generalize F:val O ((D.drop k).take (n+1))=W at *;have G:=AO W V;have e:=AJ W c;have d:W/V<O:=by rw[Ap c,AC];exact v
 have f:val O (DF D k (n+1) q)=val O (D.take k)+O^k*val O q:=by
  rw[DF,val_append,val_append,Ae,Cw Y,w];simp
 have i:=Il O Q k (W/V) Y;rw[o k Y,A8,AV]at i;have I:val O (D.take k)<O^k:=by
  have:=JV (b.take k);rwa[Ae,Cw Y]at this
 refine⟨by rw[JL t Y];exact l,?_,DJ,?_,?_,?_,?_⟩
 . intro x a;rw[DF]at a;rcases Co.1 a with a|a
   . exact(b.take k) x a
   . rcases Co.1 a with a|a
     . exact s x a
     . exact(b.drop _) x a
 . intro x a;rcases List.mem_or_eq_of_mem_set a with a|a
   . exact m x a
   . rw[a];exact d
 . rw[f,u];have:=Aq (O^k) (show W%V+1<=V from e);grind
 . grind
 . intro j H;grind
theorem Xp.start(b:D.length=K+n)(c:B7 O D)(a:val O D=g)(d:g<V*O^K):Xp g V n K K D (Td K 0):=
 ⟨b,c,A3,λx e=>by grind[O],by rw[a];exact d,by rw[LY,A8,a,AV],λj _=>by
  grind⟩
theorem Xp.fin{b:Nat}(h:Xp g V n K 0 D Q)(k:g=m*2^s)(l:V=b*2^s):Jq Q=Jb O (m/b)/\val O D=m%b*2^s:=by
 obtain⟨a,c,d,e,f,i,j⟩:=h;grind[Cy,AY,Cj,Ca,Nat.mul_div_mul_right,Nat.mul_mod_mul_right,JM,Jd]
def PZ(f ro len cap:Nat)(xs:Ta)(a:Tb)(D:Nat)(bs:Ta)(wd:Nat)(w:World)
(U:C9 w f xs)(I:B7 O xs)(ak:ro+(len+1)<=xs.length)(ah:len+1<=cap)(E:Row .u64 w (B a len D) bs)(W:B7 O bs)(F:∀p,a=some p->0<len->p.block≠f)(H:wd<O):
 Calls Tryz.prog 199 #[B (some ⟨f,ro,none⟩) (len+1) cap,B a len D,C .u64 (wd:Nat)] w λe z=>
  ∃c q,e=.returned (C .u64 (c:Nat))/\(c<=1/\q.length=len+1/\B7 O q/\val O q+val O bs*wd=val O ((xs.drop ro).take (len+1))+O^(len+1)*c)/\C9 z f (DF xs ro (len+1) q)/\w.grownBy z (some f):=by
 obtain⟨hl,ai,ae,aj,l⟩:=Jm E;obtain⟨M,L,N⟩:=DO hl l F;clear l hl F E;go_enter func199,ntmps199
 go_wp2;go_loopw [7,8,16] (λov T v wr=>∃(i over c:Nat) (q:Ta),v=C .i64 i/\ov=C .u64 (over:Nat)/\T=C .u64 (c:Nat)/\i<=len/\over<O/\c<=1/\Hid (EW xs bs ro wd i over c q)/\C9 wr f (DF xs ro i q)/\w.grownBy wr (some f))
  (λ_ _ v _=>len-(intOf v).toNat)
 case atStart=>exact⟨0,0,0,[],J,J,J,AL _,by unfold O;omega,Y,EW.start _ _ _ _,by rw[mid_zero];exact U,Ya _ _⟩
 case round=>
  obtain⟨i,over,c,q,rfl,rfl,rfl,hi,G,n,m,j,hg⟩:=hrel;by_cases X:i<len
  . obtain⟨b,am,rfl,V,l⟩:=L.o i X;have R:=N.o _ J Y;have g:=m.o.1;have ad:=(BO (w:=w) (hg.block b V λe=>R (by cases e;rfl))).trans l;have P:wr.cell? ⟨f,ro+i,none⟩=some (C .u64 (xs[ro+i]?.getD 0:Nat)):=by rw[<-XO g Y];exact j.cell (by rw[JL g Y];omega)
    have Q:=j.frozen (ro+i);have A:=W.getD uo i;have u:=I.getD uo (ro+i);obtain⟨o,y,s,s4,K⟩:=PV A H u G n;have k:=Ja (m.o.step _ _ _ y o s K);have t:=Ja (show ∀d,(DF xs ro i q).set (ro+i) d=DF xs ro (i+1) (q++[d])from λd=>FA g Y d);clear l g K;generalize bs[i]?.getD 0=x at *;generalize xs[ro+i]?.getD 0=r at *;have a1:=GW (JZ x wd) over;have S:=GX r (J2 (JZ x wd) over 0) c n;unfold O at o;go_wp2_with(first
     |(go_at_call 190;refine(XQ _ _ A H _).mono ?_;rintro e z ⟨rfl,rfl⟩))
    exact⟨⟨i+1,YT x wd+Ys (JZ x wd) over 0,D4 r (J2 (JZ x wd) over 0) c,q++[D8 r (J2 (JZ x wd) over 0) c],B5,B5,J,Y,k.o.2.2.1,k.o.2.2.2.1,k,by rw[<-t.o];exact j.set _ _,Je hg (Jt _ _ _ _)⟩,by simp[intOf];omega⟩
  . obtain rfl:i=len:=Y
    have g:=m.o.1;have P:wr.cell? ⟨f,ro+i,none⟩=some (C .u64 (xs[ro+i]?.getD 0:Nat)):=by rw[<-XO g Y];exact j.cell (by rw[JL g Y];omega)
    have Q:=j.frozen (ro+i);have u:=I.getD uo (ro+i);obtain⟨o,y,s⟩:=IY u G n;have k:=Ja (m.o.last M.o.symm o s);have t:=Ja (show ∀d,(DF xs ro i q).set (ro+i) d=DF xs ro (i+1) (q++[d])from λd=>FA g Y d);clear g s;generalize xs[ro+i]?.getD 0=r at *;have S:=GX r over c n;go_wp2;go_ret;exact⟨D4 r over c,_,J,⟨y,k.o⟩,by rw[<-t.o];exact j.set _ _,Je hg (Jt _ _ _ _)⟩
