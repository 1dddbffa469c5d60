import Derived.Test.YtcahejkcdcjjgaaGreatDoorV10
import Derived.Test.YtcahejkcdcjjgaaGreatDoorV09
set_option linter.all false
open Go.Value renaming slice->B,int->C
set_option maxRecDepth 99999
set_option maxHeartbeats 0
namespace Go.Proofs.YtcahejkcdcjjgaaGreatDoor
open List renaming replicate->WC
open Proofs.Tryz
open Go.RowKit Go.Shelf
variable{D Q bs f q xs:Ja}{K V c c' d g i k len m n over ro s wd x:Nat}
theorem RI{o v:Nat}(h:o<f.length):(f.set o v).take (o+1)=f.take o++[v]:=by
 grind[AP,List.take_set,Af]
def Mc{b:Nat}:∀(c:Ja) (o:Nat) (W:World) (a:Ja),DN W b a->o+c.length<=a.length->DN (W.setCells b o (cellsOf .u64 c)) b (a.take o++(c++a.drop (o+c.length)))
 |[],o,W,a,h,_=>by
  have e:a.take o++([]++a.drop (o+([]:Ja).length))=a:=DJ
  rw[e];exact h
 |v::r,o,W,a,h,hl=>by
  rw[Ak]at hl;have d:=Mc r (o+1) (W.setCell ⟨b,o,none⟩ (C .u64 (v:Nat))) (a.set o v) (h.set o v) DX;rw[RI O,List.drop_set_of_lt O,A6]at d;have e:o+1+r.length=o+(v::r).length:=by rw[Ak];omega
  rw[e]at d;exact d
theorem Md{b:Nat}:∀(a:List Value) (o:Nat) (W:World),W.grownBy (W.setCells b o a) (some b)
 |[],_,W=>Yd W _
 |v::r,o,W=>Jd (Jy W b o v) (Md r (o+1) _)
theorem Me(ty:TypeId)(g n c:Nat)(a:Ja)(W:World)(h:DN W g a)(k:n<=a.length):
 ∃W',(Builtin.clear_ #[34] ty #[B (some ⟨g,0,none⟩) n c]).run Tryz.prog W=.ok (.tuple #[]) W'/\DN W' g (WC n 0++a.drop n)/\W.grownBy W' (some g):=by
 rcases AJ n with b|b
 . subst b;refine⟨W,?_,?_,Yd W _⟩
   . simp[Builtin.clear_,run_underlying underlying34]
   grind
 . have d:=Lib.run_clear_slice (P:=Tryz.prog) W 34 163 ty (C .u64 0) underlying34 (λw=>by kernel_rfl) J J g 0 n c b
    (λj i=>by rw[Cj,h.cell O];rfl) λj _=>h.frozen _
   have e:(WC n (Value.int .u64 0))=cellsOf .u64 (WC n 0):=by simp[cellsOf]
   rw[e]at d;have f:=Mc (WC n 0) 0 W a h DX;grind[Md]
theorem Kt(B:Nat):∀(D:Ja) (j d:Nat),j<D.length->val B (D.set j d)+B^j*D[j]?.getD 0=val B D+B^j*d
 |[],_,_,h=>by cases h
 |x::D,0,d,_=>by simp[val];omega
 |x::D,j+1,d,h=>by
  have a:=Kt B D j d (by simpa using h);grind[val]
def Mf(B n:Nat):val B (WC n 0)=0:=by
 induction n with
 |zero=>rfl
 |succ n a=>rw[Cu,val,a];simp
def D8(a bs:Ja)(i:Nat)(D:Ja):Prop:=
 D.length=a.length+bs.length/\DK Y D/\val Y D=val Y (a.take i)*val Y bs
theorem D8.start(a bs:Ja):D8 a bs 0 (WC (a.length+bs.length) 0):=
 ⟨AG,λx b=>by grind[Y],by rw[Mf];simp[val]⟩
def Mg{B:Nat}(c:0<B):∀ {D:Ja},val B D=0->∀j:Nat,D[j]?.getD 0=0
 |[],_,j=>by simp
 |d::D,h,0=>by
  rw[JS]at h;show d=0;omega
 |d::D,h,j+1=>by
  rw[JS]at h;have a:B*val B D=0:=O
  have b:val B D=0:=by
   rcases Nat.mul_eq_zero.1 a with h|h
   . omega
   . exact h
  rw[AR];exact Mg c b j
def Ku{B:Nat}(c:k<=D.length)(h:val B D<B^k):val B (D.drop k)=0:=by
 have e:val B D=val B (D.take k)+B^k*val B (D.drop k):=by
  have b:=val_append B (D.take k) (D.drop k);rw[AU,Af,Cv c]at b;exact b
 rcases AJ (val B (D.drop k))with a|a
 . exact a
 . have:=Aq (B^k) a;omega
theorem D8.step(h:D8 f bs i D)(r:DK Y f)(o:DK Y bs)(v:i<f.length)(w:wd=f[i]?.getD 0)(p:Y0 D bs i wd bs.length over q):
 D8 f bs (i+1) ((DT D i bs.length q).set (i+bs.length) over):=by
 obtain⟨u,k,n⟩:=h;obtain⟨q1,q2,q3,y⟩:=p;have m:val Y D<Y^(i+bs.length):=by
  rw[n,CC];have b:=J1 (r.take i);rw[Af,Cv O]at b;have c:=J1 o;rcases AJ (val Y bs)with j|j
  . rw[j,Cc];exact DI (C5 uo) (C5 uo)
  . exact Nat.mul_lt_mul'' b c
 have d:=Ku O m;have l:(DT D i bs.length q).length=D.length:=JN q1 O;refine⟨DX,?_,?_⟩
 . intro x a;rcases List.mem_or_eq_of_mem_set a with a|a
   . rw[DT]at a;rcases Cr.1 a with a|a
     . exact(k.take i) x a
     . rcases Cr.1 a with a|a
       . exact q2 x a
       . exact(k.drop _) x a
   . rw[a];exact q3
 . have b:=Kt Y (DT D i bs.length q) (i+bs.length) over (by rw[l];omega);have c:(DT D i bs.length q)[i+bs.length]?.getD 0=0:=by
    rw[FL q1 O];have:=Mg uo d 0;rw[List.getElem?_drop,AX]at this;exact this
   rw[c,Cc,AX]at b;rw[b];have s:val Y (DT D i bs.length q)=val Y (D.take i)+Y^i*val Y q:=by
    rw[DT,val_append,val_append,Af,Cv O,d];simp
   have t:val Y D=val Y (D.take i)+Y^i*val Y ((D.drop i).take bs.length):=by
    have e:=val_append Y (D.take i) (D.drop i);rw[AU,Af,Cv O]at e;have g:=val_append Y ((D.drop i).take bs.length) ((D.drop i).drop bs.length);rw[AU,CX,d,Cc,AX]at g;rw[e,g]
   grind[Jm]
theorem D8.fin(h:D8 f bs f.length D)(c:f=Jb Y m)(d:bs=Jb Y n):Jr D=Jb Y (m*n):=by
 obtain⟨_,a,b⟩:=h;grind[JP,Jc,Jk]
theorem Y0.tail(h:Y0 (D++f) bs i wd len over q)(e:i+len<=D.length):Y0 D bs i wd len over q:=by
 obtain⟨a,b,c,d⟩:=h;refine⟨a,b,c,?_⟩;grind
theorem Mh(a:i+len<=D.length):DT (D++f) i len q=DT D i len q++f:=by
 grind[DT]
def RJ(g rl rc:Nat)(c:Ja)(a:V8)(la ca:Nat)(b:V8)(lb E m n:Nat)(w:World)
(f:DN w g c)(bg:DK Y c)(hz:la+lb<=c.length)(aq:la+lb<=rc)(bf:rc<=9223372036854775807)(bd:la+lb<=1099511627776)
(ra:Row .u64 w (B a la ca) (Jb Y m))(k:Row .u64 w (B b lb E) (Jb Y n))(am:∀p,a=some p->0<la->p.block≠g)(an:∀p,b=some p->0<lb->p.block≠g):
 Calls Tryz.prog 153 #[B (some ⟨g,0,none⟩) rl rc,B a la ca,B b lb E] w λe K=>∃u,e=.returned u/\(UN K u (m*n)/\w.grownBy K (some g))/\(u=B none 0 0\/∃l,u=B (some ⟨g,0,none⟩) l rc)/\∃L,DN K g L/\DK Y L/\L.length=c.length:=by
 obtain⟨F,bh,bt,bn,ai⟩:=Jn ra;have x:=(Jn k).1;have bi:=(Jn k).2.1;have bu:=(Jn k).2.2.1;have xa:=Jj Jc m;have xb:=Jj Jc n;have P:=Z λD (h:D8 (Jb Y m) (Jb Y n) (Jb Y m).length D)=>h.fin (m:=m) (n:=n) J J;have N:=Z k;generalize Jb Y m=t at *;generalize Jb Y n=o at *;obtain⟨W1,az,hA1,ad⟩:=Me 0 g (la+lb) rc c w f hz;have v:=Z (D8.start t o);rw[<-F,<-x]at v;have T:DK Y (c.drop (la+lb)):=bg.drop _;have Ql:(c.drop (la+lb)).length=c.length-(la+lb):=A8;obtain⟨X,hZ⟩:∃X,X=c.length:=⟨_,J⟩;rw[<-hZ]at Ql hz ⊢;generalize c.drop (la+lb)=s at *;obtain⟨M,z,S,V,A⟩:=Ez ai F x am an;clear ai F x ra k hZ f am an;go_enter func153,ntmps153
 go_wp2;go_loopw [19] (λI wr=>∃(i:Nat) (D:Ja),I=C .i64 i/\i<=la/\Hid (D8 t o i D)/\DN wr g (D++s)/\w.grownBy wr (some g))
  (λI _=>la-(intOf I).toNat)
 case atStart=>exact⟨0,_,J,AB _,v.o,hA1,ad⟩
 case round=>
  clear v hA1 ad az;obtain⟨i,D,rfl,hi,d,f,r⟩:=hrel;have Qn:=d.o.1;rw[<-z.o,<-S.o]at Qn;by_cases ak:i<la
  . obtain⟨ab,ao,rfl,ap,ah⟩:=M.o i ak;have bk:=(BT (w:=w) (r.block ab ap λe=>V.o _ J O (by cases e;rfl))).trans ah;have hw:=xa.getD uo i;have W:=Z λover q (h:Y0 D o i (t[i]?.getD 0) o.length over q)=>d.o.step xa xb (by rw[<-z.o];exact ak) J h;have Qm:=Row.grown N.o r A.o;have y:=d.o.2.1.append T;rw[<-S.o]at W;generalize t[i]?.getD 0=wd at *;clear ah;go_wp2_with(go_at_call 172;refine(Kn g i lb _ (D++s) b E o wd _ f y (by rw[Ay];omega) O Qm xb A.o hw).mono ?_;rintro e w5 ⟨over,q,rfl,G,hA5,bc⟩;have U:=JN G.1 (xs:=D++s) (ro:=i) (by rw[Ay];omega);have bj:=hA5.cell (j:=i+lb) (by rw[U,Ay];omega);have bm:=hA5.frozen (i+lb);have Q:=Z G;clear G U)
    have R:=hA5.set (i+lb) over;rw[Mh O,List.set_append_left _ _ (by rw[JN Q.o.1 O];omega)]at R;exact⟨⟨i+1,(DT D i lb q).set (i+lb) over,DJ,O,W.o over q (Q.o.tail O),R,Jd (Jd r bc) (Jy _ _ _ _)⟩,by simp[intOf];omega⟩
  . obtain rfl:i=la:=O
    have Qe:Row .u64 wr (B (some ⟨g,0,none⟩) (i+lb) rc) D:=by
     have h1:=f.row 0 (i+lb) rc DX aq bf bd;rwa[AF,A7 O,Ac O]at h1
    have Qo:=Z (P.o D (by rw[<-z.o];exact d.o));have y:=d.o.2.1.append T;clear d P M N V A;go_wp2_with(go_at_call 132;refine(Hn _ _ _ D _ Qe).mono ?_;rintro e w5 ⟨u,rfl,⟨H,ae⟩,aj⟩;rw[Qo.o]at H aj;obtain⟨ua,uc,rfl⟩:=UN.form H)
    go_ret;refine⟨_,J,⟨H,Jd r (JM ae _)⟩,?_,D++s,f.below ae,y,DX⟩;rcases aj with⟨e,_⟩|e
    . exact An e
    . exact Ar ⟨_,e⟩
theorem D8.fing(h:D8 f bs f.length D):Jr D=Jb Y (val Y f*val Y bs):=by
 obtain⟨_,a,b⟩:=h;grind[JP,Jc]
def RK(g rl rc:Nat)(c:Ja)(a:V8)(la W:Nat)(b:V8)(lb z:Nat)(d f:Ja)(w:World)(xa:DK Y d)(xb:DK Y f)
(m:DN w g c)(bf:DK Y c)(hz:la+lb<=c.length)(ap:la+lb<=rc)(bd:rc<=9223372036854775807)(bc:la+lb<=1099511627776)
(ra:Row .u64 w (B a la W) d)(n:Row .u64 w (B b lb z) f)(ak:∀p,a=some p->0<la->p.block≠g)(am:∀p,b=some p->0<lb->p.block≠g):
 Calls Tryz.prog 153 #[B (some ⟨g,0,none⟩) rl rc,B a la W,B b lb z] w λe H=>∃u,e=.returned u/\(UN H u (val Y d*val Y f)/\w.grownBy H (some g))/\(u=B none 0 0\/∃l,u=B (some ⟨g,0,none⟩) l rc)/\∃I,DN H g I/\DK Y I/\I.length=c.length:=by
 obtain⟨A,bg,bn,bm,ah⟩:=Jn ra;have t:=(Jn n).1;have bh:=(Jn n).2.1;have bt:=(Jn n).2.2.1;have M:=Z λD (h:D8 d f d.length D)=>h.fing;have L:=Z n;obtain⟨W1,aq,hA1,X⟩:=Me 0 g (la+lb) rc c w m hz;have s:=Z (D8.start d f);rw[<-A,<-t]at s;have R:DK Y (c.drop (la+lb)):=bf.drop _;have Ql:(c.drop (la+lb)).length=c.length-(la+lb):=A8;obtain⟨V,hZ⟩:∃V,V=c.length:=⟨_,J⟩;rw[<-hZ]at Ql hz ⊢;generalize c.drop (la+lb)=r at *;obtain⟨K,x,Q,T,y⟩:=Ez ah A t ak am;clear ah A t ra n hZ m ak am;go_enter func153,ntmps153
 go_wp2;go_loopw [19] (λG wr=>∃(i:Nat) (D:Ja),G=C .i64 i/\i<=la/\Hid (D8 d f i D)/\DN wr g (D++r)/\w.grownBy wr (some g))
  (λG _=>la-(intOf G).toNat)
 case atStart=>exact⟨0,_,J,AB _,s.o,hA1,X⟩
 case round=>
  clear s hA1 X aq;obtain⟨i,D,rfl,hi,k,m,o⟩:=hrel;have Qn:=k.o.1;rw[<-x.o,<-Q.o]at Qn;by_cases aj:i<la
  . obtain⟨ab,ao,rfl,an,ae⟩:=K.o i aj;have bj:=(BT (w:=w) (o.block ab an λe=>T.o _ J O (by cases e;rfl))).trans ae;have hw:=xa.getD uo i;have U:=Z λover q (h:Y0 D f i (d[i]?.getD 0) f.length over q)=>k.o.step xa xb (by rw[<-x.o];exact aj) J h;have Qm:=Row.grown L.o o y.o;have v:=k.o.2.1.append R;rw[<-Q.o]at U;generalize d[i]?.getD 0=wd at *;clear ae;go_wp2_with(go_at_call 172;refine(Kn g i lb _ (D++r) b z f wd _ m v (by rw[Ay];omega) O Qm xb y.o hw).mono ?_;rintro e w5 ⟨over,q,rfl,E,hA5,az⟩;have S:=JN E.1 (xs:=D++r) (ro:=i) (by rw[Ay];omega);have bi:=hA5.cell (j:=i+lb) (by rw[S,Ay];omega);have bk:=hA5.frozen (i+lb);have N:=Z E;clear E S)
    have P:=hA5.set (i+lb) over;rw[Mh O,List.set_append_left _ _ (by rw[JN N.o.1 O];omega)]at P;exact⟨⟨i+1,(DT D i lb q).set (i+lb) over,DJ,O,U.o over q (N.o.tail O),P,Jd (Jd o az) (Jy _ _ _ _)⟩,by simp[intOf];omega⟩
  . obtain rfl:i=la:=O
    have Qe:Row .u64 wr (B (some ⟨g,0,none⟩) (i+lb) rc) D:=by
     have h1:=m.row 0 (i+lb) rc DX ap bd bc;rwa[AF,A7 O,Ac O]at h1
    have Qo:=Z (M.o D (by rw[<-x.o];exact k.o));have v:=k.o.2.1.append R;clear k M K L T y;go_wp2_with(go_at_call 132;refine(Hn _ _ _ D _ Qe).mono ?_;rintro e w5 ⟨u,rfl,⟨F,ad⟩,ai⟩;rw[Qo.o]at F ai;obtain⟨ua,uc,rfl⟩:=UN.form F)
    go_ret;refine⟨_,J,⟨F,Jd o (JM ad _)⟩,?_,D++r,m.below ad,v,DX⟩;rcases ai with⟨e,_⟩|e
    . exact An e
    . exact Ar ⟨_,e⟩
def Fg:Y=2^64:=by unfold Y;rfl
def FB(xs bs:Ja)(ro wd i over c:Nat)(q:Ja):Prop:=
 q.length=i/\DK Y q/\over<Y/\c<=1/\val Y q+val Y (bs.take i)*wd=val Y ((xs.drop ro).take i)+Y^i*(over+c)
def FB.start(xs bs:Ja)(ro wd:Nat):FB xs bs ro wd 0 0 0 []:=⟨J,DK.nil _,by unfold Y;omega,O,by simp[val]⟩
theorem FB.step(h:FB xs bs ro wd i over c q)(d a c':Nat)(f:d<Y)(g:a<Y)(e:c'<=1)(n:d+bs[i]?.getD 0*wd+over+c=xs[ro+i]?.getD 0+Y*(a+c')):FB xs bs ro wd (i+1) a c' (q++[d]):=by
 obtain⟨j,b,k,l,m⟩:=h;refine⟨by simp;omega,b.append (DK.cons f (DK.nil _)),g,e,?_⟩;grind[J8,Jm]
theorem RL{y r:Nat}(a:x<Y)(b:y<Y)(f:r<Y)(e:over<Y)(d:c<=1):
 Y5 x y+Yv (J7 x y) over 0<Y/\Ed r (Ya (J7 x y) over 0) c<Y/\EX r (Ya (J7 x y) over 0) c<=1/\Ya (J7 x y) over 0<Y/\
 Ed r (Ya (J7 x y) over 0) c+x*y+over+c=r+Y*(Y5 x y+Yv (J7 x y) over 0+EX r (Ya (J7 x y) over 0) c):=by
 have hp:=MU a b;grind[Y5,J7,Yv,Ya,Ed,EX,Y]
theorem FB.last(h:FB xs bs ro wd n over c q)(k:bs.length=n)(b:d<Y)(j:d+over+c=xs[ro+n]?.getD 0+Y*c'):
 (q++[d]).length=n+1/\DK Y (q++[d])/\val Y (q++[d])+val Y bs*wd=val Y ((xs.drop ro).take (n+1))+Y^(n+1)*c':=by
 obtain⟨e,a,f,g,i⟩:=h;refine⟨by simp;omega,a.append (DK.cons b (DK.nil _)),?_⟩;grind[J8,Jm]
def Dn(x s:Nat):Nat:=x*2^s%Y
def Dh(x s:Nat):Nat:=x/2^s
theorem Ga(hs:s<=64):2^s*2^(64-s)=Y:=by rw[<-CC,show s+(64-s)=64 from by omega];rfl
theorem Gb(hs:s<=64):Dn x s=x%2^(64-s)*2^s:=by
 grind[Dn,Ga,Nat.mul_mod_mul_right]
theorem RM(hs:s<=63)(e:x<Y)(d:c<2^s):c ||| Dn x s=c+Dn x s/\c+Dn x s<Y/\Dh x (64-s)<2^s/\c+Dn x s+Y*Dh x (64-s)=c+x*2^s:=by
 rw[Gb O];have hp:=Ga (s:=s) O;have g:=AQ x (2^(64-s));have a:=AN x (AW (64-s));unfold Dh;have b:c ||| x%2^(64-s)*2^s=c+x%2^(64-s)*2^s:=by
  rw[Nat.or_comm,AE,<-CF d,CP]
 refine⟨b,?_,?_,?_⟩
 . have f:(x%2^(64-s)+1)*2^s<=2^(64-s)*2^s:=Ae _ a;grind
 . rw[Aw (AW _),hp];exact e
 grind
def Fh(a:Ja)(s i:Nat)(q:Ja)(c:Nat):Prop:=
 q.length=i/\DK Y q/\c<2^s/\val Y q+Y^i*c=val Y (a.take i)*2^s
def Fh.start(a:Ja)(s:Nat):Fh a s 0 [] 0:=⟨J,DK.nil _,AW s,by simp[val]⟩
theorem Fh.step(h:Fh f s i q c)(e:d<Y)(b:c'<2^s)(l:d+Y*c'=c+f[i]?.getD 0*2^s):Fh f s (i+1) (q++[d]) c':=by
 obtain⟨g,a,j,k⟩:=h;refine⟨by simp;omega,a.append (DK.cons e (DK.nil _)),b,?_⟩;grind[J8,Jm]
theorem RO{P:Nat}(hs:s<=63)(f:x<Y):
 Dn (P%2^s) (64-s) ||| Dh x s=Dn (P%2^s) (64-s)+Dh x s/\Dn (P%2^s) (64-s)+Dh x s<Y/\Dn x (64-s)=Dn ((x+Y*P)%2^s) (64-s)/\
 (x+Y*P)/2^s=Dn (P%2^s) (64-s)+Dh x s+Y*(P/2^s):=by
 have hp:=Ga (s:=s) O;rw[Gb O,Gb O,Gb O,show 64-(64-s)=s from by omega,Nat.mod_mod];have i:Dh x s<2^(64-s):=by
  unfold Dh;rw[Aw (AW _),AE,hp];exact f
 have c:=AN P (AW s);have d:=AQ P (2^s);refine⟨?_,?_,?_,?_⟩
 . grind[AE,CF]
 . have g:(P%2^s+1)*2^(64-s)<=2^s*2^(64-s):=Ae _ c;grind
 . grind[A4,Cn,Nat.mod_mod]
 . unfold Dh;have e:x+Y*P=x+2^s*(P%2^s*2^(64-s)+Y*(P/2^s)):=by
    rw[<-hp];generalize P/2^s=a at *;generalize P%2^s=b at *;generalize 2^(64-s)=E at *;generalize 2^s=F at *;rw[<-d];grind
   grind[CB]
theorem RP(B:Nat)(ds:Ja)(k:Nat)(h:k<ds.length):val B (ds.drop k)=ds[k]?.getD 0+B*val B (ds.drop (k+1)):=by
 grind[AH,JS]
def XQ(a V n K k:Nat)(D Q:Ja):Prop:=
 D.length=K+n/\DK Y D/\Q.length=K/\DK Y Q/\val Y D<V*Y^k/\a=val Y D+V*val Y Q/\∀j,j<k->Q[j]?.getD 0=0
theorem XQ.win(h:XQ g V n K (k+1) D Q)(s:k<K)(r:V<Y^n):
 val Y ((D.drop k).take (n+1))<V*Y/\val Y D=val Y (D.take k)+Y^k*val Y ((D.drop k).take (n+1))/\val Y (D.drop (k+(n+1)))=0:=by
 obtain⟨i,j,l,m,f,o,p⟩:=h;have q:0<Y:=by unfold Y;omega
 have d:val Y D<Y^(k+(n+1)):=by
  have e:Y^(k+(n+1))=Y^n*Y^(k+1):=by rw[<-CC];congr 1;omega
  rw[e];exact Al f (Ae _ O)
 have c:=Ku O d;have a:=val_append Y (D.take k) (D.drop k);rw[AU,Af,Cv O]at a;have b:=val_append Y ((D.drop k).take (n+1)) ((D.drop k).drop (n+1));rw[AU,CX,c,Cc,AX]at b;rw[b]at a;refine⟨?_,a,c⟩;rcases AD (val Y ((D.drop k).take (n+1))) (V*Y)with h|h
 . exact h
 . exfalso
   have:=Aq (Y^k) h;have e:Y^k*(V*Y)=V*Y^(k+1):=by rw[Ca];grind
   omega
theorem XQ.step(h:XQ g V n K (k+1) D Q)(r:k<K)(p:V<Y^n)(t:q.length=n+1)(s:DK Y q)
(u:val Y q=val Y ((D.drop k).take (n+1))%V)(c:0<V):
 XQ g V n K k (DT D k (n+1) q) (Q.set k (val Y ((D.drop k).take (n+1))/V)):=by
 obtain⟨v,L,w⟩:=h.win r p;obtain⟨l,b,y,m,z,A,o⟩:=h;have E:0<Y:=by unfold Y;omega
 generalize F:val Y ((D.drop k).take (n+1))=W at *;have G:=AQ W V;have e:=AN W c;have d:W/V<Y:=by rw[Aw c,AE];exact v
 have f:val Y (DT D k (n+1) q)=val Y (D.take k)+Y^k*val Y q:=by
  rw[DT,val_append,val_append,Af,Cv O,w];simp
 have i:=Kt Y Q k (W/V) O;rw[o k O,Cc,AX]at i;have I:val Y (D.take k)<Y^k:=by
  have:=J1 (b.take k);rwa[Af,Cv O]at this
 refine⟨by rw[JN t O];exact l,?_,DX,?_,?_,?_,?_⟩
 . intro x a;rw[DT]at a;rcases Cr.1 a with a|a
   . exact(b.take k) x a
   . rcases Cr.1 a with a|a
     . exact s x a
     . exact(b.drop _) x a
 . intro x a;rcases List.mem_or_eq_of_mem_set a with a|a
   . exact m x a
   . rw[a];exact d
 . rw[f,u];have:=Aq (Y^k) (show W%V+1<=V from e);grind
 . grind
 . intro j H;grind
theorem XQ.start(b:D.length=K+n)(c:DK Y D)(a:val Y D=g)(d:g<V*Y^K):XQ g V n K K D (WC K 0):=
 ⟨b,c,AG,λx e=>by grind[Y],by rw[a];exact d,by rw[Mf,Cc,a,AX],λj _=>by
  grind⟩
theorem XQ.fin{b:Nat}(h:XQ g V n K 0 D Q)(k:g=m*2^s)(l:V=b*2^s):Jr Q=Jb Y (m/b)/\val Y D=m%b*2^s:=by
 obtain⟨a,c,d,e,f,i,j⟩:=h;grind[CB,AV,Cn,Ce,Nat.mul_div_mul_right,Nat.mul_mod_mul_right,JP,Jc]
def RQ(f ro len cap:Nat)(xs:Ja)(a:V8)(D:Nat)(bs:Ja)(wd:Nat)(w:World)
(U:DN w f xs)(I:DK Y xs)(ak:ro+(len+1)<=xs.length)(ah:len+1<=cap)(E:Row .u64 w (B a len D) bs)(W:DK Y bs)(F:∀p,a=some p->0<len->p.block≠f)(H:wd<Y):
 Calls Tryz.prog 199 #[B (some ⟨f,ro,none⟩) (len+1) cap,B a len D,C .u64 (wd:Nat)] w λe z=>
  ∃c q,e=.returned (C .u64 (c:Nat))/\(c<=1/\q.length=len+1/\DK Y q/\val Y q+val Y bs*wd=val Y ((xs.drop ro).take (len+1))+Y^(len+1)*c)/\DN z f (DT xs ro (len+1) q)/\w.grownBy z (some f):=by
 obtain⟨hl,ai,ae,aj,l⟩:=Jn E;obtain⟨M,L,N⟩:=DY hl l F;clear l hl F E;go_enter func199,ntmps199
 go_wp2;go_loopw [7,8,16] (λov T v wr=>∃(i over c:Nat) (q:Ja),v=C .i64 i/\ov=C .u64 (over:Nat)/\T=C .u64 (c:Nat)/\i<=len/\over<Y/\c<=1/\Hid (FB xs bs ro wd i over c q)/\DN wr f (DT xs ro i q)/\w.grownBy wr (some f))
  (λ_ _ v _=>len-(intOf v).toNat)
 case atStart=>exact⟨0,0,0,[],J,J,J,AB _,by unfold Y;omega,O,FB.start _ _ _ _,by rw[mid_zero];exact U,Yd _ _⟩
 case round=>
  obtain⟨i,over,c,q,rfl,rfl,rfl,hi,G,n,m,j,hg⟩:=hrel;by_cases X:i<len
  . obtain⟨b,am,rfl,V,l⟩:=L.o i X;have R:=N.o _ J O;have g:=m.o.1;have ad:=(BT (w:=w) (hg.block b V λe=>R (by cases e;rfl))).trans l;have P:wr.cell? ⟨f,ro+i,none⟩=some (C .u64 (xs[ro+i]?.getD 0:Nat)):=by rw[<-FL g O];exact j.cell (by rw[JN g O];omega)
    have Q:=j.frozen (ro+i);have A:=W.getD uo i;have u:=I.getD uo (ro+i);obtain⟨o,y,s,s4,K⟩:=RL A H u G n;have k:=Z (m.o.step _ _ _ y o s K);have t:=Z (show ∀d,(DT xs ro i q).set (ro+i) d=DT xs ro (i+1) (q++[d])from λd=>Fe g O d);clear l g K;generalize bs[i]?.getD 0=x at *;generalize xs[ro+i]?.getD 0=r at *;have a1:=Hy (J7 x wd) over;have S:=Hz r (Ya (J7 x wd) over 0) c n;unfold Y at o;go_wp2_with(first
     |(go_at_call 190;refine(FM _ _ A H _).mono ?_;rintro e z ⟨rfl,rfl⟩))
    exact⟨⟨i+1,Y5 x wd+Yv (J7 x wd) over 0,EX r (Ya (J7 x wd) over 0) c,q++[Ed r (Ya (J7 x wd) over 0) c],DJ,DJ,J,O,k.o.2.2.1,k.o.2.2.2.1,k,by rw[<-t.o];exact j.set _ _,Jd hg (Jy _ _ _ _)⟩,by simp[intOf];omega⟩
  . obtain rfl:i=len:=O
    have g:=m.o.1;have P:wr.cell? ⟨f,ro+i,none⟩=some (C .u64 (xs[ro+i]?.getD 0:Nat)):=by rw[<-FL g O];exact j.cell (by rw[JN g O];omega)
    have Q:=j.frozen (ro+i);have u:=I.getD uo (ro+i);obtain⟨o,y,s⟩:=Kh u G n;have k:=Z (m.o.last M.o.symm o s);have t:=Z (show ∀d,(DT xs ro i q).set (ro+i) d=DT xs ro (i+1) (q++[d])from λd=>Fe g O d);clear g s;generalize xs[ro+i]?.getD 0=r at *;have S:=Hz r over c n;go_wp2;go_ret;exact⟨EX r over c,_,J,⟨y,k.o⟩,by rw[<-t.o];exact j.set _ _,Jd hg (Jy _ _ _ _)⟩
