import Derived.Test.YtcahejkcdcjjgaaGreatDoorW10
import Derived.Test.YtcahejkcdcjjgaaGreatDoorW09
set_option linter.all false
open Go.Value renaming slice->B,int->C
set_option maxRecDepth 99999
set_option maxHeartbeats 0
namespace Go.Proofs.YtcahejkcdcjjgaaGreatDoor
open List renaming replicate->Zw
open Proofs.Tryz
open Go.RowKit Go.Shelf
variable{D Q bs f q xs:Ja}{K V c c' d g i k len m n over ro s wd x:Nat}
theorem SI{o v:Nat}(h:o<f.length):(f.set o v).take (o+1)=f.take o++[v]:=by
 grind[AR,List.take_set,Ai]
def Nc{b:Nat}:∀(c:Ja) (o:Nat) (W:World) (a:Ja),DO W b a->o+c.length<=a.length->DO (W.setCells b o (cellsOf .u64 c)) b (a.take o++(c++a.drop (o+c.length)))
 |[],o,W,a,h,_=>by
  have e:a.take o++([]++a.drop (o+([]:Ja).length))=a:=DJ
  rw[e];exact h
 |v::r,o,W,a,h,hl=>by
  rw[Af]at hl;have d:=Nc r (o+1) (W.setCell ⟨b,o,none⟩ (C .u64 (v:Nat))) (a.set o v) (h.set o v) DY;rw[SI O,List.drop_set_of_lt O,A7]at d;have e:o+1+r.length=o+(v::r).length:=by rw[Af];omega
  rw[e]at d;exact d
theorem Nd{b:Nat}:∀(a:List Value) (o:Nat) (W:World),W.grownBy (W.setCells b o a) (some b)
 |[],_,W=>Ym W _
 |v::r,o,W=>Je (Jy W b o v) (Nd r (o+1) _)
theorem Nf(ty:TypeId)(g n c:Nat)(a:Ja)(W:World)(h:DO W g a)(k:n<=a.length):
 ∃W',(Builtin.clear_ #[34] ty #[B (some ⟨g,0,none⟩) n c]).run Tryz.prog W=.ok (.tuple #[]) W'/\DO W' g (Zw n 0++a.drop n)/\W.grownBy W' (some g):=by
 rcases AQ n with b|b
 . subst b;refine⟨W,?_,?_,Ym W _⟩
   . simp[Builtin.clear_,run_underlying underlying34]
   grind
 . have d:=Lib.run_clear_slice (P:=Tryz.prog) W 34 163 ty (C .u64 0) underlying34 (λw=>by kernel_rfl) J J g 0 n c b
    (λj i=>by rw[Cn,h.cell O];rfl) λj _=>h.frozen _
   have e:(Zw n (Value.int .u64 0))=cellsOf .u64 (Zw n 0):=by simp[cellsOf]
   rw[e]at d;have f:=Nc (Zw n 0) 0 W a h DY;grind[Nd]
theorem LV(B:Nat):∀(D:Ja) (j d:Nat),j<D.length->val B (D.set j d)+B^j*D[j]?.getD 0=val B D+B^j*d
 |[],_,_,h=>by cases h
 |x::D,0,d,_=>by simp[val];omega
 |x::D,j+1,d,h=>by
  have a:=LV B D j d (by simpa using h);grind[val]
def Ng(B n:Nat):val B (Zw n 0)=0:=by
 induction n with
 |zero=>rfl
 |succ n a=>rw[Cv,val,a];simp
def EO(a bs:Ja)(i:Nat)(D:Ja):Prop:=
 D.length=a.length+bs.length/\DK Y D/\val Y D=val Y (a.take i)*val Y bs
theorem EO.start(a bs:Ja):EO a bs 0 (Zw (a.length+bs.length) 0):=
 ⟨AM,λx b=>by grind[Y],by rw[Ng];simp[val]⟩
def Nh{B:Nat}(c:0<B):∀ {D:Ja},val B D=0->∀j:Nat,D[j]?.getD 0=0
 |[],_,j=>by simp
 |d::D,h,0=>by
  rw[JT]at h;show d=0;omega
 |d::D,h,j+1=>by
  rw[JT]at h;have a:B*val B D=0:=O
  have b:val B D=0:=by
   rcases Nat.mul_eq_zero.1 a with h|h
   . omega
   . exact h
  rw[Al];exact Nh c b j
def LW{B:Nat}(c:k<=D.length)(h:val B D<B^k):val B (D.drop k)=0:=by
 have e:val B D=val B (D.take k)+B^k*val B (D.drop k):=by
  have b:=val_append B (D.take k) (D.drop k);rw[A0,Ai,Cw c]at b;exact b
 rcases AQ (val B (D.drop k))with a|a
 . exact a
 . have:=AA (B^k) a;omega
theorem EO.step(h:EO f bs i D)(r:DK Y f)(o:DK Y bs)(v:i<f.length)(w:wd=f[i]?.getD 0)(p:Y7 D bs i wd bs.length over q):
 EO f bs (i+1) ((DU D i bs.length q).set (i+bs.length) over):=by
 obtain⟨u,k,n⟩:=h;obtain⟨q1,q2,q3,y⟩:=p;have m:val Y D<Y^(i+bs.length):=by
  rw[n,CC];have b:=J7 (r.take i);rw[Ai,Cw O]at b;have c:=J7 o;rcases AQ (val Y bs)with j|j
  . rw[j,Cb];exact DH (Fb uo) (Fb uo)
  . exact Nat.mul_lt_mul'' b c
 have d:=LW O m;have l:(DU D i bs.length q).length=D.length:=JO q1 O;refine⟨DY,?_,?_⟩
 . intro x a;rcases List.mem_or_eq_of_mem_set a with a|a
   . rw[DU]at a;rcases Cs.1 a with a|a
     . exact(k.take i) x a
     . rcases Cs.1 a with a|a
       . exact q2 x a
       . exact(k.drop _) x a
   . rw[a];exact q3
 . have b:=LV Y (DU D i bs.length q) (i+bs.length) over (by rw[l];omega);have c:(DU D i bs.length q)[i+bs.length]?.getD 0=0:=by
    rw[FY q1 O];have:=Nh uo d 0;rw[List.getElem?_drop,A6]at this;exact this
   rw[c,Cb,A6]at b;rw[b];have s:val Y (DU D i bs.length q)=val Y (D.take i)+Y^i*val Y q:=by
    rw[DU,val_append,val_append,Ai,Cw O,d];simp
   have t:val Y D=val Y (D.take i)+Y^i*val Y ((D.drop i).take bs.length):=by
    have e:=val_append Y (D.take i) (D.drop i);rw[A0,Ai,Cw O]at e;have g:=val_append Y ((D.drop i).take bs.length) ((D.drop i).drop bs.length);rw[A0,C2,d,Cb,A6]at g;rw[e,g]
   grind[Jp]
theorem EO.fin(h:EO f bs f.length D)(c:f=Jb Y m)(d:bs=Jb Y n):Js D=Jb Y (m*n):=by
 obtain⟨_,a,b⟩:=h;grind[JQ,Jd,Jn]
theorem Y7.tail(h:Y7 (D++f) bs i wd len over q)(e:i+len<=D.length):Y7 D bs i wd len over q:=by
 obtain⟨a,b,c,d⟩:=h;refine⟨a,b,c,?_⟩;grind
theorem Ni(a:i+len<=D.length):DU (D++f) i len q=DU D i len q++f:=by
 grind[DU]
def SJ(g rl rc:Nat)(c:Ja)(a:Zu)(la ca:Nat)(b:Zu)(lb E m n:Nat)(w:World)
(f:DO w g c)(bg:DK Y c)(hz:la+lb<=c.length)(ay:la+lb<=rc)(bf:rc<=9223372036854775807)(bd:la+lb<=1099511627776)
(ra:Row .u64 w (B a la ca) (Jb Y m))(k:Row .u64 w (B b lb E) (Jb Y n))(an:∀p,a=some p->0<la->p.block≠g)(ap:∀p,b=some p->0<lb->p.block≠g):
 Calls Tryz.prog 153 #[B (some ⟨g,0,none⟩) rl rc,B a la ca,B b lb E] w λe K=>∃u,e=.returned u/\(UN K u (m*n)/\w.grownBy K (some g))/\(u=B none 0 0\/∃l,u=B (some ⟨g,0,none⟩) l rc)/\∃L,DO K g L/\DK Y L/\L.length=c.length:=by
 obtain⟨F,bh,bt,bn,ai⟩:=Jq ra;have x:=(Jq k).1;have bi:=(Jq k).2.1;have bu:=(Jq k).2.2.1;have xa:=Jm Jd m;have xb:=Jm Jd n;have P:=Z λD (h:EO (Jb Y m) (Jb Y n) (Jb Y m).length D)=>h.fin (m:=m) (n:=n) J J;have N:=Z k;generalize Jb Y m=t at *;generalize Jb Y n=o at *;obtain⟨W1,az,hA1,ad⟩:=Nf 0 g (la+lb) rc c w f hz;have v:=Z (EO.start t o);rw[<-F,<-x]at v;have T:DK Y (c.drop (la+lb)):=bg.drop _;have Ql:(c.drop (la+lb)).length=c.length-(la+lb):=AY;obtain⟨X,hZ⟩:∃X,X=c.length:=⟨_,J⟩;rw[<-hZ]at Ql hz ⊢;generalize c.drop (la+lb)=s at *;obtain⟨M,z,S,V,A⟩:=FX ai F x an ap;clear ai F x ra k hZ f an ap;go_enter func153,ntmps153
 go_wp2;go_loopw [19] (λI wr=>∃(i:Nat) (D:Ja),I=C .i64 i/\i<=la/\Hid (EO t o i D)/\DO wr g (D++s)/\w.grownBy wr (some g))
  (λI _=>la-(intOf I).toNat)
 case atStart=>exact⟨0,_,J,AJ _,v.o,hA1,ad⟩
 case round=>
  clear v hA1 ad az;obtain⟨i,D,rfl,hi,d,f,r⟩:=hrel;have Qn:=d.o.1;rw[<-z.o,<-S.o]at Qn;by_cases ak:i<la
  . obtain⟨ab,ao,rfl,aq,ah⟩:=M.o i ak;have bk:=(BR (w:=w) (r.block ab aq λe=>V.o _ J O (by cases e;rfl))).trans ah;have hw:=xa.getD uo i;have W:=Z λover q (h:Y7 D o i (t[i]?.getD 0) o.length over q)=>d.o.step xa xb (by rw[<-z.o];exact ak) J h;have Qm:=Row.grown N.o r A.o;have y:=d.o.2.1.append T;rw[<-S.o]at W;generalize t[i]?.getD 0=wd at *;clear ah;go_wp2_with(go_at_call 172;refine(LP g i lb _ (D++s) b E o wd _ f y (by rw[AE];omega) O Qm xb A.o hw).mono ?_;rintro e w5 ⟨over,q,rfl,G,hA5,bc⟩;have U:=JO G.1 (xs:=D++s) (ro:=i) (by rw[AE];omega);have bj:=hA5.cell (j:=i+lb) (by rw[U,AE];omega);have bm:=hA5.frozen (i+lb);have Q:=Z G;clear G U)
    have R:=hA5.set (i+lb) over;rw[Ni O,List.set_append_left _ _ (by rw[JO Q.o.1 O];omega)]at R;exact⟨⟨i+1,(DU D i lb q).set (i+lb) over,DJ,O,W.o over q (Q.o.tail O),R,Je (Je r bc) (Jy _ _ _ _)⟩,by simp[intOf];omega⟩
  . obtain rfl:i=la:=O
    have Qe:Row .u64 wr (B (some ⟨g,0,none⟩) (i+lb) rc) D:=by
     have h1:=f.row 0 (i+lb) rc DY ay bf bd;rwa[AB,A8 O,Ac O]at h1
    have Qo:=Z (P.o D (by rw[<-z.o];exact d.o));have y:=d.o.2.1.append T;clear d P M N V A;go_wp2_with(go_at_call 132;refine(Ig _ _ _ D _ Qe).mono ?_;rintro e w5 ⟨u,rfl,⟨H,ae⟩,aj⟩;rw[Qo.o]at H aj;obtain⟨ua,uc,rfl⟩:=UN.form H)
    go_ret;refine⟨_,J,⟨H,Je r (JN ae _)⟩,?_,D++s,f.below ae,y,DY⟩;rcases aj with⟨e,_⟩|e
    . exact Ar e
    . exact Ax ⟨_,e⟩
theorem EO.fing(h:EO f bs f.length D):Js D=Jb Y (val Y f*val Y bs):=by
 obtain⟨_,a,b⟩:=h;grind[JQ,Jd]
def SK(g rl rc:Nat)(c:Ja)(a:Zu)(la W:Nat)(b:Zu)(lb z:Nat)(d f:Ja)(w:World)(xa:DK Y d)(xb:DK Y f)
(m:DO w g c)(bf:DK Y c)(hz:la+lb<=c.length)(aq:la+lb<=rc)(bd:rc<=9223372036854775807)(bc:la+lb<=1099511627776)
(ra:Row .u64 w (B a la W) d)(n:Row .u64 w (B b lb z) f)(ak:∀p,a=some p->0<la->p.block≠g)(an:∀p,b=some p->0<lb->p.block≠g):
 Calls Tryz.prog 153 #[B (some ⟨g,0,none⟩) rl rc,B a la W,B b lb z] w λe H=>∃u,e=.returned u/\(UN H u (val Y d*val Y f)/\w.grownBy H (some g))/\(u=B none 0 0\/∃l,u=B (some ⟨g,0,none⟩) l rc)/\∃I,DO H g I/\DK Y I/\I.length=c.length:=by
 obtain⟨A,bg,bn,bm,ah⟩:=Jq ra;have t:=(Jq n).1;have bh:=(Jq n).2.1;have bt:=(Jq n).2.2.1;have M:=Z λD (h:EO d f d.length D)=>h.fing;have L:=Z n;obtain⟨W1,ay,hA1,X⟩:=Nf 0 g (la+lb) rc c w m hz;have s:=Z (EO.start d f);rw[<-A,<-t]at s;have R:DK Y (c.drop (la+lb)):=bf.drop _;have Ql:(c.drop (la+lb)).length=c.length-(la+lb):=AY;obtain⟨V,hZ⟩:∃V,V=c.length:=⟨_,J⟩;rw[<-hZ]at Ql hz ⊢;generalize c.drop (la+lb)=r at *;obtain⟨K,x,Q,T,y⟩:=FX ah A t ak an;clear ah A t ra n hZ m ak an;go_enter func153,ntmps153
 go_wp2;go_loopw [19] (λG wr=>∃(i:Nat) (D:Ja),G=C .i64 i/\i<=la/\Hid (EO d f i D)/\DO wr g (D++r)/\w.grownBy wr (some g))
  (λG _=>la-(intOf G).toNat)
 case atStart=>exact⟨0,_,J,AJ _,s.o,hA1,X⟩
 case round=>
  clear s hA1 X ay;obtain⟨i,D,rfl,hi,k,m,o⟩:=hrel;have Qn:=k.o.1;rw[<-x.o,<-Q.o]at Qn;by_cases aj:i<la
  . obtain⟨ab,ao,rfl,ap,ae⟩:=K.o i aj;have bj:=(BR (w:=w) (o.block ab ap λe=>T.o _ J O (by cases e;rfl))).trans ae;have hw:=xa.getD uo i;have U:=Z λover q (h:Y7 D f i (d[i]?.getD 0) f.length over q)=>k.o.step xa xb (by rw[<-x.o];exact aj) J h;have Qm:=Row.grown L.o o y.o;have v:=k.o.2.1.append R;rw[<-Q.o]at U;generalize d[i]?.getD 0=wd at *;clear ae;go_wp2_with(go_at_call 172;refine(LP g i lb _ (D++r) b z f wd _ m v (by rw[AE];omega) O Qm xb y.o hw).mono ?_;rintro e w5 ⟨over,q,rfl,E,hA5,az⟩;have S:=JO E.1 (xs:=D++r) (ro:=i) (by rw[AE];omega);have bi:=hA5.cell (j:=i+lb) (by rw[S,AE];omega);have bk:=hA5.frozen (i+lb);have N:=Z E;clear E S)
    have P:=hA5.set (i+lb) over;rw[Ni O,List.set_append_left _ _ (by rw[JO N.o.1 O];omega)]at P;exact⟨⟨i+1,(DU D i lb q).set (i+lb) over,DJ,O,U.o over q (N.o.tail O),P,Je (Je o az) (Jy _ _ _ _)⟩,by simp[intOf];omega⟩
  . obtain rfl:i=la:=O
    have Qe:Row .u64 wr (B (some ⟨g,0,none⟩) (i+lb) rc) D:=by
     have h1:=m.row 0 (i+lb) rc DY aq bd bc;rwa[AB,A8 O,Ac O]at h1
    have Qo:=Z (M.o D (by rw[<-x.o];exact k.o));have v:=k.o.2.1.append R;clear k M K L T y;go_wp2_with(go_at_call 132;refine(Ig _ _ _ D _ Qe).mono ?_;rintro e w5 ⟨u,rfl,⟨F,ad⟩,ai⟩;rw[Qo.o]at F ai;obtain⟨ua,uc,rfl⟩:=UN.form F)
    go_ret;refine⟨_,J,⟨F,Je o (JN ad _)⟩,?_,D++r,m.below ad,v,DY⟩;rcases ai with⟨e,_⟩|e
    . exact Ar e
    . exact Ax ⟨_,e⟩
def F4:Y=2^64:=by unfold Y;rfl
def FN(xs bs:Ja)(ro wd i over c:Nat)(q:Ja):Prop:=
 q.length=i/\DK Y q/\over<Y/\c<=1/\val Y q+val Y (bs.take i)*wd=val Y ((xs.drop ro).take i)+Y^i*(over+c)
def FN.start(xs bs:Ja)(ro wd:Nat):FN xs bs ro wd 0 0 0 []:=⟨J,DK.nil _,by unfold Y;omega,O,by simp[val]⟩
theorem FN.step(h:FN xs bs ro wd i over c q)(d a c':Nat)(f:d<Y)(g:a<Y)(e:c'<=1)(n:d+bs[i]?.getD 0*wd+over+c=xs[ro+i]?.getD 0+Y*(a+c')):FN xs bs ro wd (i+1) a c' (q++[d]):=by
 obtain⟨j,b,k,l,m⟩:=h;refine⟨by simp;omega,b.append (DK.cons f (DK.nil _)),g,e,?_⟩;grind[Ye,Jp]
theorem SL{y r:Nat}(a:x<Y)(b:y<Y)(f:r<Y)(e:over<Y)(d:c<=1):
 Xf x y+YD (Yd x y) over 0<Y/\Eu r (Yj (Yd x y) over 0) c<Y/\Eo r (Yj (Yd x y) over 0) c<=1/\Yj (Yd x y) over 0<Y/\
 Eu r (Yj (Yd x y) over 0) c+x*y+over+c=r+Y*(Xf x y+YD (Yd x y) over 0+Eo r (Yj (Yd x y) over 0) c):=by
 have hp:=NT a b;grind[Xf,Yd,YD,Yj,Eu,Eo,Y]
theorem FN.last(h:FN xs bs ro wd n over c q)(k:bs.length=n)(b:d<Y)(j:d+over+c=xs[ro+n]?.getD 0+Y*c'):
 (q++[d]).length=n+1/\DK Y (q++[d])/\val Y (q++[d])+val Y bs*wd=val Y ((xs.drop ro).take (n+1))+Y^(n+1)*c':=by
 obtain⟨e,a,f,g,i⟩:=h;refine⟨by simp;omega,a.append (DK.cons b (DK.nil _)),?_⟩;grind[Ye,Jp]
def Dv(x s:Nat):Nat:=x*2^s%Y
def Dm(x s:Nat):Nat:=x/2^s
theorem Hl(hs:s<=64):2^s*2^(64-s)=Y:=by rw[<-CC,show s+(64-s)=64 from by omega];rfl
theorem Hm(hs:s<=64):Dv x s=x%2^(64-s)*2^s:=by
 grind[Dv,Hl,Nat.mul_mod_mul_right]
theorem SM(hs:s<=63)(e:x<Y)(d:c<2^s):c ||| Dv x s=c+Dv x s/\c+Dv x s<Y/\Dm x (64-s)<2^s/\c+Dv x s+Y*Dm x (64-s)=c+x*2^s:=by
 rw[Hm O];have hp:=Hl (s:=s) O;have g:=AZ x (2^(64-s));have a:=AV x (A4 (64-s));unfold Dm;have b:c ||| x%2^(64-s)*2^s=c+x%2^(64-s)*2^s:=by
  rw[Nat.or_comm,AO,<-CH d,CW]
 refine⟨b,?_,?_,?_⟩
 . have f:(x%2^(64-s)+1)*2^s<=2^(64-s)*2^s:=Ae _ a;grind
 . rw[AC (A4 _),hp];exact e
 grind
def F5(a:Ja)(s i:Nat)(q:Ja)(c:Nat):Prop:=
 q.length=i/\DK Y q/\c<2^s/\val Y q+Y^i*c=val Y (a.take i)*2^s
def F5.start(a:Ja)(s:Nat):F5 a s 0 [] 0:=⟨J,DK.nil _,A4 s,by simp[val]⟩
theorem F5.step(h:F5 f s i q c)(e:d<Y)(b:c'<2^s)(l:d+Y*c'=c+f[i]?.getD 0*2^s):F5 f s (i+1) (q++[d]) c':=by
 obtain⟨g,a,j,k⟩:=h;refine⟨by simp;omega,a.append (DK.cons e (DK.nil _)),b,?_⟩;grind[Ye,Jp]
theorem SN{P:Nat}(hs:s<=63)(f:x<Y):
 Dv (P%2^s) (64-s) ||| Dm x s=Dv (P%2^s) (64-s)+Dm x s/\Dv (P%2^s) (64-s)+Dm x s<Y/\Dv x (64-s)=Dv ((x+Y*P)%2^s) (64-s)/\
 (x+Y*P)/2^s=Dv (P%2^s) (64-s)+Dm x s+Y*(P/2^s):=by
 have hp:=Hl (s:=s) O;rw[Hm O,Hm O,Hm O,show 64-(64-s)=s from by omega,Nat.mod_mod];have i:Dm x s<2^(64-s):=by
  unfold Dm;rw[AC (A4 _),AO,hp];exact f
 have c:=AV P (A4 s);have d:=AZ P (2^s);refine⟨?_,?_,?_,?_⟩
 . grind[AO,CH]
 . have g:(P%2^s+1)*2^(64-s)<=2^s*2^(64-s):=Ae _ c;grind
 . grind[Cg,Co,Nat.mod_mod]
 . unfold Dm;have e:x+Y*P=x+2^s*(P%2^s*2^(64-s)+Y*(P/2^s)):=by
    rw[<-hp];generalize P/2^s=a at *;generalize P%2^s=b at *;generalize 2^(64-s)=E at *;generalize 2^s=F at *;rw[<-d];grind
   grind[CB]
theorem SO(B:Nat)(ds:Ja)(k:Nat)(h:k<ds.length):val B (ds.drop k)=ds[k]?.getD 0+B*val B (ds.drop (k+1)):=by
 grind[AD,JT]
def XT(a V n K k:Nat)(D Q:Ja):Prop:=
 D.length=K+n/\DK Y D/\Q.length=K/\DK Y Q/\val Y D<V*Y^k/\a=val Y D+V*val Y Q/\∀j,j<k->Q[j]?.getD 0=0
theorem XT.win(h:XT g V n K (k+1) D Q)(s:k<K)(r:V<Y^n):
 val Y ((D.drop k).take (n+1))<V*Y/\val Y D=val Y (D.take k)+Y^k*val Y ((D.drop k).take (n+1))/\val Y (D.drop (k+(n+1)))=0:=by
 obtain⟨i,j,l,m,f,o,p⟩:=h;have q:0<Y:=by unfold Y;omega
 have d:val Y D<Y^(k+(n+1)):=by
  have e:Y^(k+(n+1))=Y^n*Y^(k+1):=by rw[<-CC];congr 1;omega
  rw[e];exact Ao f (Ae _ O)
 have c:=LW O d;have a:=val_append Y (D.take k) (D.drop k);rw[A0,Ai,Cw O]at a;have b:=val_append Y ((D.drop k).take (n+1)) ((D.drop k).drop (n+1));rw[A0,C2,c,Cb,A6]at b;rw[b]at a;refine⟨?_,a,c⟩;rcases AF (val Y ((D.drop k).take (n+1))) (V*Y)with h|h
 . exact h
 . exfalso
   have:=AA (Y^k) h;have e:Y^k*(V*Y)=V*Y^(k+1):=by rw[Cc];grind
   omega
theorem XT.step(h:XT g V n K (k+1) D Q)(r:k<K)(p:V<Y^n)(t:q.length=n+1)(s:DK Y q)
(u:val Y q=val Y ((D.drop k).take (n+1))%V)(c:0<V):
 XT g V n K k (DU D k (n+1) q) (Q.set k (val Y ((D.drop k).take (n+1))/V)):=by
 obtain⟨v,L,w⟩:=h.win r p;obtain⟨l,b,y,m,z,A,o⟩:=h;have E:0<Y:=by unfold Y;omega
 generalize F:val Y ((D.drop k).take (n+1))=W at *;have G:=AZ W V;have e:=AV W c;have d:W/V<Y:=by rw[AC c,AO];exact v
 have f:val Y (DU D k (n+1) q)=val Y (D.take k)+Y^k*val Y q:=by
  rw[DU,val_append,val_append,Ai,Cw O,w];simp
 have i:=LV Y Q k (W/V) O;rw[o k O,Cb,A6]at i;have I:val Y (D.take k)<Y^k:=by
  have:=J7 (b.take k);rwa[Ai,Cw O]at this
 refine⟨by rw[JO t O];exact l,?_,DY,?_,?_,?_,?_⟩
 . intro x a;rw[DU]at a;rcases Cs.1 a with a|a
   . exact(b.take k) x a
   . rcases Cs.1 a with a|a
     . exact s x a
     . exact(b.drop _) x a
 . intro x a;rcases List.mem_or_eq_of_mem_set a with a|a
   . exact m x a
   . rw[a];exact d
 . rw[f,u];have:=AA (Y^k) (show W%V+1<=V from e);grind
 . grind
 . intro j H;grind
theorem XT.start(b:D.length=K+n)(c:DK Y D)(a:val Y D=g)(d:g<V*Y^K):XT g V n K K D (Zw K 0):=
 ⟨b,c,AM,λx e=>by grind[Y],by rw[a];exact d,by rw[Ng,Cb,a,A6],λj _=>by
  grind⟩
theorem XT.fin{b:Nat}(h:XT g V n K 0 D Q)(k:g=m*2^s)(l:V=b*2^s):Js Q=Jb Y (m/b)/\val Y D=m%b*2^s:=by
 obtain⟨a,c,d,e,f,i,j⟩:=h;grind[CB,A3,Co,Cf,Nat.mul_div_mul_right,Nat.mul_mod_mul_right,JQ,Jd]
def SP(f ro len cap:Nat)(xs:Ja)(a:Zu)(D:Nat)(bs:Ja)(wd:Nat)(w:World)
(U:DO w f xs)(I:DK Y xs)(ak:ro+(len+1)<=xs.length)(ah:len+1<=cap)(E:Row .u64 w (B a len D) bs)(W:DK Y bs)(F:∀p,a=some p->0<len->p.block≠f)(H:wd<Y):
 Calls Tryz.prog 199 #[B (some ⟨f,ro,none⟩) (len+1) cap,B a len D,C .u64 (wd:Nat)] w λe z=>
  ∃c q,e=.returned (C .u64 (c:Nat))/\(c<=1/\q.length=len+1/\DK Y q/\val Y q+val Y bs*wd=val Y ((xs.drop ro).take (len+1))+Y^(len+1)*c)/\DO z f (DU xs ro (len+1) q)/\w.grownBy z (some f):=by
 obtain⟨hl,ai,ae,aj,l⟩:=Jq E;obtain⟨M,L,N⟩:=Db hl l F;clear l hl F E;go_enter func199,ntmps199
 go_wp2;go_loopw [7,8,16] (λov T v wr=>∃(i over c:Nat) (q:Ja),v=C .i64 i/\ov=C .u64 (over:Nat)/\T=C .u64 (c:Nat)/\i<=len/\over<Y/\c<=1/\Hid (FN xs bs ro wd i over c q)/\DO wr f (DU xs ro i q)/\w.grownBy wr (some f))
  (λ_ _ v _=>len-(intOf v).toNat)
 case atStart=>exact⟨0,0,0,[],J,J,J,AJ _,by unfold Y;omega,O,FN.start _ _ _ _,by rw[mid_zero];exact U,Ym _ _⟩
 case round=>
  obtain⟨i,over,c,q,rfl,rfl,rfl,hi,G,n,m,j,hg⟩:=hrel;by_cases X:i<len
  . obtain⟨b,an,rfl,V,l⟩:=L.o i X;have R:=N.o _ J O;have g:=m.o.1;have ad:=(BR (w:=w) (hg.block b V λe=>R (by cases e;rfl))).trans l;have P:wr.cell? ⟨f,ro+i,none⟩=some (C .u64 (xs[ro+i]?.getD 0:Nat)):=by rw[<-FY g O];exact j.cell (by rw[JO g O];omega)
    have Q:=j.frozen (ro+i);have A:=W.getD uo i;have u:=I.getD uo (ro+i);obtain⟨o,y,s,s4,K⟩:=SL A H u G n;have k:=Z (m.o.step _ _ _ y o s K);have t:=Z (show ∀d,(DU xs ro i q).set (ro+i) d=DU xs ro (i+1) (q++[d])from λd=>F2 g O d);clear l g K;generalize bs[i]?.getD 0=x at *;generalize xs[ro+i]?.getD 0=r at *;have a1:=Is (Yd x wd) over;have S:=It r (Yj (Yd x wd) over 0) c n;unfold Y at o;go_wp2_with(first
     |(go_at_call 190;refine(FZ _ _ A H _).mono ?_;rintro e z ⟨rfl,rfl⟩))
    exact⟨⟨i+1,Xf x wd+YD (Yd x wd) over 0,Eo r (Yj (Yd x wd) over 0) c,q++[Eu r (Yj (Yd x wd) over 0) c],DJ,DJ,J,O,k.o.2.2.1,k.o.2.2.2.1,k,by rw[<-t.o];exact j.set _ _,Je hg (Jy _ _ _ _)⟩,by simp[intOf];omega⟩
  . obtain rfl:i=len:=O
    have g:=m.o.1;have P:wr.cell? ⟨f,ro+i,none⟩=some (C .u64 (xs[ro+i]?.getD 0:Nat)):=by rw[<-FY g O];exact j.cell (by rw[JO g O];omega)
    have Q:=j.frozen (ro+i);have u:=I.getD uo (ro+i);obtain⟨o,y,s⟩:=LJ u G n;have k:=Z (m.o.last M.o.symm o s);have t:=Z (show ∀d,(DU xs ro i q).set (ro+i) d=DU xs ro (i+1) (q++[d])from λd=>F2 g O d);clear g s;generalize xs[ro+i]?.getD 0=r at *;have S:=It r over c n;go_wp2;go_ret;exact⟨Eo r over c,_,J,⟨y,k.o⟩,by rw[<-t.o];exact j.set _ _,Je hg (Jy _ _ _ _)⟩
