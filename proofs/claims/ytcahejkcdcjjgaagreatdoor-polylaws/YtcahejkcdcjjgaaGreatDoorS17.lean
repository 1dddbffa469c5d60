import Derived.Test.YtcahejkcdcjjgaaGreatDoorS10
import Derived.Test.YtcahejkcdcjjgaaGreatDoorS09
set_option linter.all false
open Go.Value renaming slice->B,int->C
set_option maxRecDepth 99999
set_option maxHeartbeats 0
namespace Go.Proofs.YtcahejkcdcjjgaaGreatDoor
open List renaming replicate->WT
open Proofs.Tryz
open Go.RowKit Go.Shelf
variable{D Q bs f q xs:U}{K V c c' d g i k len m n over ro s wd x:Nat}
theorem Rq{o v:Nat}(h:o<f.length):(f.set o v).take (o+1)=f.take o++[v]:=by
 grind[Cb,List.take_set,Aj]
def NM{b:Nat}:∀(c:U) (o:Nat) (W:World) (a:U),DU W b a->o+c.length<=a.length->DU (W.setCells b o (cellsOf .u64 c)) b (a.take o++(c++a.drop (o+c.length)))
 |[],o,W,a,h,_=>by
  have e:a.take o++([]++a.drop (o+([]:U).length))=a:=DQ
  rw[e];exact h
 |v::r,o,W,a,h,hl=>by
  rw[Ag]at hl;have d:=NM r (o+1) (W.setCell ⟨b,o,none⟩ (C .u64 (v:Nat))) (a.set o v) (h.set o v) De;rw[Rq Z,List.drop_set_of_lt Z,CI]at d;have e:o+1+r.length=o+(v::r).length:=by rw[Ag];omega
  rw[e]at d;exact d
theorem NN{b:Nat}:∀(a:List Value) (o:Nat) (W:World),W.grownBy (W.setCells b o a) (some b)
 |[],_,W=>Yu W _
 |v::r,o,W=>Jf (JA W b o v) (NN r (o+1) _)
theorem NO(ty:TypeId)(g n c:Nat)(a:U)(W:World)(h:DU W g a)(k:n<=a.length):
 ∃W',(Builtin.clear_ #[34] ty #[B (some ⟨g,0,none⟩) n c]).run Tryz.prog W=.ok (.tuple #[]) W'/\DU W' g (WT n 0++a.drop n)/\W.grownBy W' (some g):=by
 rcases A5 n with b|b
 . subst b;refine⟨W,?_,?_,Yu W _⟩
   . simp[Builtin.clear_,run_underlying underlying34]
   grind
 . have d:=Lib.run_clear_slice (P:=Tryz.prog) W 34 163 ty (C .u64 0) underlying34 (λw=>by kernel_rfl) J J g 0 n c b
    (λj i=>by rw[Ch,h.cell Z];rfl) λj _=>h.frozen _
   have e:(WT n (Value.int .u64 0))=cellsOf .u64 (WT n 0):=by simp[cellsOf]
   rw[e]at d;have f:=NM (WT n 0) 0 W a h De;grind[NN]
theorem LN(B:Nat):∀(D:U) (j d:Nat),j<D.length->val B (D.set j d)+B^j*D[j]?.getD 0=val B D+B^j*d
 |[],_,_,h=>by cases h
 |x::D,0,d,_=>by simp[val];omega
 |x::D,j+1,d,h=>by
  have a:=LN B D j d (by simpa using h);grind[val]
def NP(B n:Nat):val B (WT n 0)=0:=by
 induction n with
 |zero=>rfl
 |succ n a=>rw[Co,val,a];simp
def EK(a bs:U)(i:Nat)(D:U):Prop:=
 D.length=a.length+bs.length/\DR O D/\val O D=val O (a.take i)*val O bs
theorem EK.start(a bs:U):EK a bs 0 (WT (a.length+bs.length) 0):=
 ⟨AC,λx b=>by grind[O],by rw[NP];simp[val]⟩
def NQ{B:Nat}(c:0<B):∀ {D:U},val B D=0->∀j:Nat,D[j]?.getD 0=0
 |[],_,j=>by simp
 |d::D,h,0=>by
  rw[JR]at h;show d=0;omega
 |d::D,h,j+1=>by
  rw[JR]at h;have a:B*val B D=0:=Z
  have b:val B D=0:=by
   rcases Nat.mul_eq_zero.1 a with h|h
   . omega
   . exact h
  rw[Ah];exact NQ c b j
def X6{B:Nat}(c:k<=D.length)(h:val B D<B^k):val B (D.drop k)=0:=by
 have e:val B D=val B (D.take k)+B^k*val B (D.drop k):=by
  have b:=val_append B (D.take k) (D.drop k);rw[AU,Aj,Cq c]at b;exact b
 rcases A5 (val B (D.drop k))with a|a
 . exact a
 . have:=Au (B^k) a;omega
theorem EK.step(h:EK f bs i D)(r:DR O f)(o:DR O bs)(v:i<f.length)(w:wd=f[i]?.getD 0)(p:YL D bs i wd bs.length over q):
 EK f bs (i+1) ((Da D i bs.length q).set (i+bs.length) over):=by
 obtain⟨u,k,n⟩:=h;obtain⟨q1,q2,q3,y⟩:=p;have m:val O D<O^(i+bs.length):=by
  rw[n,Cu];have b:=JY (r.take i);rw[Aj,Cq Z]at b;have c:=JY o;rcases A5 (val O bs)with j|j
  . rw[j,Cd];exact DO (C6 uo) (C6 uo)
  . exact Nat.mul_lt_mul'' b c
 have d:=X6 Z m;have l:(Da D i bs.length q).length=D.length:=JK q1 Z;refine⟨De,?_,?_⟩
 . intro x a;rcases List.mem_or_eq_of_mem_set a with a|a
   . rw[Da]at a;rcases Cp.1 a with a|a
     . exact(k.take i) x a
     . rcases Cp.1 a with a|a
       . exact q2 x a
       . exact(k.drop _) x a
   . rw[a];exact q3
 . have b:=LN O (Da D i bs.length q) (i+bs.length) over (by rw[l];omega);have c:(Da D i bs.length q)[i+bs.length]?.getD 0=0:=by
    rw[XT q1 Z];have:=NQ uo d 0;rw[List.getElem?_drop,A4]at this;exact this
   rw[c,Cd,A4]at b;rw[b];have s:val O (Da D i bs.length q)=val O (D.take i)+O^i*val O q:=by
    rw[Da,val_append,val_append,Aj,Cq Z,d];simp
   have t:val O D=val O (D.take i)+O^i*val O ((D.drop i).take bs.length):=by
    have e:=val_append O (D.take i) (D.drop i);rw[AU,Aj,Cq Z]at e;have g:=val_append O ((D.drop i).take bs.length) ((D.drop i).drop bs.length);rw[AU,CX,d,Cd,A4]at g;rw[e,g]
   grind[Jk]
theorem EK.fin(h:EK f bs f.length D)(c:f=Jc O m)(d:bs=Jc O n):Jw D=Jc O (m*n):=by
 obtain⟨_,a,b⟩:=h;grind[JP,Jb,Jl]
theorem YL.tail(h:YL (D++f) bs i wd len over q)(e:i+len<=D.length):YL D bs i wd len over q:=by
 obtain⟨a,b,c,d⟩:=h;refine⟨a,b,c,?_⟩;grind
theorem NR(a:i+len<=D.length):Da (D++f) i len q=Da D i len q++f:=by
 grind[Da]
def Rr(g rl rc:Nat)(c:List Nat)(a:WO)(la ca:Nat)(b:WO)(lb E m n:Nat)(w:World)
(f:DU w g c)(bd:DR O c)(hz:la+lb<=c.length)(aq:la+lb<=rc)(bc:rc<=9223372036854775807)(ba:la+lb<=1099511627776)
(ra:Row .u64 w (B a la ca) (Jc O m))(k:Row .u64 w (B b lb E) (Jc O n))(am:∀p,a=some p->0<la->p.block≠g)(an:∀p,b=some p->0<lb->p.block≠g):
 Calls Tryz.prog 153 #[B (some ⟨g,0,none⟩) rl rc,B a la ca,B b lb E] w λe K=>∃u,e=.returned u/\(UN K u (m*n)/\w.grownBy K (some g))/\(u=B none 0 0\/∃l,u=B (some ⟨g,0,none⟩) l rc)/\∃L,DU K g L/\DR O L/\L.length=c.length:=by
 obtain⟨F,bf,bm,bk,ai⟩:=Jn ra;have x:=(Jn k).1;have bg:=(Jn k).2.1;have bn:=(Jn k).2.2.1;have xa:=Jm Jb m;have xb:=Jm Jb n;have P:=Ja λD (h:EK (Jc O m) (Jc O n) (Jc O m).length D)=>h.fin (m:=m) (n:=n) J J;have N:=Ja k;generalize Jc O m=t at *;generalize Jc O n=o at *;obtain⟨W1,ay,hA1,ad⟩:=NO 0 g (la+lb) rc c w f hz;have v:=Ja (EK.start t o);rw[<-F,<-x]at v;have T:DR O (c.drop (la+lb)):=bd.drop _;have Ql:(c.drop (la+lb)).length=c.length-(la+lb):=AW;obtain⟨X,hZ⟩:∃X,X=c.length:=⟨_,J⟩;rw[<-hZ]at Ql hz ⊢;generalize c.drop (la+lb)=s at *;obtain⟨M,z,S,V,A⟩:=Fg ai F x am an;clear ai F x ra k hZ f am an;go_enter func153,ntmps153
 go_wp2;go_loopw [19] (λI wr=>∃(i:Nat) (D:List Nat),I=C .i64 i/\i<=la/\Hid (EK t o i D)/\DU wr g (D++s)/\w.grownBy wr (some g))
  (λI _=>la-(intOf I).toNat)
 case atStart=>exact⟨0,_,J,AN _,v.o,hA1,ad⟩
 case round=>
  clear v hA1 ad ay;obtain⟨i,D,rfl,hi,d,f,r⟩:=hrel;have Qn:=d.o.1;rw[<-z.o,<-S.o]at Qn;by_cases ak:i<la
  . obtain⟨ab,ao,rfl,ap,ah⟩:=M.o i ak;have bi:=(Bs (w:=w) (r.block ab ap λe=>V.o _ J Z (by cases e;rfl))).trans ah;have hw:=xa.getD uo i;have W:=Ja λover q (h:YL D o i (t[i]?.getD 0) o.length over q)=>d.o.step xa xb (by rw[<-z.o];exact ak) J h;have Qm:=Row.grown N.o r A.o;have y:=d.o.2.1.append T;rw[<-S.o]at W;generalize t[i]?.getD 0=wd at *;clear ah;go_wp2_with(go_at_call 172;refine(LH g i lb _ (D++s) b E o wd _ f y (by rw[AV];omega) Z Qm xb A.o hw).mono ?_;rintro e w5 ⟨over,q,rfl,G,hA5,az⟩;have U:=JK G.1 (xs:=D++s) (ro:=i) (by rw[AV];omega);have bh:=hA5.cell (j:=i+lb) (by rw[U,AV];omega);have bj:=hA5.frozen (i+lb);have Q:=Ja G;clear G U)
    have R:=hA5.set (i+lb) over;rw[NR Z,List.set_append_left _ _ (by rw[JK Q.o.1 Z];omega)]at R;exact⟨⟨i+1,(Da D i lb q).set (i+lb) over,DQ,Z,W.o over q (Q.o.tail Z),R,Jf (Jf r az) (JA _ _ _ _)⟩,by simp[intOf];omega⟩
  . obtain rfl:i=la:=Z
    have Qe:Row .u64 wr (B (some ⟨g,0,none⟩) (i+lb) rc) D:=by
     have h1:=f.row 0 (i+lb) rc De aq bc ba;rwa[AH,A8 Z,Ad Z]at h1
    have Qo:=Ja (P.o D (by rw[<-z.o];exact d.o));have y:=d.o.2.1.append T;clear d P M N V A;go_wp2_with(go_at_call 132;refine(Ic _ _ _ D _ Qe).mono ?_;rintro e w5 ⟨u,rfl,⟨H,ae⟩,aj⟩;rw[Qo.o]at H aj;obtain⟨ua,uc,rfl⟩:=UN.form H)
    go_ret;refine⟨_,J,⟨H,Jf r (JJ ae _)⟩,?_,D++s,f.below ae,y,De⟩;rcases aj with⟨e,_⟩|e
    . exact Az e
    . exact AE ⟨_,e⟩
theorem EK.fing(h:EK f bs f.length D):Jw D=Jc O (val O f*val O bs):=by
 obtain⟨_,a,b⟩:=h;grind[JP,Jb]
def Rs(g rl rc:Nat)(c:List Nat)(a:WO)(la W:Nat)(b:WO)(lb z:Nat)(d f:List Nat)(w:World)(xa:DR O d)(xb:DR O f)
(m:DU w g c)(bc:DR O c)(hz:la+lb<=c.length)(ap:la+lb<=rc)(ba:rc<=9223372036854775807)(az:la+lb<=1099511627776)
(ra:Row .u64 w (B a la W) d)(n:Row .u64 w (B b lb z) f)(ak:∀p,a=some p->0<la->p.block≠g)(am:∀p,b=some p->0<lb->p.block≠g):
 Calls Tryz.prog 153 #[B (some ⟨g,0,none⟩) rl rc,B a la W,B b lb z] w λe H=>∃u,e=.returned u/\(UN H u (val O d*val O f)/\w.grownBy H (some g))/\(u=B none 0 0\/∃l,u=B (some ⟨g,0,none⟩) l rc)/\∃I,DU H g I/\DR O I/\I.length=c.length:=by
 obtain⟨A,bd,bk,bj,ah⟩:=Jn ra;have t:=(Jn n).1;have bf:=(Jn n).2.1;have bm:=(Jn n).2.2.1;have M:=Ja λD (h:EK d f d.length D)=>h.fing;have L:=Ja n;obtain⟨W1,aq,hA1,X⟩:=NO 0 g (la+lb) rc c w m hz;have s:=Ja (EK.start d f);rw[<-A,<-t]at s;have R:DR O (c.drop (la+lb)):=bc.drop _;have Ql:(c.drop (la+lb)).length=c.length-(la+lb):=AW;obtain⟨V,hZ⟩:∃V,V=c.length:=⟨_,J⟩;rw[<-hZ]at Ql hz ⊢;generalize c.drop (la+lb)=r at *;obtain⟨K,x,Q,T,y⟩:=Fg ah A t ak am;clear ah A t ra n hZ m ak am;go_enter func153,ntmps153
 go_wp2;go_loopw [19] (λG wr=>∃(i:Nat) (D:List Nat),G=C .i64 i/\i<=la/\Hid (EK d f i D)/\DU wr g (D++r)/\w.grownBy wr (some g))
  (λG _=>la-(intOf G).toNat)
 case atStart=>exact⟨0,_,J,AN _,s.o,hA1,X⟩
 case round=>
  clear s hA1 X aq;obtain⟨i,D,rfl,hi,k,m,o⟩:=hrel;have Qn:=k.o.1;rw[<-x.o,<-Q.o]at Qn;by_cases aj:i<la
  . obtain⟨ab,ao,rfl,an,ae⟩:=K.o i aj;have bh:=(Bs (w:=w) (o.block ab an λe=>T.o _ J Z (by cases e;rfl))).trans ae;have hw:=xa.getD uo i;have U:=Ja λover q (h:YL D f i (d[i]?.getD 0) f.length over q)=>k.o.step xa xb (by rw[<-x.o];exact aj) J h;have Qm:=Row.grown L.o o y.o;have v:=k.o.2.1.append R;rw[<-Q.o]at U;generalize d[i]?.getD 0=wd at *;clear ae;go_wp2_with(go_at_call 172;refine(LH g i lb _ (D++r) b z f wd _ m v (by rw[AV];omega) Z Qm xb y.o hw).mono ?_;rintro e w5 ⟨over,q,rfl,E,hA5,ay⟩;have S:=JK E.1 (xs:=D++r) (ro:=i) (by rw[AV];omega);have bg:=hA5.cell (j:=i+lb) (by rw[S,AV];omega);have bi:=hA5.frozen (i+lb);have N:=Ja E;clear E S)
    have P:=hA5.set (i+lb) over;rw[NR Z,List.set_append_left _ _ (by rw[JK N.o.1 Z];omega)]at P;exact⟨⟨i+1,(Da D i lb q).set (i+lb) over,DQ,Z,U.o over q (N.o.tail Z),P,Jf (Jf o ay) (JA _ _ _ _)⟩,by simp[intOf];omega⟩
  . obtain rfl:i=la:=Z
    have Qe:Row .u64 wr (B (some ⟨g,0,none⟩) (i+lb) rc) D:=by
     have h1:=m.row 0 (i+lb) rc De ap ba az;rwa[AH,A8 Z,Ad Z]at h1
    have Qo:=Ja (M.o D (by rw[<-x.o];exact k.o));have v:=k.o.2.1.append R;clear k M K L T y;go_wp2_with(go_at_call 132;refine(Ic _ _ _ D _ Qe).mono ?_;rintro e w5 ⟨u,rfl,⟨F,ad⟩,ai⟩;rw[Qo.o]at F ai;obtain⟨ua,uc,rfl⟩:=UN.form F)
    go_ret;refine⟨_,J,⟨F,Jf o (JJ ad _)⟩,?_,D++r,m.below ad,v,De⟩;rcases ai with⟨e,_⟩|e
    . exact Az e
    . exact AE ⟨_,e⟩
def F6:O=2^64:=by unfold O;rfl
def FU(xs bs:U)(ro wd i over c:Nat)(q:U):Prop:=
 q.length=i/\DR O q/\over<O/\c<=1/\val O q+val O (bs.take i)*wd=val O ((xs.drop ro).take i)+O^i*(over+c)
def FU.start(xs bs:U)(ro wd:Nat):FU xs bs ro wd 0 0 0 []:=⟨J,DR.nil _,by unfold O;omega,Z,by simp[val]⟩
theorem FU.step(h:FU xs bs ro wd i over c q)(d a c':Nat)(f:d<O)(g:a<O)(e:c'<=1)(n:d+bs[i]?.getD 0*wd+over+c=xs[ro+i]?.getD 0+O*(a+c')):FU xs bs ro wd (i+1) a c' (q++[d]):=by
 obtain⟨j,b,k,l,m⟩:=h;refine⟨by simp;omega,b.append (DR.cons f (DR.nil _)),g,e,?_⟩;grind[J4,Jk]
theorem Rt{y r:Nat}(a:x<O)(b:y<O)(f:r<O)(e:over<O)(d:c<=1):
 YS x y+Yl (J3 x y) over 0<O/\Ex r (J6 (J3 x y) over 0) c<O/\Eo r (J6 (J3 x y) over 0) c<=1/\J6 (J3 x y) over 0<O/\
 Ex r (J6 (J3 x y) over 0) c+x*y+over+c=r+O*(YS x y+Yl (J3 x y) over 0+Eo r (J6 (J3 x y) over 0) c):=by
 have hp:=NE a b;grind[YS,J3,Yl,J6,Ex,Eo,O]
theorem FU.last(h:FU xs bs ro wd n over c q)(k:bs.length=n)(b:d<O)(j:d+over+c=xs[ro+n]?.getD 0+O*c'):
 (q++[d]).length=n+1/\DR O (q++[d])/\val O (q++[d])+val O bs*wd=val O ((xs.drop ro).take (n+1))+O^(n+1)*c':=by
 obtain⟨e,a,f,g,i⟩:=h;refine⟨by simp;omega,a.append (DR.cons b (DR.nil _)),?_⟩;grind[J4,Jk]
def Du(x s:Nat):Nat:=x*2^s%O
def Dp(x s:Nat):Nat:=x/2^s
theorem Hd(hs:s<=64):2^s*2^(64-s)=O:=by rw[<-Cu,show s+(64-s)=64 from by omega];rfl
theorem He(hs:s<=64):Du x s=x%2^(64-s)*2^s:=by
 grind[Du,Hd,Nat.mul_mod_mul_right]
theorem Ru(hs:s<=63)(e:x<O)(d:c<2^s):c ||| Du x s=c+Du x s/\c+Du x s<O/\Dp x (64-s)<2^s/\c+Du x s+O*Dp x (64-s)=c+x*2^s:=by
 rw[He Z];have hp:=Hd (s:=s) Z;have g:=A0 x (2^(64-s));have a:=AY x (A2 (64-s));unfold Dp;have b:c ||| x%2^(64-s)*2^s=c+x%2^(64-s)*2^s:=by
  rw[Nat.or_comm,AK,<-Cy d,CO]
 refine⟨b,?_,?_,?_⟩
 . have f:(x%2^(64-s)+1)*2^s<=2^(64-s)*2^s:=Ac _ a;grind
 . rw[AD (A2 _),hp];exact e
 grind
def F7(a:U)(s i:Nat)(q:U)(c:Nat):Prop:=
 q.length=i/\DR O q/\c<2^s/\val O q+O^i*c=val O (a.take i)*2^s
def F7.start(a:U)(s:Nat):F7 a s 0 [] 0:=⟨J,DR.nil _,A2 s,by simp[val]⟩
theorem F7.step(h:F7 f s i q c)(e:d<O)(b:c'<2^s)(l:d+O*c'=c+f[i]?.getD 0*2^s):F7 f s (i+1) (q++[d]) c':=by
 obtain⟨g,a,j,k⟩:=h;refine⟨by simp;omega,a.append (DR.cons e (DR.nil _)),b,?_⟩;grind[J4,Jk]
theorem Rv{P:Nat}(hs:s<=63)(f:x<O):
 Du (P%2^s) (64-s) ||| Dp x s=Du (P%2^s) (64-s)+Dp x s/\Du (P%2^s) (64-s)+Dp x s<O/\Du x (64-s)=Du ((x+O*P)%2^s) (64-s)/\
 (x+O*P)/2^s=Du (P%2^s) (64-s)+Dp x s+O*(P/2^s):=by
 have hp:=Hd (s:=s) Z;rw[He Z,He Z,He Z,show 64-(64-s)=s from by omega,Nat.mod_mod];have i:Dp x s<2^(64-s):=by
  unfold Dp;rw[AD (A2 _),AK,hp];exact f
 have c:=AY P (A2 s);have d:=A0 P (2^s);refine⟨?_,?_,?_,?_⟩
 . grind[AK,Cy]
 . have g:(P%2^s+1)*2^(64-s)<=2^s*2^(64-s):=Ac _ c;grind
 . grind[A9,Ck,Nat.mod_mod]
 . unfold Dp;have e:x+O*P=x+2^s*(P%2^s*2^(64-s)+O*(P/2^s)):=by
    rw[<-hp];generalize P/2^s=a at *;generalize P%2^s=b at *;generalize 2^(64-s)=E at *;generalize 2^s=F at *;rw[<-d];grind
   grind[Ct]
theorem Rw(B:Nat)(ds:U)(k:Nat)(h:k<ds.length):val B (ds.drop k)=ds[k]?.getD 0+B*val B (ds.drop (k+1)):=by
 grind[Ay,JR]
def Xp(a V n K k:Nat)(D Q:U):Prop:=
 D.length=K+n/\DR O D/\Q.length=K/\DR O Q/\val O D<V*O^k/\a=val O D+V*val O Q/\∀j,j<k->Q[j]?.getD 0=0
theorem Xp.win(h:Xp g V n K (k+1) D Q)(s:k<K)(r:V<O^n):
 val O ((D.drop k).take (n+1))<V*O/\val O D=val O (D.take k)+O^k*val O ((D.drop k).take (n+1))/\val O (D.drop (k+(n+1)))=0:=by
 obtain⟨i,j,l,m,f,o,p⟩:=h;have q:0<O:=by unfold O;omega
 have d:val O D<O^(k+(n+1)):=by
  have e:O^(k+(n+1))=O^n*O^(k+1):=by rw[<-Cu];congr 1;omega
  rw[e];exact Ar f (Ac _ Z)
 have c:=X6 Z d;have a:=val_append O (D.take k) (D.drop k);rw[AU,Aj,Cq Z]at a;have b:=val_append O ((D.drop k).take (n+1)) ((D.drop k).drop (n+1));rw[AU,CX,c,Cd,A4]at b;rw[b]at a;refine⟨?_,a,c⟩;rcases AJ (val O ((D.drop k).take (n+1))) (V*O)with h|h
 . exact h
 . exfalso
   have:=Au (O^k) h;have e:O^k*(V*O)=V*O^(k+1):=by rw[Ce];grind
   omega
theorem Xp.step(h:Xp g V n K (k+1) D Q)(r:k<K)(p:V<O^n)(t:q.length=n+1)(s:DR O q)
(u:val O q=val O ((D.drop k).take (n+1))%V)(c:0<V):
 Xp g V n K k (Da D k (n+1) q) (Q.set k (val O ((D.drop k).take (n+1))/V)):=by
 obtain⟨v,L,w⟩:=h.win r p;obtain⟨l,b,y,m,z,A,o⟩:=h;have E:0<O:=by unfold O;omega
 generalize F:val O ((D.drop k).take (n+1))=W at *;have G:=A0 W V;have e:=AY W c;have d:W/V<O:=by rw[AD c,AK];exact v
 have f:val O (Da D k (n+1) q)=val O (D.take k)+O^k*val O q:=by
  rw[Da,val_append,val_append,Aj,Cq Z,w];simp
 have i:=LN O Q k (W/V) Z;rw[o k Z,Cd,A4]at i;have I:val O (D.take k)<O^k:=by
  have:=JY (b.take k);rwa[Aj,Cq Z]at this
 refine⟨by rw[JK t Z];exact l,?_,De,?_,?_,?_,?_⟩
 . intro x a;rw[Da]at a;rcases Cp.1 a with a|a
   . exact(b.take k) x a
   . rcases Cp.1 a with a|a
     . exact s x a
     . exact(b.drop _) x a
 . intro x a;rcases List.mem_or_eq_of_mem_set a with a|a
   . exact m x a
   . rw[a];exact d
 . rw[f,u];have:=Au (O^k) (show W%V+1<=V from e);grind
 . grind
 . intro j H;grind
theorem Xp.start(b:D.length=K+n)(c:DR O D)(a:val O D=g)(d:g<V*O^K):Xp g V n K K D (WT K 0):=
 ⟨b,c,AC,λx e=>by grind[O],by rw[a];exact d,by rw[NP,Cd,a,A4],λj _=>by
  grind⟩
theorem Xp.fin{b:Nat}(h:Xp g V n K 0 D Q)(k:g=m*2^s)(l:V=b*2^s):Jw Q=Jc O (m/b)/\val O D=m%b*2^s:=by
 obtain⟨a,c,d,e,f,i,j⟩:=h;grind[Ct,A6,Ck,Cf,Nat.mul_div_mul_right,Nat.mul_mod_mul_right,JP,Jb]
def Rx(f ro len cap:Nat)(xs:List Nat)(a:WO)(D:Nat)(bs:List Nat)(wd:Nat)(w:World)
(U:DU w f xs)(I:DR O xs)(ak:ro+(len+1)<=xs.length)(ah:len+1<=cap)(E:Row .u64 w (B a len D) bs)(W:DR O bs)(F:∀p,a=some p->0<len->p.block≠f)(H:wd<O):
 Calls Tryz.prog 199 #[B (some ⟨f,ro,none⟩) (len+1) cap,B a len D,C .u64 (wd:Nat)] w λe z=>
  ∃c q,e=.returned (C .u64 (c:Nat))/\(c<=1/\q.length=len+1/\DR O q/\val O q+val O bs*wd=val O ((xs.drop ro).take (len+1))+O^(len+1)*c)/\DU z f (Da xs ro (len+1) q)/\w.grownBy z (some f):=by
 obtain⟨hl,ai,ae,aj,l⟩:=Jn E;obtain⟨M,L,N⟩:=Dm hl l F;clear l hl F E;go_enter func199,ntmps199
 go_wp2;go_loopw [7,8,16] (λov T v wr=>∃(i over c:Nat) (q:List Nat),v=C .i64 i/\ov=C .u64 (over:Nat)/\T=C .u64 (c:Nat)/\i<=len/\over<O/\c<=1/\Hid (FU xs bs ro wd i over c q)/\DU wr f (Da xs ro i q)/\w.grownBy wr (some f))
  (λ_ _ v _=>len-(intOf v).toNat)
 case atStart=>exact⟨0,0,0,[],J,J,J,AN _,by unfold O;omega,Z,FU.start _ _ _ _,by rw[mid_zero];exact U,Yu _ _⟩
 case round=>
  obtain⟨i,over,c,q,rfl,rfl,rfl,hi,G,n,m,j,hg⟩:=hrel;by_cases X:i<len
  . obtain⟨b,am,rfl,V,l⟩:=L.o i X;have R:=N.o _ J Z;have g:=m.o.1;have ad:=(Bs (w:=w) (hg.block b V λe=>R (by cases e;rfl))).trans l;have P:wr.cell? ⟨f,ro+i,none⟩=some (C .u64 (xs[ro+i]?.getD 0:Nat)):=by rw[<-XT g Z];exact j.cell (by rw[JK g Z];omega)
    have Q:=j.frozen (ro+i);have A:=W.getD uo i;have u:=I.getD uo (ro+i);obtain⟨o,y,s,s4,K⟩:=Rt A H u G n;have k:=Ja (m.o.step _ _ _ y o s K);have t:=Ja (show ∀d,(Da xs ro i q).set (ro+i) d=Da xs ro (i+1) (q++[d])from λd=>F4 g Z d);clear l g K;generalize bs[i]?.getD 0=x at *;generalize xs[ro+i]?.getD 0=r at *;have a1:=Ii (J3 x wd) over;have S:=Ij r (J6 (J3 x wd) over 0) c n;unfold O at o;go_wp2_with(first
     |(go_at_call 190;refine(XV _ _ A H _).mono ?_;rintro e z ⟨rfl,rfl⟩))
    exact⟨⟨i+1,YS x wd+Yl (J3 x wd) over 0,Eo r (J6 (J3 x wd) over 0) c,q++[Ex r (J6 (J3 x wd) over 0) c],DQ,DQ,J,Z,k.o.2.2.1,k.o.2.2.2.1,k,by rw[<-t.o];exact j.set _ _,Jf hg (JA _ _ _ _)⟩,by simp[intOf];omega⟩
  . obtain rfl:i=len:=Z
    have g:=m.o.1;have P:wr.cell? ⟨f,ro+i,none⟩=some (C .u64 (xs[ro+i]?.getD 0:Nat)):=by rw[<-XT g Z];exact j.cell (by rw[JK g Z];omega)
    have Q:=j.frozen (ro+i);have u:=I.getD uo (ro+i);obtain⟨o,y,s⟩:=LA u G n;have k:=Ja (m.o.last M.o.symm o s);have t:=Ja (show ∀d,(Da xs ro i q).set (ro+i) d=Da xs ro (i+1) (q++[d])from λd=>F4 g Z d);clear g s;generalize xs[ro+i]?.getD 0=r at *;have S:=Ij r over c n;go_wp2;go_ret;exact⟨Eo r over c,_,J,⟨y,k.o⟩,by rw[<-t.o];exact j.set _ _,Jf hg (JA _ _ _ _)⟩
