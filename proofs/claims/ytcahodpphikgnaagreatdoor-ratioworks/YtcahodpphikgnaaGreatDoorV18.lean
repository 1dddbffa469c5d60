import Derived.Test.YtcahodpphikgnaaGreatDoorV09
import Derived.Test.YtcahodpphikgnaaGreatDoorV08
set_option linter.all false
open Go.Value renaming slice->B,int->C
set_option maxRecDepth 99999
set_option maxHeartbeats 0
namespace Go.Proofs.YtcahodpphikgnaaGreatDoor
open List renaming replicate->OA
open Proofs.Tryz
open Go.RowKit Go.Shelf
variable{D Q bs f q xs:Ja}{K V c c' d g i k len m n over ro s wd x:Nat}
theorem Lu{o v:Nat}(h:o<f.length):(f.set o v).take (o+1)=f.take o++[v]:=by
 grind[Au,List.take_set,Af]
def Hl{b:Nat}:∀(c:Ja) (o:Nat) (W:World) (a:Ja),Bv W b a->o+c.length<=a.length->Bv (W.setCells b o (cellsOf .u64 c)) b (a.take o++(c++a.drop (o+c.length)))
 |[],o,W,a,h,_=>by
  have e:a.take o++([]++a.drop (o+([]:Ja).length))=a:=Br
  rw[e];exact h
 |v::r,o,W,a,h,hl=>by
  rw[Ap]at hl;have d:=Hl r (o+1) (W.setCell ⟨b,o,none⟩ (C .u64 (v:Nat))) (a.set o v) (h.set o v) B7;rw[Lu Y,List.drop_set_of_lt Y,CH]at d;have e:o+1+r.length=o+(v::r).length:=by rw[Ap];omega
  rw[e]at d;exact d
theorem XN{b:Nat}:∀(a:List Value) (o:Nat) (W:World),W.grownBy (W.setCells b o a) (some b)
 |[],_,W=>Ya W _
 |v::r,o,W=>Ju (JD W b o v) (XN r (o+1) _)
theorem Hm(ty:TypeId)(g n c:Nat)(a:Ja)(W:World)(h:Bv W g a)(k:n<=a.length):
 ∃W',(Builtin.clear_ #[23] ty #[B (some ⟨g,0,none⟩) n c]).run Tryz.prog W=.ok (.tuple #[]) W'/\Bv W' g (OA n 0++a.drop n)/\W.grownBy W' (some g):=by
 rcases An n with b|b
 . subst b;refine⟨W,?_,?_,Ya W _⟩
   . simp[Builtin.clear_,run_underlying underlying23]
   grind
 . have d:=Lib.run_clear_slice (P:=Tryz.prog) W 23 94 ty (C .u64 0) underlying23 (λw=>by kernel_rfl) J J g 0 n c b
    (λj i=>by rw[Cc,h.cell Y];rfl) λj _=>h.frozen _
   have e:(OA n (Value.int .u64 0))=cellsOf .u64 (OA n 0):=by simp[cellsOf]
   rw[e]at d;have f:=Hl (OA n 0) 0 W a h B7;grind[XN]
theorem F3(B:Nat):∀(D:Ja) (j d:Nat),j<D.length->val B (D.set j d)+B^j*D[j]?.getD 0=val B D+B^j*d
 |[],_,_,h=>by cases h
 |x::D,0,d,_=>by simp[val];omega
 |x::D,j+1,d,h=>by
  have a:=F3 B D j d (by simpa using h);grind[val]
def Hn(B n:Nat):val B (OA n 0)=0:=by
 induction n with
 |zero=>rfl
 |succ n a=>rw[Ch,val,a];simp
def DI(a bs:Ja)(i:Nat)(D:Ja):Prop:=
 D.length=a.length+bs.length/\Bs O D/\val O D=val O (a.take i)*val O bs
theorem DI.start(a bs:Ja):DI a bs 0 (OA (a.length+bs.length) 0):=
 ⟨A1,λx b=>by grind[O],by rw[Hn];simp[val]⟩
def Ho{B:Nat}(c:0<B):∀ {D:Ja},val B D=0->∀j:Nat,D[j]?.getD 0=0
 |[],_,j=>by simp
 |d::D,h,0=>by
  rw[JF]at h;show d=0;omega
 |d::D,h,j+1=>by
  rw[JF]at h;have a:B*val B D=0:=Y
  have b:val B D=0:=by
   rcases Nat.mul_eq_zero.1 a with h|h
   . omega
   . exact h
  rw[AY];exact Ho c b j
def Xg{B:Nat}(c:k<=D.length)(h:val B D<B^k):val B (D.drop k)=0:=by
 have e:val B D=val B (D.take k)+B^k*val B (D.drop k):=by
  have b:=val_append B (D.take k) (D.drop k);rw[AC,Af,Cj c]at b;exact b
 rcases An (val B (D.drop k))with a|a
 . exact a
 . have:=Ai (B^k) a;omega
theorem DI.step(h:DI f bs i D)(r:Bs O f)(o:Bs O bs)(v:i<f.length)(w:wd=f[i]?.getD 0)(p:Yo D bs i wd bs.length over q):
 DI f bs (i+1) ((B0 D i bs.length q).set (i+bs.length) over):=by
 obtain⟨u,k,n⟩:=h;obtain⟨q1,q2,q3,y⟩:=p;have m:val O D<O^(i+bs.length):=by
  rw[n,Cm];have b:=JL (r.take i);rw[Af,Cj Y]at b;have c:=JL o;rcases An (val O bs)with j|j
  . rw[j,AU];exact Bq (CT uo) (CT uo)
  . exact Nat.mul_lt_mul'' b c
 have d:=Xg Y m;have l:(B0 D i bs.length q).length=D.length:=JB q1 Y;refine⟨B7,?_,?_⟩
 . intro x a;rcases List.mem_or_eq_of_mem_set a with a|a
   . rw[B0]at a;rcases Ct.1 a with a|a
     . exact(k.take i) x a
     . rcases Ct.1 a with a|a
       . exact q2 x a
       . exact(k.drop _) x a
   . rw[a];exact q3
 . have b:=F3 O (B0 D i bs.length q) (i+bs.length) over (by rw[l];omega);have c:(B0 D i bs.length q)[i+bs.length]?.getD 0=0:=by
    rw[Y7 q1 Y];have:=Ho uo d 0;rw[List.getElem?_drop,AK]at this;exact this
   rw[c,AU,AK]at b;rw[b];have s:val O (B0 D i bs.length q)=val O (D.take i)+O^i*val O q:=by
    rw[B0,val_append,val_append,Af,Cj Y,d];simp
   have t:val O D=val O (D.take i)+O^i*val O ((D.drop i).take bs.length):=by
    have e:=val_append O (D.take i) (D.drop i);rw[AC,Af,Cj Y]at e;have g:=val_append O ((D.drop i).take bs.length) ((D.drop i).drop bs.length);rw[AC,CV,d,AU,AK]at g;rw[e,g]
   grind[Ji]
theorem DI.fin(h:DI f bs f.length D)(c:f=Jb O m)(d:bs=Jb O n):Jl D=Jb O (m*n):=by
 obtain⟨_,a,b⟩:=h;grind[JC,Jc,Je]
theorem Yo.tail(h:Yo (D++f) bs i wd len over q)(e:i+len<=D.length):Yo D bs i wd len over q:=by
 obtain⟨a,b,c,d⟩:=h;refine⟨a,b,c,?_⟩;grind
theorem Hp(a:i+len<=D.length):B0 (D++f) i len q=B0 D i len q++f:=by
 grind[B0]
def Lv(g rl f:Nat)(d:Ja)(a:N8)(c ca:Nat)(b:N8)(lb F m n:Nat)(w:World)
(o:Bv w g d)(bd:Bs O d)(hz:c+lb<=d.length)(aq:c+lb<=f)(bc:f<=9223372036854775807)(az:c+lb<=1099511627776)
(ra:Row .u64 w (B a c ca) (Jb O m))(L:Row .u64 w (B b lb F) (Jb O n))(am:∀p,a=some p->0<c->p.block≠g)(an:∀p,b=some p->0<lb->p.block≠g):
 Calls Tryz.prog 105 #[B (some ⟨g,0,none⟩) rl f,B a c ca,B b lb F] w λe M=>∃u,e=.returned u/\(UN M u (m*n)/\w.grownBy M (some g))/\(u=B none 0 0\/∃l,u=B (some ⟨g,0,none⟩) l f)/\∃N,Bv M g N/\Bs O N/\N.length=d.length:=by
 obtain⟨G,bf,bk,bj,ai⟩:=Jm ra;have z:=(Jm L).1;have xa:=Jf Jc m;have xb:=Jf Jc n;have R:=Z λD (h:DI (Jb O m) (Jb O n) (Jb O m).length D)=>h.fin (m:=m) (n:=n) J J;have Q:=Z L;generalize Jb O m=v at *;generalize Jb O n=r at *;obtain⟨W1,aw,hA1,ad⟩:=Hm 0 g (c+lb) f d w o hz;have x:=Z (DI.start v r);rw[<-G,<-z]at x;have W:Bs O (d.drop (c+lb)):=bd.drop _;have Qn:(d.drop (c+lb)).length=d.length-(c+lb):=Ce;obtain⟨aa,hZ⟩:∃aa,aa=d.length:=⟨_,J⟩;rw[<-hZ]at Qn hz ⊢;generalize d.drop (c+lb)=t at *;obtain⟨P,E,T,V,y⟩:=Dn ai G z am an;clear ai G z ra L hZ o am an;go_enter func105,ntmps105
 go_wp2;go_loopw [19] (λK wr=>∃(i:Nat) (D:Ja),K=C .i64 i/\i<=c/\Hid (DI v r i D)/\Bv wr g (D++t)/\w.grownBy wr (some g))
  (λK _=>c-(intOf K).toNat)
 case atStart=>exact⟨0,_,J,AR _,x.o,hA1,ad⟩
 case round=>
  clear x hA1 ad aw;obtain⟨i,D,rfl,hi,k,o,s⟩:=hrel;have Ql:=k.o.1;rw[<-E.o,<-T.o]at Ql;by_cases ak:i<c
  . obtain⟨ab,ao,rfl,ap,ah⟩:=P.o i ak;have bh:=(BM (w:=w) (s.block ab ap λe=>V.o _ J Y (by cases e;rfl))).trans ah;have hw:=xa.getD uo i;have Qk:=Z λover q (h:Yo D r i (v[i]?.getD 0) r.length over q)=>k.o.step xa xb (by rw[<-E.o];exact ak) J h;have Qo:=Row.grown Q.o s y.o;have A:=k.o.2.1.append W;rw[<-T.o]at Qk;generalize v[i]?.getD 0=wd at *;clear ah;go_wp2_with(go_at_call 97;refine(Fw g i lb _ (D++t) b F r wd _ o A (by rw[AN];omega) Y Qo xb y.o hw).mono ?_;rintro e w5 ⟨over,q,rfl,H,hA5,ay⟩;have X:=JB H.1 (xs:=D++t) (ro:=i) (by rw[AN];omega);have bg:=hA5.cell (j:=i+lb) (by rw[X,AN];omega);have bi:=hA5.frozen (i+lb);have S:=Z H;clear H X)
    have U:=hA5.set (i+lb) over;rw[Hp Y,List.set_append_left _ _ (by rw[JB S.o.1 Y];omega)]at U;exact⟨⟨i+1,(B0 D i lb q).set (i+lb) over,Br,Y,Qk.o over q (S.o.tail Y),U,Ju (Ju s ay) (JD _ _ _ _)⟩,by simp[intOf];omega⟩
  . obtain rfl:i=c:=Y
    have Qc:Row .u64 wr (B (some ⟨g,0,none⟩) (i+lb) f) D:=by
     have h1:=o.row 0 (i+lb) f B7 aq bc az;rwa[Aq,AO Y,Ab Y]at h1
    have Qm:=Z (R.o D (by rw[<-E.o];exact k.o));have A:=k.o.2.1.append W;clear k R P Q V y;go_wp2_with(go_at_call 73;refine(XU _ _ _ D _ Qc).mono ?_;rintro e w5 ⟨u,rfl,⟨I,ae⟩,aj⟩;rw[Qm.o]at I aj;obtain⟨ua,uc,rfl⟩:=UN.form I)
    go_ret;refine⟨_,J,⟨I,Ju s (Yb ae _)⟩,?_,D++t,o.below ae,A,B7⟩;rcases aj with⟨e,_⟩|e
    . exact Ar e
    . exact AL ⟨_,e⟩
theorem DI.fing(h:DI f bs f.length D):Jl D=Jb O (val O f*val O bs):=by
 obtain⟨_,a,b⟩:=h;grind[JC,Jc]
def Lw(g rl m:Nat)(d:Ja)(a:N8)(c ca:Nat)(b:N8)(lb A:Nat)(f k:Ja)(w:World)(xa:Bs O f)(xb:Bs O k)
(o:Bv w g d)(bc:Bs O d)(hz:c+lb<=d.length)(ap:c+lb<=m)(az:m<=9223372036854775807)(ay:c+lb<=1099511627776)
(ra:Row .u64 w (B a c ca) f)(I:Row .u64 w (B b lb A) k)(ak:∀p,a=some p->0<c->p.block≠g)(am:∀p,b=some p->0<lb->p.block≠g):
 Calls Tryz.prog 105 #[B (some ⟨g,0,none⟩) rl m,B a c ca,B b lb A] w λe K=>∃u,e=.returned u/\(UN K u (val O f*val O k)/\w.grownBy K (some g))/\(u=B none 0 0\/∃l,u=B (some ⟨g,0,none⟩) l m)/\∃L,Bv K g L/\Bs O L/\L.length=d.length:=by
 obtain⟨E,bd,bj,bi,ah⟩:=Jm ra;have x:=(Jm I).1;have P:=Z λD (h:DI f k f.length D)=>h.fing;have N:=Z I;obtain⟨W1,aq,hA1,aa⟩:=Hm 0 g (c+lb) m d w o hz;have t:=Z (DI.start f k);rw[<-E,<-x]at t;have U:Bs O (d.drop (c+lb)):=bc.drop _;have Qn:(d.drop (c+lb)).length=d.length-(c+lb):=Ce;obtain⟨X,hZ⟩:∃X,X=d.length:=⟨_,J⟩;rw[<-hZ]at Qn hz ⊢;generalize d.drop (c+lb)=s at *;obtain⟨M,z,R,T,v⟩:=Dn ah E x ak am;clear ah E x ra I hZ o ak am;go_enter func105,ntmps105
 go_wp2;go_loopw [19] (λH wr=>∃(i:Nat) (D:Ja),H=C .i64 i/\i<=c/\Hid (DI f k i D)/\Bv wr g (D++s)/\w.grownBy wr (some g))
  (λH _=>c-(intOf H).toNat)
 case atStart=>exact⟨0,_,J,AR _,t.o,hA1,aa⟩
 case round=>
  clear t hA1 aa aq;obtain⟨i,D,rfl,hi,n,o,r⟩:=hrel;have Ql:=n.o.1;rw[<-z.o,<-R.o]at Ql;by_cases aj:i<c
  . obtain⟨ab,ao,rfl,an,ae⟩:=M.o i aj;have bg:=(BM (w:=w) (r.block ab an λe=>T.o _ J Y (by cases e;rfl))).trans ae;have hw:=xa.getD uo i;have W:=Z λover q (h:Yo D k i (f[i]?.getD 0) k.length over q)=>n.o.step xa xb (by rw[<-z.o];exact aj) J h;have Qo:=Row.grown N.o r v.o;have y:=n.o.2.1.append U;rw[<-R.o]at W;generalize f[i]?.getD 0=wd at *;clear ae;go_wp2_with(go_at_call 97;refine(Fw g i lb _ (D++s) b A k wd _ o y (by rw[AN];omega) Y Qo xb v.o hw).mono ?_;rintro e w5 ⟨over,q,rfl,F,hA5,aw⟩;have V:=JB F.1 (xs:=D++s) (ro:=i) (by rw[AN];omega);have bf:=hA5.cell (j:=i+lb) (by rw[V,AN];omega);have bh:=hA5.frozen (i+lb);have Q:=Z F;clear F V)
    have S:=hA5.set (i+lb) over;rw[Hp Y,List.set_append_left _ _ (by rw[JB Q.o.1 Y];omega)]at S;exact⟨⟨i+1,(B0 D i lb q).set (i+lb) over,Br,Y,W.o over q (Q.o.tail Y),S,Ju (Ju r aw) (JD _ _ _ _)⟩,by simp[intOf];omega⟩
  . obtain rfl:i=c:=Y
    have Qc:Row .u64 wr (B (some ⟨g,0,none⟩) (i+lb) m) D:=by
     have h1:=o.row 0 (i+lb) m B7 ap az ay;rwa[Aq,AO Y,Ab Y]at h1
    have Qm:=Z (P.o D (by rw[<-z.o];exact n.o));have y:=n.o.2.1.append U;clear n P M N T v;go_wp2_with(go_at_call 73;refine(XU _ _ _ D _ Qc).mono ?_;rintro e w5 ⟨u,rfl,⟨G,ad⟩,ai⟩;rw[Qm.o]at G ai;obtain⟨ua,uc,rfl⟩:=UN.form G)
    go_ret;refine⟨_,J,⟨G,Ju r (Yb ad _)⟩,?_,D++s,o.below ad,y,B7⟩;rcases ai with⟨e,_⟩|e
    . exact Ar e
    . exact AL ⟨_,e⟩
def Xx:O=2^64:=by unfold O;rfl
def Dg(xs bs:Ja)(ro wd i over c:Nat)(q:Ja):Prop:=
 q.length=i/\Bs O q/\over<O/\c<=1/\val O q+val O (bs.take i)*wd=val O ((xs.drop ro).take i)+O^i*(over+c)
def Dg.start(xs bs:Ja)(ro wd:Nat):Dg xs bs ro wd 0 0 0 []:=⟨J,Bs.nil _,by unfold O;omega,Y,by simp[val]⟩
theorem Dg.step(h:Dg xs bs ro wd i over c q)(d a c':Nat)(f:d<O)(g:a<O)(e:c'<=1)(n:d+bs[i]?.getD 0*wd+over+c=xs[ro+i]?.getD 0+O*(a+c')):Dg xs bs ro wd (i+1) a c' (q++[d]):=by
 obtain⟨j,b,k,l,m⟩:=h;refine⟨by simp;omega,b.append (Bs.cons f (Bs.nil _)),g,e,?_⟩;grind[JP,Ji]
theorem Lx{y r:Nat}(a:x<O)(b:y<O)(f:r<O)(e:over<O)(d:c<=1):
 Yu x y+J4 (JO x y) over 0<O/\XK r (JT (JO x y) over 0) c<O/\XC r (JT (JO x y) over 0) c<=1/\JT (JO x y) over 0<O/\
 XK r (JT (JO x y) over 0) c+x*y+over+c=r+O*(Yu x y+J4 (JO x y) over 0+XC r (JT (JO x y) over 0) c):=by
 have hp:=Hb a b;grind[Yu,JO,J4,JT,XK,XC,O]
theorem Dg.last(h:Dg xs bs ro wd n over c q)(k:bs.length=n)(b:d<O)(j:d+over+c=xs[ro+n]?.getD 0+O*c'):
 (q++[d]).length=n+1/\Bs O (q++[d])/\val O (q++[d])+val O bs*wd=val O ((xs.drop ro).take (n+1))+O^(n+1)*c':=by
 obtain⟨e,a,f,g,i⟩:=h;refine⟨by simp;omega,a.append (Bs.cons b (Bs.nil _)),?_⟩;grind[JP,Ji]
def C9(x s:Nat):Nat:=x*2^s%O
def C7(x s:Nat):Nat:=x/2^s
theorem Xm(hs:s<=64):2^s*2^(64-s)=O:=by rw[<-Cm,show s+(64-s)=64 from by omega];rfl
theorem EM(hs:s<=64):C9 x s=x%2^(64-s)*2^s:=by
 grind[C9,Xm,Nat.mul_mod_mul_right]
theorem Ly(hs:s<=63)(e:x<O)(d:c<2^s):c ||| C9 x s=c+C9 x s/\c+C9 x s<O/\C7 x (64-s)<2^s/\c+C9 x s+O*C7 x (64-s)=c+x*2^s:=by
 rw[EM Y];have hp:=Xm (s:=s) Y;have g:=Ay x (2^(64-s));have a:=At x (AG (64-s));unfold C7;have b:c ||| x%2^(64-s)*2^s=c+x%2^(64-s)*2^s:=by
  rw[Nat.or_comm,Am,<-Cq d,CK]
 refine⟨b,?_,?_,?_⟩
 . have f:(x%2^(64-s)+1)*2^s<=2^(64-s)*2^s:=Ae _ a;grind
 . rw[Ah (AG _),hp];exact e
 grind
def Dp(a:Ja)(s i:Nat)(q:Ja)(c:Nat):Prop:=
 q.length=i/\Bs O q/\c<2^s/\val O q+O^i*c=val O (a.take i)*2^s
def Dp.start(a:Ja)(s:Nat):Dp a s 0 [] 0:=⟨J,Bs.nil _,AG s,by simp[val]⟩
theorem Dp.step(h:Dp f s i q c)(e:d<O)(b:c'<2^s)(l:d+O*c'=c+f[i]?.getD 0*2^s):Dp f s (i+1) (q++[d]) c':=by
 obtain⟨g,a,j,k⟩:=h;refine⟨by simp;omega,a.append (Bs.cons e (Bs.nil _)),b,?_⟩;grind[JP,Ji]
theorem Lz{P:Nat}(hs:s<=63)(f:x<O):
 C9 (P%2^s) (64-s) ||| C7 x s=C9 (P%2^s) (64-s)+C7 x s/\C9 (P%2^s) (64-s)+C7 x s<O/\C9 x (64-s)=C9 ((x+O*P)%2^s) (64-s)/\
 (x+O*P)/2^s=C9 (P%2^s) (64-s)+C7 x s+O*(P/2^s):=by
 have hp:=Xm (s:=s) Y;rw[EM Y,EM Y,EM Y,show 64-(64-s)=s from by omega,Nat.mod_mod];have i:C7 x s<2^(64-s):=by
  unfold C7;rw[Ah (AG _),Am,hp];exact f
 have c:=At P (AG s);have d:=Ay P (2^s);refine⟨?_,?_,?_,?_⟩
 . grind[Am,Cq]
 . have g:(P%2^s+1)*2^(64-s)<=2^s*2^(64-s):=Ae _ c;grind
 . grind[A0,A6,Nat.mod_mod]
 . unfold C7;have e:x+O*P=x+2^s*(P%2^s*2^(64-s)+O*(P/2^s)):=by
    rw[<-hp];generalize P/2^s=a at *;generalize P%2^s=b at *;generalize 2^(64-s)=E at *;generalize 2^s=F at *;rw[<-d];grind
   grind[Cl]
theorem L0(B:Nat)(ds:Ja)(k:Nat)(h:k<ds.length):val B (ds.drop k)=ds[k]?.getD 0+B*val B (ds.drop (k+1)):=by
 grind[Az,JF]
def YV(a V n K k:Nat)(D Q:Ja):Prop:=
 D.length=K+n/\Bs O D/\Q.length=K/\Bs O Q/\val O D<V*O^k/\a=val O D+V*val O Q/\∀j,j<k->Q[j]?.getD 0=0
theorem YV.win(h:YV g V n K (k+1) D Q)(r:k<K)(q:V<O^n):
 val O ((D.drop k).take (n+1))<V*O/\val O D=val O (D.take k)+O^k*val O ((D.drop k).take (n+1))/\val O (D.drop (k+(n+1)))=0:=by
 obtain⟨i,j,l,m,f,o,p⟩:=h;have d:val O D<O^(k+(n+1)):=by
  have e:O^(k+(n+1))=O^n*O^(k+1):=by rw[<-Cm];congr 1;omega
  rw[e];exact Ao f (Ae _ Y)
 have c:=Xg Y d;have a:=val_append O (D.take k) (D.drop k);rw[AC,Af,Cj Y]at a;have b:=val_append O ((D.drop k).take (n+1)) ((D.drop k).drop (n+1));rw[AC,CV,c,AU,AK]at b;rw[b]at a;refine⟨?_,a,c⟩;rcases As (val O ((D.drop k).take (n+1))) (V*O)with h|h
 . exact h
 . exfalso
   have:=Ai (O^k) h;have e:O^k*(V*O)=V*O^(k+1):=by rw[AV];grind
   omega
theorem YV.step(h:YV g V n K (k+1) D Q)(r:k<K)(p:V<O^n)(t:q.length=n+1)(s:Bs O q)
(u:val O q=val O ((D.drop k).take (n+1))%V)(c:0<V):
 YV g V n K k (B0 D k (n+1) q) (Q.set k (val O ((D.drop k).take (n+1))/V)):=by
 obtain⟨v,I,w⟩:=h.win r p;obtain⟨l,b,y,m,z,A,o⟩:=h;generalize E:val O ((D.drop k).take (n+1))=W at *;have F:=Ay W V;have e:=At W c;have d:W/V<O:=by rw[Ah c,Am];exact v
 have f:val O (B0 D k (n+1) q)=val O (D.take k)+O^k*val O q:=by
  rw[B0,val_append,val_append,Af,Cj Y,w];simp
 have i:=F3 O Q k (W/V) Y;rw[o k Y,AU,AK]at i;have H:val O (D.take k)<O^k:=by
  have:=JL (b.take k);rwa[Af,Cj Y]at this
 refine⟨by rw[JB t Y];exact l,?_,B7,?_,?_,?_,?_⟩
 . intro x a;rw[B0]at a;rcases Ct.1 a with a|a
   . exact(b.take k) x a
   . rcases Ct.1 a with a|a
     . exact s x a
     . exact(b.drop _) x a
 . intro x a;rcases List.mem_or_eq_of_mem_set a with a|a
   . exact m x a
   . rw[a];exact d
 . rw[f,u];have:=Ai (O^k) (show W%V+1<=V from e);grind
 . grind
 . intro j G;grind
theorem YV.start(b:D.length=K+n)(c:Bs O D)(a:val O D=g)(d:g<V*O^K):YV g V n K K D (OA K 0):=
 ⟨b,c,A1,λx e=>by grind[O],by rw[a];exact d,by rw[Hn,AU,a,AK],λj _=>by
  grind⟩
theorem YV.fin{b:Nat}(h:YV g V n K 0 D Q)(k:g=m*2^s)(l:V=b*2^s):Jl Q=Jb O (m/b)/\val O D=m%b*2^s:=by
 obtain⟨a,c,d,e,f,i,j⟩:=h;grind[Cl,AE,A6,AZ,Nat.mul_div_mul_right,Nat.mul_mod_mul_right,JC,Jc]
def L1(f ro len cap:Nat)(xs:Ja)(a:N8)(E:Nat)(bs:Ja)(wd:Nat)(w:World)
(V:Bv w f xs)(K:Bs O xs)(ak:ro+(len+1)<=xs.length)(ah:len+1<=cap)(F:Row .u64 w (B a len E) bs)(X:Bs O bs)(G:∀p,a=some p->0<len->p.block≠f)(I:wd<O):
 Calls Tryz.prog 140 #[B (some ⟨f,ro,none⟩) (len+1) cap,B a len E,C .u64 (wd:Nat)] w λe A=>
  ∃c q,e=.returned (C .u64 (c:Nat))/\(c<=1/\q.length=len+1/\Bs O q/\val O q+val O bs*wd=val O ((xs.drop ro).take (len+1))+O^(len+1)*c)/\Bv A f (B0 xs ro (len+1) q)/\w.grownBy A (some f):=by
 obtain⟨hl,ai,ae,aj,l⟩:=Jm F;obtain⟨N,M,P⟩:=C6 hl l G;clear l hl G F;go_enter func140,ntmps140
 go_wp2;go_loopw [7,8,16] (λov U y wr=>∃(i over c:Nat) (q:Ja),y=C .i64 i/\ov=C .u64 (over:Nat)/\U=C .u64 (c:Nat)/\i<=len/\over<O/\c<=1/\Hid (Dg xs bs ro wd i over c q)/\Bv wr f (B0 xs ro i q)/\w.grownBy wr (some f))
  (λ_ _ y _=>len-(intOf y).toNat)
 case atStart=>exact⟨0,0,0,[],J,J,J,AR _,by unfold O;omega,Y,Dg.start _ _ _ _,by rw[mid_zero];exact V,Ya _ _⟩
 case round=>
  obtain⟨i,over,c,q,rfl,rfl,rfl,hi,H,n,m,j,v⟩:=hrel;by_cases aa:i<len
  . obtain⟨b,am,rfl,W,l⟩:=M.o i aa;have S:=P.o _ J Y;have g:=m.o.1;have ad:=(BM (w:=w) (v.block b W λe=>S (by cases e;rfl))).trans l;have Q:wr.cell? ⟨f,ro+i,none⟩=some (C .u64 (xs[ro+i]?.getD 0:Nat)):=by rw[<-Y7 g Y];exact j.cell (by rw[JB g Y];omega)
    have R:=j.frozen (ro+i);have D:=X.getD uo i;have u:=K.getD uo (ro+i);obtain⟨o,z,s,s4,L⟩:=Lx D I u H n;have k:=Z (m.o.step _ _ _ z o s L);have t:=Z (show ∀d,(B0 xs ro i q).set (ro+i) d=B0 xs ro (i+1) (q++[d])from λd=>Xw g Y d);clear l g L;generalize bs[i]?.getD 0=x at *;generalize xs[ro+i]?.getD 0=r at *;have a1:=Ei (JO x wd) over;have T:=Ej r (JT (JO x wd) over 0) c n;unfold O at o;go_wp2_with(first
     |(go_at_call 119;refine(Y9 _ _ D I _).mono ?_;rintro e A ⟨rfl,rfl⟩))
    exact⟨⟨i+1,Yu x wd+J4 (JO x wd) over 0,XC r (JT (JO x wd) over 0) c,q++[XK r (JT (JO x wd) over 0) c],Br,Br,J,Y,k.o.2.2.1,k.o.2.2.2.1,k,by rw[<-t.o];exact j.set _ _,Ju v (JD _ _ _ _)⟩,by simp[intOf];omega⟩
  . obtain rfl:i=len:=Y
    have g:=m.o.1;have Q:wr.cell? ⟨f,ro+i,none⟩=some (C .u64 (xs[ro+i]?.getD 0:Nat)):=by rw[<-Y7 g Y];exact j.cell (by rw[JB g Y];omega)
    have R:=j.frozen (ro+i);have u:=K.getD uo (ro+i);obtain⟨o,z,s⟩:=Fp u H n;have k:=Z (m.o.last N.o.symm o s);have t:=Z (show ∀d,(B0 xs ro i q).set (ro+i) d=B0 xs ro (i+1) (q++[d])from λd=>Xw g Y d);clear g s;generalize xs[ro+i]?.getD 0=r at *;have T:=Ej r over c n;go_wp2;go_ret;exact⟨XC r over c,_,J,⟨z,k.o⟩,by rw[<-t.o];exact j.set _ _,Ju v (JD _ _ _ _)⟩
