import Derived.Test.YtcahodpphikgnaaGreatDoorU09
import Derived.Test.YtcahodpphikgnaaGreatDoorU08
set_option linter.all false
open Go.Value renaming slice->B,int->C
set_option maxRecDepth 99999
set_option maxHeartbeats 0
namespace Go.Proofs.YtcahodpphikgnaaGreatDoor
open List renaming replicate->MF
open Proofs.Tryz
open Go.RowKit Go.Shelf
variable{D Q bs f q xs:Ja}{K V c c' d g i k len m n over ro s wd x:Nat}
theorem KF{o v:Nat}(h:o<f.length):(f.set o v).take (o+1)=f.take o++[v]:=by
 grind[At,List.take_set,Af]
def Ft{b:Nat}:∀(c:Ja) (o:Nat) (W:World) (a:Ja),Bs W b a->o+c.length<=a.length->Bs (W.setCells b o (cellsOf .u64 c)) b (a.take o++(c++a.drop (o+c.length)))
 |[],o,W,a,h,_=>by
  have e:a.take o++([]++a.drop (o+([]:Ja).length))=a:=Bq
  rw[e];exact h
 |v::r,o,W,a,h,hl=>by
  rw[Ao]at hl;have d:=Ft r (o+1) (W.setCell ⟨b,o,none⟩ (C .u64 (v:Nat))) (a.set o v) (h.set o v) B5;rw[KF Y,List.drop_set_of_lt Y,CE]at d;have e:o+1+r.length=o+(v::r).length:=by rw[Ao];omega
  rw[e]at d;exact d
theorem Xz{b:Nat}:∀(a:List Value) (o:Nat) (W:World),W.grownBy (W.setCells b o a) (some b)
 |[],_,W=>J7 W _
 |v::r,o,W=>Jp (JB W b o v) (Xz r (o+1) _)
theorem Fu(ty:TypeId)(g n c:Nat)(a:Ja)(W:World)(h:Bs W g a)(k:n<=a.length):
 ∃W',(Builtin.clear_ #[23] ty #[B (some ⟨g,0,none⟩) n c]).run Tryz.prog W=.ok (.tuple #[]) W'/\Bs W' g (MF n 0++a.drop n)/\W.grownBy W' (some g):=by
 rcases Am n with b|b
 . subst b;refine⟨W,?_,?_,J7 W _⟩
   . simp[Builtin.clear_,run_underlying underlying23]
   grind
 . have d:=Lib.run_clear_slice (P:=Tryz.prog) W 23 94 ty (C .u64 0) underlying23 (λw=>by kernel_rfl) J J g 0 n c b
    (λj i=>by rw[A8,h.cell Y];rfl) λj _=>h.frozen _
   have e:(MF n (Value.int .u64 0))=cellsOf .u64 (MF n 0):=by simp[cellsOf]
   rw[e]at d;have f:=Ft (MF n 0) 0 W a h B5;grind[Xz]
theorem Eh(B:Nat):∀(D:Ja) (j d:Nat),j<D.length->val B (D.set j d)+B^j*D[j]?.getD 0=val B D+B^j*d
 |[],_,_,h=>by cases h
 |x::D,0,d,_=>by simp[val];omega
 |x::D,j+1,d,h=>by
  have a:=Eh B D j d (by simpa using h);grind[val]
def Fv(B n:Nat):val B (MF n 0)=0:=by
 induction n with
 |zero=>rfl
 |succ n a=>rw[Ce,val,a];simp
def X5(a bs:Ja)(i:Nat)(D:Ja):Prop:=
 D.length=a.length+bs.length/\Br O D/\val O D=val O (a.take i)*val O bs
theorem X5.start(a bs:Ja):X5 a bs 0 (MF (a.length+bs.length) 0):=
 ⟨A0,λx b=>by grind[O],by rw[Fv];simp[val]⟩
def Fw{B:Nat}(c:0<B):∀ {D:Ja},val B D=0->∀j:Nat,D[j]?.getD 0=0
 |[],_,j=>by simp
 |d::D,h,0=>by
  rw[JC]at h;show d=0;omega
 |d::D,h,j+1=>by
  rw[JC]at h;have a:B*val B D=0:=Y
  have b:val B D=0:=by
   rcases Nat.mul_eq_zero.1 a with h|h
   . omega
   . exact h
  rw[Ca];exact Fw c b j
def Y5{B:Nat}(c:k<=D.length)(h:val B D<B^k):val B (D.drop k)=0:=by
 have e:val B D=val B (D.take k)+B^k*val B (D.drop k):=by
  have b:=val_append B (D.take k) (D.drop k);rw[AA,Af,Ch c]at b;exact b
 rcases Am (val B (D.drop k))with a|a
 . exact a
 . have:=Ai (B^k) a;omega
theorem X5.step(h:X5 f bs i D)(r:Br O f)(o:Br O bs)(v:i<f.length)(w:wd=f[i]?.getD 0)(p:Yg D bs i wd bs.length over q):
 X5 f bs (i+1) ((Bw D i bs.length q).set (i+bs.length) over):=by
 obtain⟨u,k,n⟩:=h;obtain⟨q1,q2,q3,y⟩:=p;have m:val O D<O^(i+bs.length):=by
  rw[n,Cj];have b:=JI (r.take i);rw[Af,Ch Y]at b;have c:=JI o;rcases Am (val O bs)with j|j
  . rw[j,AQ];exact Bp (CO uo) (CO uo)
  . exact Nat.mul_lt_mul'' b c
 have d:=Y5 Y m;have l:(Bw D i bs.length q).length=D.length:=Jz q1 Y;refine⟨B5,?_,?_⟩
 . intro x a;rcases List.mem_or_eq_of_mem_set a with a|a
   . rw[Bw]at a;rcases Cs.1 a with a|a
     . exact(k.take i) x a
     . rcases Cs.1 a with a|a
       . exact q2 x a
       . exact(k.drop _) x a
   . rw[a];exact q3
 . have b:=Eh O (Bw D i bs.length q) (i+bs.length) over (by rw[l];omega);have c:(Bw D i bs.length q)[i+bs.length]?.getD 0=0:=by
    rw[YW q1 Y];have:=Fw uo d 0;rw[List.getElem?_drop,AJ]at this;exact this
   rw[c,AQ,AJ]at b;rw[b];have s:val O (Bw D i bs.length q)=val O (D.take i)+O^i*val O q:=by
    rw[Bw,val_append,val_append,Af,Ch Y,d];simp
   have t:val O D=val O (D.take i)+O^i*val O ((D.drop i).take bs.length):=by
    have e:=val_append O (D.take i) (D.drop i);rw[AA,Af,Ch Y]at e;have g:=val_append O ((D.drop i).take bs.length) ((D.drop i).drop bs.length);rw[AA,CQ,d,AQ,AJ]at g;rw[e,g]
   grind[Jh]
theorem X5.fin(h:X5 f bs f.length D)(c:f=Jb O m)(d:bs=Jb O n):Ji D=Jb O (m*n):=by
 obtain⟨_,a,b⟩:=h;grind[JA,Jc,Je]
theorem Yg.tail(h:Yg (D++f) bs i wd len over q)(e:i+len<=D.length):Yg D bs i wd len over q:=by
 obtain⟨a,b,c,d⟩:=h;refine⟨a,b,c,?_⟩;grind
theorem Fx(a:i+len<=D.length):Bw (D++f) i len q=Bw D i len q++f:=by
 grind[Bw]
def KG(g rl f:Nat)(d:Ja)(a:MD)(c ca:Nat)(b:MD)(lb F m n:Nat)(w:World)
(o:Bs w g d)(bc:Br O d)(hz:c+lb<=d.length)(ap:c+lb<=f)(az:f<=9223372036854775807)(ay:c+lb<=1099511627776)
(ra:Row .u64 w (B a c ca) (Jb O m))(L:Row .u64 w (B b lb F) (Jb O n))(ak:∀p,a=some p->0<c->p.block≠g)(am:∀p,b=some p->0<lb->p.block≠g):
 Calls Tryz.prog 105 #[B (some ⟨g,0,none⟩) rl f,B a c ca,B b lb F] w λe M=>∃u,e=.returned u/\(UN M u (m*n)/\w.grownBy M (some g))/\(u=B none 0 0\/∃l,u=B (some ⟨g,0,none⟩) l f)/\∃N,Bs M g N/\Br O N/\N.length=d.length:=by
 obtain⟨G,bd,bj,bi,ah⟩:=Jj ra;have z:=(Jj L).1;have xa:=Jf Jc m;have xb:=Jf Jc n;have R:=Z λD (h:X5 (Jb O m) (Jb O n) (Jb O m).length D)=>h.fin (m:=m) (n:=n) J J;have Q:=Z L;generalize Jb O m=v at *;generalize Jb O n=r at *;obtain⟨W1,aq,hA1,ad⟩:=Fu 0 g (c+lb) f d w o hz;have x:=Z (X5.start v r);rw[<-G,<-z]at x;have W:Br O (d.drop (c+lb)):=bc.drop _;have Qn:(d.drop (c+lb)).length=d.length-(c+lb):=Cb;obtain⟨aa,hZ⟩:∃aa,aa=d.length:=⟨_,J⟩;rw[<-hZ]at Qn hz ⊢;generalize d.drop (c+lb)=t at *;obtain⟨P,E,T,V,y⟩:=Du ah G z ak am;clear ah G z ra L hZ o ak am;go_enter func105,ntmps105
 go_wp2;go_loopw [19] (λK wr=>∃(i:Nat) (D:Ja),K=C .i64 i/\i<=c/\Hid (X5 v r i D)/\Bs wr g (D++t)/\w.grownBy wr (some g))
  (λK _=>c-(intOf K).toNat)
 case atStart=>exact⟨0,_,J,AY _,x.o,hA1,ad⟩
 case round=>
  clear x hA1 ad aq;obtain⟨i,D,rfl,hi,k,o,s⟩:=hrel;have Ql:=k.o.1;rw[<-E.o,<-T.o]at Ql;by_cases aj:i<c
  . obtain⟨ab,ao,rfl,an,ag⟩:=P.o i aj;have bg:=(BM (w:=w) (s.block ab an λe=>V.o _ J Y (by cases e;rfl))).trans ag;have hw:=xa.getD uo i;have Qk:=Z λover q (h:Yg D r i (v[i]?.getD 0) r.length over q)=>k.o.step xa xb (by rw[<-E.o];exact aj) J h;have Qo:=Row.grown Q.o s y.o;have A:=k.o.2.1.append W;rw[<-T.o]at Qk;generalize v[i]?.getD 0=wd at *;clear ag;go_wp2_with(go_at_call 97;refine(X3 g i lb _ (D++t) b F r wd _ o A (by rw[AM];omega) Y Qo xb y.o hw).mono ?_;rintro e w5 ⟨over,q,rfl,H,hA5,aw⟩;have X:=Jz H.1 (xs:=D++t) (ro:=i) (by rw[AM];omega);have bf:=hA5.cell (j:=i+lb) (by rw[X,AM];omega);have bh:=hA5.frozen (i+lb);have S:=Z H;clear H X)
    have U:=hA5.set (i+lb) over;rw[Fx Y,List.set_append_left _ _ (by rw[Jz S.o.1 Y];omega)]at U;exact⟨⟨i+1,(Bw D i lb q).set (i+lb) over,Bq,Y,Qk.o over q (S.o.tail Y),U,Jp (Jp s aw) (JB _ _ _ _)⟩,by simp[intOf];omega⟩
  . obtain rfl:i=c:=Y
    have Qc:Row .u64 wr (B (some ⟨g,0,none⟩) (i+lb) f) D:=by
     have h1:=o.row 0 (i+lb) f B5 ap az ay;rwa[Ap,AN Y,Ab Y]at h1
    have Qm:=Z (R.o D (by rw[<-E.o];exact k.o));have A:=k.o.2.1.append W;clear k R P Q V y;go_wp2_with(go_at_call 73;refine(XK _ _ _ D _ Qc).mono ?_;rintro e w5 ⟨u,rfl,⟨I,ae⟩,ai⟩;rw[Qm.o]at I ai;obtain⟨ua,uc,rfl⟩:=UN.form I)
    go_ret;refine⟨_,J,⟨I,Jp s (J8 ae _)⟩,?_,D++t,o.below ae,A,B5⟩;rcases ai with⟨e,_⟩|e
    . exact Aq e
    . exact AK ⟨_,e⟩
theorem X5.fing(h:X5 f bs f.length D):Ji D=Jb O (val O f*val O bs):=by
 obtain⟨_,a,b⟩:=h;grind[JA,Jc]
def KH(g rl m:Nat)(d:Ja)(a:MD)(c ca:Nat)(b:MD)(lb A:Nat)(f k:Ja)(w:World)(xa:Br O f)(xb:Br O k)
(o:Bs w g d)(az:Br O d)(hz:c+lb<=d.length)(an:c+lb<=m)(ay:m<=9223372036854775807)(aw:c+lb<=1099511627776)
(ra:Row .u64 w (B a c ca) f)(I:Row .u64 w (B b lb A) k)(aj:∀p,a=some p->0<c->p.block≠g)(ak:∀p,b=some p->0<lb->p.block≠g):
 Calls Tryz.prog 105 #[B (some ⟨g,0,none⟩) rl m,B a c ca,B b lb A] w λe K=>∃u,e=.returned u/\(UN K u (val O f*val O k)/\w.grownBy K (some g))/\(u=B none 0 0\/∃l,u=B (some ⟨g,0,none⟩) l m)/\∃L,Bs K g L/\Br O L/\L.length=d.length:=by
 obtain⟨E,bc,bi,bh,ag⟩:=Jj ra;have x:=(Jj I).1;have P:=Z λD (h:X5 f k f.length D)=>h.fing;have N:=Z I;obtain⟨W1,ap,hA1,aa⟩:=Fu 0 g (c+lb) m d w o hz;have t:=Z (X5.start f k);rw[<-E,<-x]at t;have U:Br O (d.drop (c+lb)):=az.drop _;have Qn:(d.drop (c+lb)).length=d.length-(c+lb):=Cb;obtain⟨X,hZ⟩:∃X,X=d.length:=⟨_,J⟩;rw[<-hZ]at Qn hz ⊢;generalize d.drop (c+lb)=s at *;obtain⟨M,z,R,T,v⟩:=Du ag E x aj ak;clear ag E x ra I hZ o aj ak;go_enter func105,ntmps105
 go_wp2;go_loopw [19] (λH wr=>∃(i:Nat) (D:Ja),H=C .i64 i/\i<=c/\Hid (X5 f k i D)/\Bs wr g (D++s)/\w.grownBy wr (some g))
  (λH _=>c-(intOf H).toNat)
 case atStart=>exact⟨0,_,J,AY _,t.o,hA1,aa⟩
 case round=>
  clear t hA1 aa ap;obtain⟨i,D,rfl,hi,n,o,r⟩:=hrel;have Ql:=n.o.1;rw[<-z.o,<-R.o]at Ql;by_cases ai:i<c
  . obtain⟨ab,ao,rfl,am,ae⟩:=M.o i ai;have bf:=(BM (w:=w) (r.block ab am λe=>T.o _ J Y (by cases e;rfl))).trans ae;have hw:=xa.getD uo i;have W:=Z λover q (h:Yg D k i (f[i]?.getD 0) k.length over q)=>n.o.step xa xb (by rw[<-z.o];exact ai) J h;have Qo:=Row.grown N.o r v.o;have y:=n.o.2.1.append U;rw[<-R.o]at W;generalize f[i]?.getD 0=wd at *;clear ae;go_wp2_with(go_at_call 97;refine(X3 g i lb _ (D++s) b A k wd _ o y (by rw[AM];omega) Y Qo xb v.o hw).mono ?_;rintro e w5 ⟨over,q,rfl,F,hA5,aq⟩;have V:=Jz F.1 (xs:=D++s) (ro:=i) (by rw[AM];omega);have bd:=hA5.cell (j:=i+lb) (by rw[V,AM];omega);have bg:=hA5.frozen (i+lb);have Q:=Z F;clear F V)
    have S:=hA5.set (i+lb) over;rw[Fx Y,List.set_append_left _ _ (by rw[Jz Q.o.1 Y];omega)]at S;exact⟨⟨i+1,(Bw D i lb q).set (i+lb) over,Bq,Y,W.o over q (Q.o.tail Y),S,Jp (Jp r aq) (JB _ _ _ _)⟩,by simp[intOf];omega⟩
  . obtain rfl:i=c:=Y
    have Qc:Row .u64 wr (B (some ⟨g,0,none⟩) (i+lb) m) D:=by
     have h1:=o.row 0 (i+lb) m B5 an ay aw;rwa[Ap,AN Y,Ab Y]at h1
    have Qm:=Z (P.o D (by rw[<-z.o];exact n.o));have y:=n.o.2.1.append U;clear n P M N T v;go_wp2_with(go_at_call 73;refine(XK _ _ _ D _ Qc).mono ?_;rintro e w5 ⟨u,rfl,⟨G,ad⟩,ah⟩;rw[Qm.o]at G ah;obtain⟨ua,uc,rfl⟩:=UN.form G)
    go_ret;refine⟨_,J,⟨G,Jp r (J8 ad _)⟩,?_,D++s,o.below ad,y,B5⟩;rcases ah with⟨e,_⟩|e
    . exact Aq e
    . exact AK ⟨_,e⟩
def Xj:O=2^64:=by unfold O;rfl
def DJ(xs bs:Ja)(ro wd i over c:Nat)(q:Ja):Prop:=
 q.length=i/\Br O q/\over<O/\c<=1/\val O q+val O (bs.take i)*wd=val O ((xs.drop ro).take i)+O^i*(over+c)
def DJ.start(xs bs:Ja)(ro wd:Nat):DJ xs bs ro wd 0 0 0 []:=⟨J,Br.nil _,by unfold O;omega,Y,by simp[val]⟩
theorem DJ.step(h:DJ xs bs ro wd i over c q)(d a c':Nat)(f:d<O)(g:a<O)(e:c'<=1)(n:d+bs[i]?.getD 0*wd+over+c=xs[ro+i]?.getD 0+O*(a+c')):DJ xs bs ro wd (i+1) a c' (q++[d]):=by
 obtain⟨j,b,k,l,m⟩:=h;refine⟨by simp;omega,b.append (Br.cons f (Br.nil _)),g,e,?_⟩;grind[JN,Jh]
theorem KI{y r:Nat}(a:x<O)(b:y<O)(f:r<O)(e:over<O)(d:c<=1):
 Yl x y+J2 (JL x y) over 0<O/\Xw r (JQ (JL x y) over 0) c<O/\Xo r (JQ (JL x y) over 0) c<=1/\JQ (JL x y) over 0<O/\
 Xw r (JQ (JL x y) over 0) c+x*y+over+c=r+O*(Yl x y+J2 (JL x y) over 0+Xo r (JQ (JL x y) over 0) c):=by
 have hp:=Fj a b;grind[Yl,JL,J2,JQ,Xw,Xo,O]
theorem DJ.last(h:DJ xs bs ro wd n over c q)(k:bs.length=n)(b:d<O)(j:d+over+c=xs[ro+n]?.getD 0+O*c'):
 (q++[d]).length=n+1/\Br O (q++[d])/\val O (q++[d])+val O bs*wd=val O ((xs.drop ro).take (n+1))+O^(n+1)*c':=by
 obtain⟨e,a,f,g,i⟩:=h;refine⟨by simp;omega,a.append (Br.cons b (Br.nil _)),?_⟩;grind[JN,Jh]
def C0(x s:Nat):Nat:=x*2^s%O
def CY(x s:Nat):Nat:=x/2^s
theorem Xb(hs:s<=64):2^s*2^(64-s)=O:=by rw[<-Cj,show s+(64-s)=64 from by omega];rfl
theorem Dc(hs:s<=64):C0 x s=x%2^(64-s)*2^s:=by
 grind[C0,Xb,Nat.mul_mod_mul_right]
theorem KJ(hs:s<=63)(e:x<O)(d:c<2^s):c ||| C0 x s=c+C0 x s/\c+C0 x s<O/\CY x (64-s)<2^s/\c+C0 x s+O*CY x (64-s)=c+x*2^s:=by
 rw[Dc Y];have hp:=Xb (s:=s) Y;have g:=Ax x (2^(64-s));have a:=Ar x (AE (64-s));unfold CY;have b:c ||| x%2^(64-s)*2^s=c+x%2^(64-s)*2^s:=by
  rw[Nat.or_comm,Al,<-Co d,CH]
 refine⟨b,?_,?_,?_⟩
 . have f:(x%2^(64-s)+1)*2^s<=2^(64-s)*2^s:=Ae _ a;grind
 . rw[Ah (AE _),hp];exact e
 grind
def DN(a:Ja)(s i:Nat)(q:Ja)(c:Nat):Prop:=
 q.length=i/\Br O q/\c<2^s/\val O q+O^i*c=val O (a.take i)*2^s
def DN.start(a:Ja)(s:Nat):DN a s 0 [] 0:=⟨J,Br.nil _,AE s,by simp[val]⟩
theorem DN.step(h:DN f s i q c)(e:d<O)(b:c'<2^s)(l:d+O*c'=c+f[i]?.getD 0*2^s):DN f s (i+1) (q++[d]) c':=by
 obtain⟨g,a,j,k⟩:=h;refine⟨by simp;omega,a.append (Br.cons e (Br.nil _)),b,?_⟩;grind[JN,Jh]
theorem KK{P:Nat}(hs:s<=63)(f:x<O):
 C0 (P%2^s) (64-s) ||| CY x s=C0 (P%2^s) (64-s)+CY x s/\C0 (P%2^s) (64-s)+CY x s<O/\C0 x (64-s)=C0 ((x+O*P)%2^s) (64-s)/\
 (x+O*P)/2^s=C0 (P%2^s) (64-s)+CY x s+O*(P/2^s):=by
 have hp:=Xb (s:=s) Y;rw[Dc Y,Dc Y,Dc Y,show 64-(64-s)=s from by omega,Nat.mod_mod];have i:CY x s<2^(64-s):=by
  unfold CY;rw[Ah (AE _),Al,hp];exact f
 have c:=Ar P (AE s);have d:=Ax P (2^s);refine⟨?_,?_,?_,?_⟩
 . grind[Al,Co]
 . have g:(P%2^s+1)*2^(64-s)<=2^s*2^(64-s):=Ae _ c;grind
 . grind[AZ,A4,Nat.mod_mod]
 . unfold CY;have e:x+O*P=x+2^s*(P%2^s*2^(64-s)+O*(P/2^s)):=by
    rw[<-hp];generalize P/2^s=a at *;generalize P%2^s=b at *;generalize 2^(64-s)=E at *;generalize 2^s=F at *;rw[<-d];grind
   grind[Ci]
theorem KL(B:Nat)(ds:Ja)(k:Nat)(h:k<ds.length):val B (ds.drop k)=ds[k]?.getD 0+B*val B (ds.drop (k+1)):=by
 grind[Ay,JC]
def YL(a V n K k:Nat)(D Q:Ja):Prop:=
 D.length=K+n/\Br O D/\Q.length=K/\Br O Q/\val O D<V*O^k/\a=val O D+V*val O Q/\∀j,j<k->Q[j]?.getD 0=0
theorem YL.win(h:YL g V n K (k+1) D Q)(r:k<K)(q:V<O^n):
 val O ((D.drop k).take (n+1))<V*O/\val O D=val O (D.take k)+O^k*val O ((D.drop k).take (n+1))/\val O (D.drop (k+(n+1)))=0:=by
 obtain⟨i,j,l,m,f,o,p⟩:=h;have d:val O D<O^(k+(n+1)):=by
  have e:O^(k+(n+1))=O^n*O^(k+1):=by rw[<-Cj];congr 1;omega
  rw[e];exact An f (Ae _ Y)
 have c:=Y5 Y d;have a:=val_append O (D.take k) (D.drop k);rw[AA,Af,Ch Y]at a;have b:=val_append O ((D.drop k).take (n+1)) ((D.drop k).drop (n+1));rw[AA,CQ,c,AQ,AJ]at b;rw[b]at a;refine⟨?_,a,c⟩;rcases AG (val O ((D.drop k).take (n+1))) (V*O)with h|h
 . exact h
 . exfalso
   have:=Ai (O^k) h;have e:O^k*(V*O)=V*O^(k+1):=by rw[AR];grind
   omega
theorem YL.step(h:YL g V n K (k+1) D Q)(r:k<K)(p:V<O^n)(t:q.length=n+1)(s:Br O q)
(u:val O q=val O ((D.drop k).take (n+1))%V)(c:0<V):
 YL g V n K k (Bw D k (n+1) q) (Q.set k (val O ((D.drop k).take (n+1))/V)):=by
 obtain⟨v,I,w⟩:=h.win r p;obtain⟨l,b,y,m,z,A,o⟩:=h;generalize E:val O ((D.drop k).take (n+1))=W at *;have F:=Ax W V;have e:=Ar W c;have d:W/V<O:=by rw[Ah c,Al];exact v
 have f:val O (Bw D k (n+1) q)=val O (D.take k)+O^k*val O q:=by
  rw[Bw,val_append,val_append,Af,Ch Y,w];simp
 have i:=Eh O Q k (W/V) Y;rw[o k Y,AQ,AJ]at i;have H:val O (D.take k)<O^k:=by
  have:=JI (b.take k);rwa[Af,Ch Y]at this
 refine⟨by rw[Jz t Y];exact l,?_,B5,?_,?_,?_,?_⟩
 . intro x a;rw[Bw]at a;rcases Cs.1 a with a|a
   . exact(b.take k) x a
   . rcases Cs.1 a with a|a
     . exact s x a
     . exact(b.drop _) x a
 . intro x a;rcases List.mem_or_eq_of_mem_set a with a|a
   . exact m x a
   . rw[a];exact d
 . rw[f,u];have:=Ai (O^k) (show W%V+1<=V from e);grind
 . grind
 . intro j G;grind
theorem YL.start(b:D.length=K+n)(c:Br O D)(a:val O D=g)(d:g<V*O^K):YL g V n K K D (MF K 0):=
 ⟨b,c,A0,λx e=>by grind[O],by rw[a];exact d,by rw[Fv,AQ,a,AJ],λj _=>by
  grind⟩
theorem YL.fin{b:Nat}(h:YL g V n K 0 D Q)(k:g=m*2^s)(l:V=b*2^s):Ji Q=Jb O (m/b)/\val O D=m%b*2^s:=by
 obtain⟨a,c,d,e,f,i,j⟩:=h;grind[Ci,AC,A4,AX,Nat.mul_div_mul_right,Nat.mul_mod_mul_right,JA,Jc]
def KM(f ro len cap:Nat)(xs:Ja)(a:MD)(E:Nat)(bs:Ja)(wd:Nat)(w:World)
(V:Bs w f xs)(K:Br O xs)(aj:ro+(len+1)<=xs.length)(ag:len+1<=cap)(F:Row .u64 w (B a len E) bs)(X:Br O bs)(G:∀p,a=some p->0<len->p.block≠f)(I:wd<O):
 Calls Tryz.prog 140 #[B (some ⟨f,ro,none⟩) (len+1) cap,B a len E,C .u64 (wd:Nat)] w λe A=>
  ∃c q,e=.returned (C .u64 (c:Nat))/\(c<=1/\q.length=len+1/\Br O q/\val O q+val O bs*wd=val O ((xs.drop ro).take (len+1))+O^(len+1)*c)/\Bs A f (Bw xs ro (len+1) q)/\w.grownBy A (some f):=by
 obtain⟨hl,ah,ae,ai,l⟩:=Jj F;obtain⟨N,M,P⟩:=C3 hl l G;clear l hl G F;go_enter func140,ntmps140
 go_wp2;go_loopw [7,8,16] (λov U y wr=>∃(i over c:Nat) (q:Ja),y=C .i64 i/\ov=C .u64 (over:Nat)/\U=C .u64 (c:Nat)/\i<=len/\over<O/\c<=1/\Hid (DJ xs bs ro wd i over c q)/\Bs wr f (Bw xs ro i q)/\w.grownBy wr (some f))
  (λ_ _ y _=>len-(intOf y).toNat)
 case atStart=>exact⟨0,0,0,[],J,J,J,AY _,by unfold O;omega,Y,DJ.start _ _ _ _,by rw[mid_zero];exact V,J7 _ _⟩
 case round=>
  obtain⟨i,over,c,q,rfl,rfl,rfl,hi,H,n,m,j,v⟩:=hrel;by_cases aa:i<len
  . obtain⟨b,ak,rfl,W,l⟩:=M.o i aa;have S:=P.o _ J Y;have g:=m.o.1;have ad:=(BM (w:=w) (v.block b W λe=>S (by cases e;rfl))).trans l;have Q:wr.cell? ⟨f,ro+i,none⟩=some (C .u64 (xs[ro+i]?.getD 0:Nat)):=by rw[<-YW g Y];exact j.cell (by rw[Jz g Y];omega)
    have R:=j.frozen (ro+i);have D:=X.getD uo i;have u:=K.getD uo (ro+i);obtain⟨o,z,s,s4,L⟩:=KI D I u H n;have k:=Z (m.o.step _ _ _ z o s L);have t:=Z (show ∀d,(Bw xs ro i q).set (ro+i) d=Bw xs ro (i+1) (q++[d])from λd=>Xi g Y d);clear l g L;generalize bs[i]?.getD 0=x at *;generalize xs[ro+i]?.getD 0=r at *;have a1:=Ds (JL x wd) over;have T:=Dt r (JQ (JL x wd) over 0) c n;unfold O at o;go_wp2_with(first
     |(go_at_call 119;refine(YY _ _ D I _).mono ?_;rintro e A ⟨rfl,rfl⟩))
    exact⟨⟨i+1,Yl x wd+J2 (JL x wd) over 0,Xo r (JQ (JL x wd) over 0) c,q++[Xw r (JQ (JL x wd) over 0) c],Bq,Bq,J,Y,k.o.2.2.1,k.o.2.2.2.1,k,by rw[<-t.o];exact j.set _ _,Jp v (JB _ _ _ _)⟩,by simp[intOf];omega⟩
  . obtain rfl:i=len:=Y
    have g:=m.o.1;have Q:wr.cell? ⟨f,ro+i,none⟩=some (C .u64 (xs[ro+i]?.getD 0:Nat)):=by rw[<-YW g Y];exact j.cell (by rw[Jz g Y];omega)
    have R:=j.frozen (ro+i);have u:=K.getD uo (ro+i);obtain⟨o,z,s⟩:=EY u H n;have k:=Z (m.o.last N.o.symm o s);have t:=Z (show ∀d,(Bw xs ro i q).set (ro+i) d=Bw xs ro (i+1) (q++[d])from λd=>Xi g Y d);clear g s;generalize xs[ro+i]?.getD 0=r at *;have T:=Dt r over c n;go_wp2;go_ret;exact⟨Xo r over c,_,J,⟨z,k.o⟩,by rw[<-t.o];exact j.set _ _,Jp v (JB _ _ _ _)⟩
