import Derived.Test.YtdmmbgahnkbnaaaGreatDoorU10
import Derived.Test.YtdmmbgahnkbnaaaGreatDoorU09
set_option linter.all false
open Go.Value renaming slice->B,int->C
set_option maxRecDepth 99999
set_option maxHeartbeats 0
namespace Go.Proofs.YtdmmbgahnkbnaaaGreatDoor
open Go.RowKit Go.Shelf
variable{D Q bs f q xs:List Nat}{K R0 V c c' d g i k len m n ro s wd x:Nat}
theorem fE{zs:List Nat}{o v:Nat}(h:o<zs.length):(zs.set o v).take (o+1)=zs.take o++[v]:=by
 grind[Ch,List.take_set,Aq]
def TN{b:Nat}:∀(a:List Nat) (o:Nat) (W:World) (zs:List Nat),DP W b zs->o+a.length<=zs.length->DP (W.setCells b o (cellsOf .u64 a)) b (zs.take o++(a++zs.drop (o+a.length)))
 |[],o,W,zs,h,_=>by
  have e:zs.take o++([]++zs.drop (o+([]:List Nat).length))=zs:=DH
  rw[e];exact h
 |v::r,o,W,zs,h,hl=>by
  rw[Ai]at hl;have c:=TN r (o+1) (W.setCell ⟨b,o,none⟩ (C .u64 (v:Nat))) (zs.set o v) (h.set o v) DG;rw[fE O,List.drop_set_of_lt O,Cz]at c;have e:o+1+r.length=o+(v::r).length:=by rw[Ai];omega
  rw[e]at c;exact c
theorem TO{b:Nat}:∀(a:List Value) (o:Nat) (W:World),W.grownBy (W.setCells b o a) (some b)
 |[],_,W=>XR W _
 |v::r,o,W=>Jl (J0 W b o v) (TO r (o+1) _)
theorem TP(ty:TypeId)(g n c:Nat)(zs:List Nat)(W:World)(h:DP W g zs)(hn:n<=zs.length):
 ∃W',(Builtin.clear_ #[37] ty #[B (some ⟨g,0,none⟩) n c]).run Tryz.prog W=.ok (.tuple #[]) W'/\DP W' g (List.replicate n 0++zs.drop n)/\W.grownBy W' (some g):=by
 rcases AY n with a|a
 . subst a;refine⟨W,?_,?_,XR W _⟩
   . simp[Builtin.clear_,run_underlying Tryz.underlying37]
   grind
 . have b:=Lib.run_clear_slice (P:=Tryz.prog) W 37 141 ty (C .u64 0) Tryz.underlying37 (λw=>by kernel_rfl) rfl rfl g 0 n c a
    (λj f=>by rw[AW,h.cell O];rfl) λj _=>h.frozen _
   have e:(List.replicate n (Value.int .u64 0))=cellsOf .u64 (List.replicate n 0):=by simp[cellsOf]
   rw[e]at b;have d:=TN (List.replicate n 0) 0 W zs h DG;grind[TO]
theorem Pe(B:Nat):∀(D:List Nat) (j d:Nat),j<D.length->val B (D.set j d)+B^j*D[j]?.getD 0=val B D+B^j*d
 |[],_,_,h=>by cases h
 |x::D,0,d,_=>by simp[val];omega
 |x::D,j+1,d,h=>by
  have a:=Pe B D j d (by simpa using h);grind[val]
def TQ(B n:Nat):val B (List.replicate n 0)=0:=by
 induction n with
 |zero=>rfl
 |succ n a=>rw[CQ,val,a];simp
def F6(a bs:List Nat)(i:Nat)(D:List Nat):Prop:=
 D.length=a.length+bs.length/\DN Y D/\val Y D=val Y (a.take i)*val Y bs
theorem F6.start(a bs:List Nat):F6 a bs 0 (List.replicate (a.length+bs.length) 0):=
 ⟨AJ,λx b=>by grind[Y],by rw[TQ];simp[val]⟩
def TR{B:Nat}(c:0<B):∀ {D:List Nat},val B D=0->∀j:Nat,D[j]?.getD 0=0
 |[],_,j=>by simp
 |d::D,h,0=>by
  rw[Yr]at h;show d=0;omega
 |d::D,h,j+1=>by
  rw[Yr]at h;have a:B*val B D=0:=O
  have b:val B D=0:=by
   rcases Nat.mul_eq_zero.1 a with h|h
   . omega
   . exact h
  rw[Cf];exact TR c b j
def Pf{B:Nat}(hk:k<=D.length)(h:val B D<B^k):val B (D.drop k)=0:=by
 have e:val B D=val B (D.take k)+B^k*val B (D.drop k):=by
  have b:=val_append B (D.take k) (D.drop k);rw[AP,Aq,CZ hk]at b;exact b
 rcases AY (val B (D.drop k))with a|a
 . exact a
 . have:=Ah (B^k) a;omega
theorem F6.step(h:F6 f bs i D)(r:DN Y f)(p:DN Y bs)(hi:i<f.length)(v:wd=f[i]?.getD 0)(hq:X9 D bs i wd bs.length g q):
 F6 f bs (i+1) ((mid D i bs.length q).set (i+bs.length) g):=by
 obtain⟨u,l,o⟩:=h;obtain⟨q1,q2,q3,w⟩:=hq;have n:val Y D<Y^(i+bs.length):=by
  rw[o,CI];have b:=YR (r.take i);rw[Aq,CZ O]at b;have c:=YR p;rcases AY (val Y bs)with k|k
  . rw[k,CF];exact FI (Cw uo) (Cw uo)
  . exact Nat.mul_lt_mul'' b c
 have d:=Pf O n;have m:(mid D i bs.length q).length=D.length:=J9 q1 O;refine⟨DG,?_,?_⟩
 . intro x a;rcases List.mem_or_eq_of_mem_set a with a|a
   . rw[mid]at a;rcases CE.1 a with a|a
     . exact(l.take i) x a
     . rcases CE.1 a with a|a
       . exact q2 x a
       . exact(l.drop _) x a
   . rw[a];exact q3
 . have b:=Pe Y (mid D i bs.length q) (i+bs.length) g (by rw[m];omega);have c:(mid D i bs.length q)[i+bs.length]?.getD 0=0:=by
    rw[Iv q1 O];have:=TR uo d 0;rw[Fm,Cb]at this;exact this
   rw[c,CF,Cb]at b;rw[b];have s:val Y (mid D i bs.length q)=val Y (D.take i)+Y^i*val Y q:=by
    rw[mid,val_append,val_append,Aq,CZ O,d];simp
   have t:val Y D=val Y (D.take i)+Y^i*val Y ((D.drop i).take bs.length):=by
    have e:=val_append Y (D.take i) (D.drop i);rw[AP,Aq,CZ O]at e;have j:=val_append Y ((D.drop i).take bs.length) ((D.drop i).drop bs.length);rw[AP,Fy,d,CF,Cb]at j;rw[e,j]
   grind[JK]
theorem F6.fin(h:F6 f bs f.length D)(c:f=Jh Y m)(d:bs=Jh Y n):J1 D=Jh Y (m*n):=by
 obtain⟨_,a,b⟩:=h;grind[YJ,Jf,Jy]
theorem X9.tail(h:X9 (D++f) bs i wd len g q)(hi:i+len<=D.length):X9 D bs i wd len g q:=by
 obtain⟨a,b,c,d⟩:=h;refine⟨a,b,c,?_⟩;grind
theorem TS(hi:i+len<=D.length):mid (D++f) i len q=mid D i len q++f:=by
 grind[mid]
def Pg(g rl rc:Nat)(zs:List Nat)(a:Option Addr)(la ca:Nat)(b:Option Addr)(lb cb m n:Nat)(w:World)
(hA:DP w g zs)(bf:DN Y zs)(hz:la+lb<=zs.length)(an:la+lb<=rc)(az:rc<=9223372036854775807)(ay:la+lb<=1099511627776)
(ra:Row .u64 w (B a la ca) (Jh Y m))(f:Row .u64 w (B b lb cb) (Jh Y n))(ai:∀p,a=some p->0<la->p.block≠g)(aj:∀p,b=some p->0<lb->p.block≠g):
 Calls Tryz.prog 179 #[B (some ⟨g,0,none⟩) rl rc,B a la ca,B b lb cb] w λe w'=>∃u,e=.returned u/\(UN w' u (m*n)/\w.grownBy w' (some g))/\(u=B none 0 0\/∃l,u=B (some ⟨g,0,none⟩) l rc)/\∃G,DP w' g G/\DN Y G/\G.length=zs.length:=by
 obtain⟨A,bg,bz,bu,X⟩:=Jz ra;have v:=(Jz f).1;have bi:=(Jz f).2.1;have ce:=(Jz f).2.2.1;have xa:=Jv Jf m;have xb:=Jv Jf n;have K:=Z λD (h:F6 (Jh Y m) (Jh Y n) (Jh Y m).length D)=>h.fin (m:=m) (n:=n) rfl rfl;have I:=Z f;generalize Jh Y m=s at *;generalize Jh Y n=k at *;obtain⟨W1,ap,hA1,U⟩:=TP 0 g (la+lb) rc zs w hA hz;have t:=Z (F6.start s k);rw[<-A,<-v]at t;have P:DN Y (zs.drop (la+lb)):=bf.drop _;have Ql:(zs.drop (la+lb)).length=zs.length-(la+lb):=A3;obtain⟨T,hZ⟩:∃T,T=zs.length:=⟨_,rfl⟩;rw[<-hZ]at Ql hz ⊢;generalize zs.drop (la+lb)=r at *;obtain⟨H,y,N,R,z⟩:=IL X A v ai aj;clear X A v ra f hZ hA ai aj;go_enter Tryz.func179,Tryz.ntmps179
 go_wp2;go_loopw [19] (λF wr=>∃(i:Nat) (D:List Nat),F=C .i64 i/\i<=la/\Hid (F6 s k i D)/\DP wr g (D++r)/\w.grownBy wr (some g))
  (λF _=>la-(intOf F).toNat)
 case atStart=>exact⟨0,_,rfl,At _,t.o,hA1,U⟩
 case round=>
  clear t hA1 U ap;obtain⟨i,D,rfl,hi,c,hA,o⟩:=hrel;have Qn:=c.o.1;rw[<-y.o,<-N.o]at Qn;by_cases ah:i<la
  . obtain⟨ab,ao,rfl,am,W⟩:=H.o i ah;have bm:=(BU (w:=w) (o.block ab am λe=>R.o _ rfl O (by cases e;rfl))).trans W;have hw:=xa.getD uo i;have S:=Z λd q (h:X9 D k i (s[i]?.getD 0) k.length d q)=>c.o.step xa xb (by rw[<-y.o];exact ah) rfl h;have Qm:=Row.grown I.o o z.o;have x:=c.o.2.1.append P;rw[<-N.o]at S;generalize s[i]?.getD 0=wd at *;clear W;go_wp2_with(go_at_call 181;refine(PZ g i lb _ (D++r) b cb k wd _ hA x (by rw[Aw];omega) O Qm xb z.o hw).mono ?_;rintro e w5 ⟨d,q,rfl,hq,hA5,aq⟩;have Q:=J9 hq.1 (xs:=D++r) (ro:=i) (by rw[Aw];omega);have bj:=hA5.cell (j:=i+lb) (by rw[Q,Aw];omega);have bn:=hA5.frozen (i+lb);have L:=Z hq;clear hq Q)
    have M:=hA5.set (i+lb) d;rw[TS O,List.set_append_left _ _ (by rw[J9 L.o.1 O];omega)]at M;exact⟨⟨i+1,(mid D i lb q).set (i+lb) d,DH,O,S.o d q (L.o.tail O),M,Jl (Jl o aq) (J0 _ _ _ _)⟩,by simp[intOf];omega⟩
  . obtain rfl:i=la:=O
    have Qe:Row .u64 wr (B (some ⟨g,0,none⟩) (i+lb) rc) D:=by
     have h1:=hA.row 0 (i+lb) rc DG an az ay;rwa[Ce,AX O,Af O]at h1
    have Qo:=Z (K.o D (by rw[<-y.o];exact c.o));have x:=c.o.2.1.append P;clear c K H I R z;go_wp2_with(go_at_call 95;refine(NC _ _ _ D _ Qe).mono ?_;rintro e w5 ⟨u,rfl,⟨E,V⟩,ae⟩;rw[Qo.o]at E ae;obtain⟨ua,uc,rfl⟩:=UN.form E)
    go_ret;refine⟨_,rfl,⟨E,Jl o (Yv V _)⟩,?_,D++r,hA.below V,x,DG⟩;rcases ae with⟨e,_⟩|e
    . exact Or.inl e
    . exact Or.inr ⟨_,e⟩
theorem F6.fing(h:F6 f bs f.length D):J1 D=Jh Y (val Y f*val Y bs):=by
 obtain⟨_,a,b⟩:=h;grind[YJ,Jf]
def fF(g rl rc:Nat)(zs:List Nat)(a:Option Addr)(la ca:Nat)(b:Option Addr)(lb cb:Nat)(c d:List Nat)(w:World)(xa:DN Y c)(xb:DN Y d)
(hA:DP w g zs)(ay:DN Y zs)(hz:la+lb<=zs.length)(aj:la+lb<=rc)(aq:rc<=9223372036854775807)(ap:la+lb<=1099511627776)
(ra:Row .u64 w (B a la ca) c)(m:Row .u64 w (B b lb cb) d)(ae:∀p,a=some p->0<la->p.block≠g)(ah:∀p,b=some p->0<lb->p.block≠g):
 Calls Tryz.prog 179 #[B (some ⟨g,0,none⟩) rl rc,B a la ca,B b lb cb] w λe w'=>∃u,e=.returned u/\(UN w' u (val Y c*val Y d)/\w.grownBy w' (some g))/\(u=B none 0 0\/∃l,u=B (some ⟨g,0,none⟩) l rc)/\∃E,DP w' g E/\DN Y E/\E.length=zs.length:=by
 obtain⟨y,az,bn,bm,V⟩:=Jz ra;have s:=(Jz m).1;have bf:=(Jz m).2.1;have bu:=(Jz m).2.2.1;have H:=Z λD (h:F6 c d c.length D)=>h.fing;have G:=Z m;obtain⟨W1,am,hA1,S⟩:=TP 0 g (la+lb) rc zs w hA hz;have r:=Z (F6.start c d);rw[<-y,<-s]at r;have M:DN Y (zs.drop (la+lb)):=ay.drop _;have Ql:(zs.drop (la+lb)).length=zs.length-(la+lb):=A3;obtain⟨R,hZ⟩:∃R,R=zs.length:=⟨_,rfl⟩;rw[<-hZ]at Ql hz ⊢;generalize zs.drop (la+lb)=o at *;obtain⟨F,v,L,P,x⟩:=IL V y s ae ah;clear V y s ra m hZ hA ae ah;go_enter Tryz.func179,Tryz.ntmps179
 go_wp2;go_loopw [19] (λA wr=>∃(i:Nat) (D:List Nat),A=C .i64 i/\i<=la/\Hid (F6 c d i D)/\DP wr g (D++o)/\w.grownBy wr (some g))
  (λA _=>la-(intOf A).toNat)
 case atStart=>exact⟨0,_,rfl,At _,r.o,hA1,S⟩
 case round=>
  clear r hA1 S am;obtain⟨i,D,rfl,hi,f,hA,n⟩:=hrel;have Qn:=f.o.1;rw[<-v.o,<-L.o]at Qn;by_cases X:i<la
  . obtain⟨ab,ao,rfl,ai,U⟩:=F.o i X;have bi:=(BU (w:=w) (n.block ab ai λe=>P.o _ rfl O (by cases e;rfl))).trans U;have hw:=xa.getD uo i;have Q:=Z λk q (h:X9 D d i (c[i]?.getD 0) d.length k q)=>f.o.step xa xb (by rw[<-v.o];exact X) rfl h;have Qm:=Row.grown G.o n x.o;have t:=f.o.2.1.append M;rw[<-L.o]at Q;generalize c[i]?.getD 0=wd at *;clear U;go_wp2_with(go_at_call 181;refine(PZ g i lb _ (D++o) b cb d wd _ hA t (by rw[Aw];omega) O Qm xb x.o hw).mono ?_;rintro e w5 ⟨k,q,rfl,hq,hA5,an⟩;have N:=J9 hq.1 (xs:=D++o) (ro:=i) (by rw[Aw];omega);have bg:=hA5.cell (j:=i+lb) (by rw[N,Aw];omega);have bj:=hA5.frozen (i+lb);have I:=Z hq;clear hq N)
    have K:=hA5.set (i+lb) k;rw[TS O,List.set_append_left _ _ (by rw[J9 I.o.1 O];omega)]at K;exact⟨⟨i+1,(mid D i lb q).set (i+lb) k,DH,O,Q.o k q (I.o.tail O),K,Jl (Jl n an) (J0 _ _ _ _)⟩,by simp[intOf];omega⟩
  . obtain rfl:i=la:=O
    have Qe:Row .u64 wr (B (some ⟨g,0,none⟩) (i+lb) rc) D:=by
     have h1:=hA.row 0 (i+lb) rc DG aj aq ap;rwa[Ce,AX O,Af O]at h1
    have Qo:=Z (H.o D (by rw[<-v.o];exact f.o));have t:=f.o.2.1.append M;clear f H F G P x;go_wp2_with(go_at_call 95;refine(NC _ _ _ D _ Qe).mono ?_;rintro e w5 ⟨u,rfl,⟨z,T⟩,W⟩;rw[Qo.o]at z W;obtain⟨ua,uc,rfl⟩:=UN.form z)
    go_ret;refine⟨_,rfl,⟨z,Jl n (Yv T _)⟩,?_,D++o,hA.below T,t,DG⟩;rcases W with⟨e,_⟩|e
    . exact Or.inl e
    . exact Or.inr ⟨_,e⟩
def KT:Y=2^64:=by unfold Y;rfl
def IR(xs bs:List Nat)(ro wd i a c:Nat)(q:List Nat):Prop:=
 q.length=i/\DN Y q/\a<Y/\c<=1/\val Y q+val Y (bs.take i)*wd=val Y ((xs.drop ro).take i)+Y^i*(a+c)
def IR.start(xs bs:List Nat)(ro wd:Nat):IR xs bs ro wd 0 0 0 []:=⟨rfl,DN.nil _,by unfold Y;omega,O,by simp[val]⟩
theorem IR.step(h:IR xs bs ro wd i g c q)(d a c':Nat)(f:d<Y)(j:a<Y)(e:c'<=1)(o:d+bs[i]?.getD 0*wd+g+c=xs[ro+i]?.getD 0+Y*(a+c')):IR xs bs ro wd (i+1) a c' (q++[d]):=by
 obtain⟨k,b,l,m,n⟩:=h;refine⟨by simp;omega,b.append (DN.cons f (DN.nil _)),j,e,?_⟩;grind[IH,JK]
theorem fG{y r:Nat}(a:x<Y)(b:y<Y)(f:r<Y)(e:g<Y)(d:c<=1):
 Ef x y+XB (YK x y) g 0<Y/\Hc r (YT (YK x y) g 0) c<Y/\Gm r (YT (YK x y) g 0) c<=1/\YT (YK x y) g 0<Y/\
 Hc r (YT (YK x y) g 0) c+x*y+g+c=r+Y*(Ef x y+XB (YK x y) g 0+Gm r (YT (YK x y) g 0) c):=by
 have hp:=TF a b;grind[Ef,YK,XB,YT,Hc,Gm,Y]
theorem IR.last(h:IR xs bs ro wd n g c q)(hn:bs.length=n)(b:d<Y)(k:d+g+c=xs[ro+n]?.getD 0+Y*c'):
 (q++[d]).length=n+1/\DN Y (q++[d])/\val Y (q++[d])+val Y bs*wd=val Y ((xs.drop ro).take (n+1))+Y^(n+1)*c':=by
 obtain⟨e,a,f,i,j⟩:=h;refine⟨by simp;omega,a.append (DN.cons b (DN.nil _)),?_⟩;grind[IH,JK]
def EN(x s:Nat):Nat:=x*2^s%Y
def D7(x s:Nat):Nat:=x/2^s
theorem Lm(hs:s<=64):2^s*2^(64-s)=Y:=by rw[<-CI,show s+(64-s)=64 from by omega];rfl
theorem Lo(hs:s<=64):EN x s=x%2^(64-s)*2^s:=by
 grind[EN,Lm,Nat.mul_mod_mul_right]
theorem fH(hs:s<=63)(e:x<Y)(d:c<2^s):c ||| EN x s=c+EN x s/\c+EN x s<Y/\D7 x (64-s)<2^s/\c+EN x s+Y*D7 x (64-s)=c+x*2^s:=by
 rw[Lo O];have hp:=Lm (s:=s) O;have g:=Ci x (2^(64-s));have a:=Co x (Ca (64-s));unfold D7;have b:c ||| x%2^(64-s)*2^s=c+x%2^(64-s)*2^s:=by
  rw[Nat.or_comm,AM,<-C3 d,FL]
 refine⟨b,?_,?_,?_⟩
 . have f:(x%2^(64-s)+1)*2^s<=2^(64-s)*2^s:=Ad _ a;grind
 . rw[AO (Ca _),hp];exact e
 grind
def KU(a:List Nat)(s i:Nat)(q:List Nat)(c:Nat):Prop:=
 q.length=i/\DN Y q/\c<2^s/\val Y q+Y^i*c=val Y (a.take i)*2^s
def KU.start(a:List Nat)(s:Nat):KU a s 0 [] 0:=⟨rfl,DN.nil _,Ca s,by simp[val]⟩
theorem KU.step(h:KU f s i q c)(e:d<Y)(b:c'<2^s)(l:d+Y*c'=c+f[i]?.getD 0*2^s):KU f s (i+1) (q++[d]) c':=by
 obtain⟨g,a,j,k⟩:=h;refine⟨by simp;omega,a.append (DN.cons e (DN.nil _)),b,?_⟩;grind[IH,JK]
theorem fI{P:Nat}(hs:s<=63)(f:x<Y):
 EN (P%2^s) (64-s) ||| D7 x s=EN (P%2^s) (64-s)+D7 x s/\EN (P%2^s) (64-s)+D7 x s<Y/\EN x (64-s)=EN ((x+Y*P)%2^s) (64-s)/\
 (x+Y*P)/2^s=EN (P%2^s) (64-s)+D7 x s+Y*(P/2^s):=by
 have hp:=Lm (s:=s) O;rw[Lo O,Lo O,Lo O,show 64-(64-s)=s from by omega,Nat.mod_mod];have i:D7 x s<2^(64-s):=by
  unfold D7;rw[AO (Ca _),AM,hp];exact f
 have c:=Co P (Ca s);have d:=Ci P (2^s);refine⟨?_,?_,?_,?_⟩
 . grind[AM,C3]
 . have g:(P%2^s+1)*2^(64-s)<=2^s*2^(64-s):=Ad _ c;grind
 . grind[Cu,CH,Nat.mod_mod]
 . unfold D7;have e:x+Y*P=x+2^s*(P%2^s*2^(64-s)+Y*(P/2^s)):=by
    rw[<-hp];generalize P/2^s=a at *;generalize P%2^s=b at *;generalize 2^(64-s)=E at *;generalize 2^s=F at *;rw[<-d];grind
   grind[CV]
theorem fJ(B:Nat)(ds:List Nat)(k:Nat)(h:k<ds.length):val B (ds.drop k)=ds[k]?.getD 0+B*val B (ds.drop (k+1)):=by
 grind[AK,Yr]
def Gn(R0 V n K k:Nat)(D Q:List Nat):Prop:=
 D.length=K+n/\DN Y D/\Q.length=K/\DN Y Q/\val Y D<V*Y^k/\R0=val Y D+V*val Y Q/\∀j,j<k->Q[j]?.getD 0=0
theorem Gn.win(h:Gn R0 V n K (k+1) D Q)(hk:k<K)(p:V<Y^n):
 val Y ((D.drop k).take (n+1))<V*Y/\val Y D=val Y (D.take k)+Y^k*val Y ((D.drop k).take (n+1))/\val Y (D.drop (k+(n+1)))=0:=by
 obtain⟨g,i,j,l,f,m,o⟩:=h;have d:val Y D<Y^(k+(n+1)):=by
  have e:Y^(k+(n+1))=Y^n*Y^(k+1):=by rw[<-CI];congr 1;omega
  rw[e];exact AB f (Ad _ O)
 have c:=Pf O d;have a:=val_append Y (D.take k) (D.drop k);rw[AP,Aq,CZ O]at a;have b:=val_append Y ((D.drop k).take (n+1)) ((D.drop k).drop (n+1));rw[AP,Fy,c,CF,Cb]at b;rw[b]at a;refine⟨?_,a,c⟩;rcases A6 (val Y ((D.drop k).take (n+1))) (V*Y)with h|h
 . exact h
 . exfalso
   have:=Ah (Y^k) h;have e:Y^k*(V*Y)=V*Y^(k+1):=by rw[Cg];grind
   omega
theorem Gn.step(h:Gn R0 V n K (k+1) D Q)(hk:k<K)(o:V<Y^n)(p:q.length=n+1)(hq:DN Y q)
(r:val Y q=val Y ((D.drop k).take (n+1))%V)(c:0<V):
 Gn R0 V n K k (mid D k (n+1) q) (Q.set k (val Y ((D.drop k).take (n+1))/V)):=by
 obtain⟨w1,w2,s⟩:=h.win hk o;obtain⟨i,b,t,l,u,v,m⟩:=h;have w:0<Y:=by unfold Y;omega
 generalize y:val Y ((D.drop k).take (n+1))=W at *;have z:=Ci W V;have e:=Co W c;have d:W/V<Y:=by rw[AO c,AM];exact w1
 have f:val Y (mid D k (n+1) q)=val Y (D.take k)+Y^k*val Y q:=by
  rw[mid,val_append,val_append,Aq,CZ O,s];simp
 have g:=Pe Y Q k (W/V) O;rw[m k O,CF,Cb]at g;have E:val Y (D.take k)<Y^k:=by
  have:=YR (b.take k);rwa[Aq,CZ O]at this
 refine⟨by rw[J9 p O];exact i,?_,DG,?_,?_,?_,?_⟩
 . intro x a;rw[mid]at a;rcases CE.1 a with a|a
   . exact(b.take k) x a
   . rcases CE.1 a with a|a
     . exact hq x a
     . exact(b.drop _) x a
 . intro x a;rcases List.mem_or_eq_of_mem_set a with a|a
   . exact l x a
   . rw[a];exact d
 . rw[f,r];have:=Ah (Y^k) (show W%V+1<=V from e);grind
 . grind
 . intro j A;grind
theorem Gn.start(b:D.length=K+n)(c:DN Y D)(a:val Y D=R0)(d:R0<V*Y^K):Gn R0 V n K K D (List.replicate K 0):=
 ⟨b,c,AJ,λx e=>by grind[Y],by rw[a];exact d,by rw[TQ,CF,a,Cb],λj _=>by
  grind⟩
theorem Gn.fin{b:Nat}(h:Gn R0 V n K 0 D Q)(j:R0=m*2^s)(k:V=b*2^s):J1 Q=Jh Y (m/b)/\val Y D=m%b*2^s:=by
 obtain⟨a,c,d,e,f,g,i⟩:=h;grind[CV,Cm,CH,Ct,Nat.mul_div_mul_right,Nat.mul_mod_mul_right,YJ,Jf]
def fK(g ro len cap:Nat)(xs:List Nat)(a:Option Addr)(cb:Nat)(bs:List Nat)(wd:Nat)(w:World)
(hA:DP w g xs)(F:DN Y xs)(aj:ro+(len+1)<=xs.length)(ae:len+1<=cap)(z:Row .u64 w (B a len cb) bs)(S:DN Y bs)(A:∀p,a=some p->0<len->p.block≠g)(E:wd<Y):
 Calls Tryz.prog 287 #[B (some ⟨g,ro,none⟩) (len+1) cap,B a len cb,C .u64 (wd:Nat)] w λe w'=>
  ∃c q,e=.returned (C .u64 (c:Nat))/\(c<=1/\q.length=len+1/\DN Y q/\val Y q+val Y bs*wd=val Y ((xs.drop ro).take (len+1))+Y^(len+1)*c)/\DP w' g (mid xs ro (len+1) q)/\w.grownBy w' (some g):=by
 obtain⟨hl,ah,X,ai,k⟩:=Jz z;obtain⟨I,H,K⟩:=DY hl k A;clear k hl A z;go_enter Tryz.func287,Tryz.ntmps287
 go_wp2;go_loopw [7,8,16] (λU Q u wr=>∃(i f c:Nat) (q:List Nat),u=C .i64 i/\U=C .u64 (f:Nat)/\Q=C .u64 (c:Nat)/\i<=len/\f<Y/\c<=1/\Hid (IR xs bs ro wd i f c q)/\DP wr g (mid xs ro i q)/\w.grownBy wr (some g))
  (λ_ _ u _=>len-(intOf u).toNat)
 case atStart=>exact⟨0,0,0,[],rfl,rfl,rfl,At _,by unfold Y;omega,O,IR.start _ _ _ _,by rw[mid_zero];exact hA,XR _ _⟩
 case round=>
  obtain⟨i,f,c,q,rfl,rfl,rfl,hi,D,m,l,hM,hg⟩:=hrel;by_cases T:i<len
  . obtain⟨b,am,rfl,R,k⟩:=H.o i T;have N:=K.o _ rfl O;have hq:=l.o.1;have W:=(BU (w:=w) (hg.block b R λe=>N (by cases e;rfl))).trans k;have L:wr.cell? ⟨g,ro+i,none⟩=some (C .u64 (xs[ro+i]?.getD 0:Nat)):=by rw[<-Iv hq O];exact hM.cell (by rw[J9 hq O];omega)
    have M:=hM.frozen (ro+i);have y:=S.getD uo i;have t:=F.getD uo (ro+i);obtain⟨n,v,o,s4,G⟩:=fG y E t D m;have j:=Z (l.o.step _ _ _ v n o G);have s:=Z (show ∀d,(mid xs ro i q).set (ro+i) d=mid xs ro (i+1) (q++[d])from λd=>KR hq O d);clear k hq G;generalize bs[i]?.getD 0=x at *;generalize xs[ro+i]?.getD 0=r at *;have V:=NI (YK x wd) f;have P:=NJ r (YT (YK x wd) f 0) c m;unfold Y at n;go_wp2_with(first
     |(go_at_call 226;refine(Iy _ _ y E _).mono ?_;rintro e w' ⟨rfl,rfl⟩))
    exact⟨⟨i+1,Ef x wd+XB (YK x wd) f 0,Gm r (YT (YK x wd) f 0) c,q++[Hc r (YT (YK x wd) f 0) c],DH,DH,rfl,O,j.o.2.2.1,j.o.2.2.2.1,j,by rw[<-s.o];exact hM.set _ _,Jl hg (J0 _ _ _ _)⟩,by simp[intOf];omega⟩
  . obtain rfl:i=len:=O
    have hq:=l.o.1;have L:wr.cell? ⟨g,ro+i,none⟩=some (C .u64 (xs[ro+i]?.getD 0:Nat)):=by rw[<-Iv hq O];exact hM.cell (by rw[J9 hq O];omega)
    have M:=hM.frozen (ro+i);have t:=F.getD uo (ro+i);obtain⟨n,v,o⟩:=PU t D m;have j:=Z (l.o.last I.o.symm n o);have s:=Z (show ∀d,(mid xs ro i q).set (ro+i) d=mid xs ro (i+1) (q++[d])from λd=>KR hq O d);clear hq o;generalize xs[ro+i]?.getD 0=r at *;have P:=NJ r f c m;go_wp2;go_ret;exact⟨Gm r f c,_,rfl,⟨v,j.o⟩,by rw[<-s.o];exact hM.set _ _,Jl hg (J0 _ _ _ _)⟩
