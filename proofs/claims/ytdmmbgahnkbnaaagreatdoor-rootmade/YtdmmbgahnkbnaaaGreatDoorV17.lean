import Derived.Test.YtdmmbgahnkbnaaaGreatDoorV10
import Derived.Test.YtdmmbgahnkbnaaaGreatDoorV09
set_option linter.all false
open Go.Value renaming slice->B,int->C
set_option maxRecDepth 99999
set_option maxHeartbeats 0
namespace Go.Proofs.YtdmmbgahnkbnaaaGreatDoor
open Go.RowKit Go.Shelf
variable{D Q bs f q xs:List Nat}{K R0 V c c' d g i k len m n ro s wd x:Nat}
theorem fu{zs:List Nat}{o v:Nat}(h:o<zs.length):(zs.set o v).take (o+1)=zs.take o++[v]:=by
 grind[A9,List.take_set,Ap]
def Tv{b:Nat}:∀(a:List Nat) (o:Nat) (W:World) (zs:List Nat),DS W b zs->o+a.length<=zs.length->DS (W.setCells b o (cellsOf .u64 a)) b (zs.take o++(a++zs.drop (o+a.length)))
 |[],o,W,zs,h,_=>by
  have e:zs.take o++([]++zs.drop (o+([]:List Nat).length))=zs:=DI
  rw[e];exact h
 |v::r,o,W,zs,h,hl=>by
  rw[Ah]at hl;have c:=Tv r (o+1) (W.setCell ⟨b,o,none⟩ (C .u64 (v:Nat))) (zs.set o v) (h.set o v) DH;rw[fu O,List.drop_set_of_lt O,CM]at c;have e:o+1+r.length=o+(v::r).length:=by rw[Ah];omega
  rw[e]at c;exact c
theorem Tw{b:Nat}:∀(a:List Value) (o:Nat) (W:World),W.grownBy (W.setCells b o a) (some b)
 |[],_,W=>XU W _
 |v::r,o,W=>Jl (J2 W b o v) (Tw r (o+1) _)
theorem Tx(ty:TypeId)(g n c:Nat)(zs:List Nat)(W:World)(h:DS W g zs)(hn:n<=zs.length):
 ∃W',(Builtin.clear_ #[37] ty #[B (some ⟨g,0,none⟩) n c]).run Tryz.prog W=.ok (.tuple #[]) W'/\DS W' g (List.replicate n 0++zs.drop n)/\W.grownBy W' (some g):=by
 rcases AN n with a|a
 . subst a;refine⟨W,?_,?_,XU W _⟩
   . simp[Builtin.clear_,run_underlying Tryz.underlying37]
   grind
 . have b:=Lib.run_clear_slice (P:=Tryz.prog) W 37 141 ty (C .u64 0) Tryz.underlying37 (λw=>by kernel_rfl) rfl rfl g 0 n c a
    (λj f=>by rw[A5,h.cell O];rfl) λj _=>h.frozen _
   have e:(List.replicate n (Value.int .u64 0))=cellsOf .u64 (List.replicate n 0):=by simp[cellsOf]
   rw[e]at b;have d:=Tv (List.replicate n 0) 0 W zs h DH;grind[Tw]
theorem Pw(B:Nat):∀(D:List Nat) (j d:Nat),j<D.length->val B (D.set j d)+B^j*D[j]?.getD 0=val B D+B^j*d
 |[],_,_,h=>by cases h
 |x::D,0,d,_=>by simp[val];omega
 |x::D,j+1,d,h=>by
  have a:=Pw B D j d (by simpa using h);grind[val]
def Tz(B n:Nat):val B (List.replicate n 0)=0:=by
 induction n with
 |zero=>rfl
 |succ n a=>rw[C1,val,a];simp
def GA(a bs:List Nat)(i:Nat)(D:List Nat):Prop:=
 D.length=a.length+bs.length/\DO Y D/\val Y D=val Y (a.take i)*val Y bs
theorem GA.start(a bs:List Nat):GA a bs 0 (List.replicate (a.length+bs.length) 0):=
 ⟨AK,λx b=>by grind[Y],by rw[Tz];simp[val]⟩
def T0{B:Nat}(c:0<B):∀ {D:List Nat},val B D=0->∀j:Nat,D[j]?.getD 0=0
 |[],_,j=>by simp
 |d::D,h,0=>by
  rw[Yw]at h;show d=0;omega
 |d::D,h,j+1=>by
  rw[Yw]at h;have a:B*val B D=0:=O
  have b:val B D=0:=by
   rcases Nat.mul_eq_zero.1 a with h|h
   . omega
   . exact h
  rw[AZ];exact T0 c b j
def Px{B:Nat}(hk:k<=D.length)(h:val B D<B^k):val B (D.drop k)=0:=by
 have e:val B D=val B (D.take k)+B^k*val B (D.drop k):=by
  have b:=val_append B (D.take k) (D.drop k);rw[AW,Ap,CY hk]at b;exact b
 rcases AN (val B (D.drop k))with a|a
 . exact a
 . have:=Ai (B^k) a;omega
theorem GA.step(h:GA f bs i D)(r:DO Y f)(p:DO Y bs)(hi:i<f.length)(v:wd=f[i]?.getD 0)(hq:F9 D bs i wd bs.length g q):
 GA f bs (i+1) ((mid D i bs.length q).set (i+bs.length) g):=by
 obtain⟨u,l,o⟩:=h;obtain⟨q1,q2,q3,w⟩:=hq;have n:val Y D<Y^(i+bs.length):=by
  rw[o,CQ];have b:=Y4 (r.take i);rw[Ap,CY O]at b;have c:=Y4 p;rcases AN (val Y bs)with k|k
  . rw[k,CI];exact FF (Cy uo) (Cy uo)
  . exact Nat.mul_lt_mul'' b c
 have d:=Px O n;have m:(mid D i bs.length q).length=D.length:=Ye q1 O;refine⟨DH,?_,?_⟩
 . intro x a;rcases List.mem_or_eq_of_mem_set a with a|a
   . rw[mid]at a;rcases Cp.1 a with a|a
     . exact(l.take i) x a
     . rcases Cp.1 a with a|a
       . exact q2 x a
       . exact(l.drop _) x a
   . rw[a];exact q3
 . have b:=Pw Y (mid D i bs.length q) (i+bs.length) g (by rw[m];omega);have c:(mid D i bs.length q)[i+bs.length]?.getD 0=0:=by
    rw[I1 q1 O];have:=T0 uo d 0;rw[Fk,Cf]at this;exact this
   rw[c,CI,Cf]at b;rw[b];have s:val Y (mid D i bs.length q)=val Y (D.take i)+Y^i*val Y q:=by
    rw[mid,val_append,val_append,Ap,CY O,d];simp
   have t:val Y D=val Y (D.take i)+Y^i*val Y ((D.drop i).take bs.length):=by
    have e:=val_append Y (D.take i) (D.drop i);rw[AW,Ap,CY O]at e;have j:=val_append Y ((D.drop i).take bs.length) ((D.drop i).drop bs.length);rw[AW,Fv,d,CI,Cf]at j;rw[e,j]
   grind[JM]
theorem GA.fin(h:GA f bs f.length D)(c:f=Jh Y m)(d:bs=Jh Y n):J3 D=Jh Y (m*n):=by
 obtain⟨_,a,b⟩:=h;grind[YK,Jg,Jz]
theorem F9.tail(h:F9 (D++f) bs i wd len g q)(hi:i+len<=D.length):F9 D bs i wd len g q:=by
 obtain⟨a,b,c,d⟩:=h;refine⟨a,b,c,?_⟩;grind
theorem UA(hi:i+len<=D.length):mid (D++f) i len q=mid D i len q++f:=by
 grind[mid]
def Py(g rl rc:Nat)(zs:List Nat)(a:Option Addr)(la ca:Nat)(b:Option Addr)(lb cb m n:Nat)(w:World)
(hA:DS w g zs)(bf:DO Y zs)(hz:la+lb<=zs.length)(an:la+lb<=rc)(az:rc<=9223372036854775807)(ay:la+lb<=1099511627776)
(ra:Row .u64 w (B a la ca) (Jh Y m))(F:Row .u64 w (B b lb cb) (Jh Y n))(ai:∀p,a=some p->0<la->p.block≠g)(aj:∀p,b=some p->0<lb->p.block≠g):
 Calls Tryz.prog 179 #[B (some ⟨g,0,none⟩) rl rc,B a la ca,B b lb cb] w λe w'=>∃u,e=.returned u/\(UN w' u (m*n)/\w.grownBy w' (some g))/\(u=B none 0 0\/∃l,u=B (some ⟨g,0,none⟩) l rc)/\∃G,DS w' g G/\DO Y G/\G.length=zs.length:=by
 obtain⟨z,bg,bu,bn,X⟩:=JK ra;have v:=(JK F).1;have xa:=JA Jg m;have xb:=JA Jg n;have K:=Z λD (h:GA (Jh Y m) (Jh Y n) (Jh Y m).length D)=>h.fin (m:=m) (n:=n) rfl rfl;have I:=Z F;generalize Jh Y m=r at *;generalize Jh Y n=f at *;obtain⟨W1,ap,hA1,U⟩:=Tx 0 g (la+lb) rc zs w hA hz;have s:=Z (GA.start r f);rw[<-z,<-v]at s;have Q:DO Y (zs.drop (la+lb)):=bf.drop _;have Qn:(zs.drop (la+lb)).length=zs.length-(la+lb):=Cb;obtain⟨T,hZ⟩:∃T,T=zs.length:=⟨_,rfl⟩;rw[<-hZ]at Qn hz ⊢;generalize zs.drop (la+lb)=o at *;obtain⟨H,y,M,P,t⟩:=IE X z v ai aj;clear X z v ra F hZ hA ai aj;go_enter Tryz.func179,Tryz.ntmps179
 go_wp2;go_loopw [19] (λE wr=>∃(i:Nat) (D:List Nat),E=C .i64 i/\i<=la/\Hid (GA r f i D)/\DS wr g (D++o)/\w.grownBy wr (some g))
  (λE _=>la-(intOf E).toNat)
 case atStart=>exact⟨0,_,rfl,As _,s.o,hA1,U⟩
 case round=>
  clear s hA1 U ap;obtain⟨i,D,rfl,hi,c,hA,k⟩:=hrel;have Ql:=c.o.1;rw[<-y.o,<-M.o]at Ql;by_cases ah:i<la
  . obtain⟨ab,ao,rfl,am,W⟩:=H.o i ah;have bj:=(BT (w:=w) (k.block ab am λe=>P.o _ rfl O (by cases e;rfl))).trans W;have hw:=xa.getD uo i;have S:=Z λd q (h:F9 D f i (r[i]?.getD 0) f.length d q)=>c.o.step xa xb (by rw[<-y.o];exact ah) rfl h;have Qo:=Row.grown I.o k t.o;have x:=c.o.2.1.append Q;rw[<-M.o]at S;generalize r[i]?.getD 0=wd at *;clear W;go_wp2_with(go_at_call 181;refine(Pq g i lb _ (D++o) b cb f wd _ hA x (by rw[Am];omega) O Qo xb t.o hw).mono ?_;rintro e w5 ⟨d,q,rfl,hq,hA5,aq⟩;have R:=Ye hq.1 (xs:=D++o) (ro:=i) (by rw[Am];omega);have bi:=hA5.cell (j:=i+lb) (by rw[R,Am];omega);have bm:=hA5.frozen (i+lb);have L:=Z hq;clear hq R)
    have N:=hA5.set (i+lb) d;rw[UA O,List.set_append_left _ _ (by rw[Ye L.o.1 O];omega)]at N;exact⟨⟨i+1,(mid D i lb q).set (i+lb) d,DI,O,S.o d q (L.o.tail O),N,Jl (Jl k aq) (J2 _ _ _ _)⟩,by simp[intOf];omega⟩
  . obtain rfl:i=la:=O
    have Qc:Row .u64 wr (B (some ⟨g,0,none⟩) (i+lb) rc) D:=by
     have h1:=hA.row 0 (i+lb) rc DH an az ay;rwa[Ch,A6 O,Af O]at h1
    have Qm:=Z (K.o D (by rw[<-y.o];exact c.o));have x:=c.o.2.1.append Q;clear c K H I P t;go_wp2_with(go_at_call 95;refine(NL _ _ _ D _ Qc).mono ?_;rintro e w5 ⟨u,rfl,⟨A,V⟩,ae⟩;rw[Qm.o]at A ae;obtain⟨ua,uc,rfl⟩:=UN.form A)
    go_ret;refine⟨_,rfl,⟨A,Jl k (YC V _)⟩,?_,D++o,hA.below V,x,DH⟩;rcases ae with⟨e,_⟩|e
    . exact Or.inl e
    . exact Or.inr ⟨_,e⟩
theorem GA.fing(h:GA f bs f.length D):J3 D=Jh Y (val Y f*val Y bs):=by
 obtain⟨_,a,b⟩:=h;grind[YK,Jg]
def fv(g rl rc:Nat)(zs:List Nat)(a:Option Addr)(la ca:Nat)(b:Option Addr)(lb cb:Nat)(c d:List Nat)(w:World)(xa:DO Y c)(xb:DO Y d)
(hA:DS w g zs)(ay:DO Y zs)(hz:la+lb<=zs.length)(aj:la+lb<=rc)(aq:rc<=9223372036854775807)(ap:la+lb<=1099511627776)
(ra:Row .u64 w (B a la ca) c)(A:Row .u64 w (B b lb cb) d)(ae:∀p,a=some p->0<la->p.block≠g)(ah:∀p,b=some p->0<lb->p.block≠g):
 Calls Tryz.prog 179 #[B (some ⟨g,0,none⟩) rl rc,B a la ca,B b lb cb] w λe w'=>∃u,e=.returned u/\(UN w' u (val Y c*val Y d)/\w.grownBy w' (some g))/\(u=B none 0 0\/∃l,u=B (some ⟨g,0,none⟩) l rc)/\∃E,DS w' g E/\DO Y E/\E.length=zs.length:=by
 obtain⟨x,az,bm,bj,V⟩:=JK ra;have s:=(JK A).1;have H:=Z λD (h:GA c d c.length D)=>h.fing;have G:=Z A;obtain⟨W1,am,hA1,S⟩:=Tx 0 g (la+lb) rc zs w hA hz;have o:=Z (GA.start c d);rw[<-x,<-s]at o;have N:DO Y (zs.drop (la+lb)):=ay.drop _;have Qn:(zs.drop (la+lb)).length=zs.length-(la+lb):=Cb;obtain⟨R,hZ⟩:∃R,R=zs.length:=⟨_,rfl⟩;rw[<-hZ]at Qn hz ⊢;generalize zs.drop (la+lb)=n at *;obtain⟨F,v,K,M,r⟩:=IE V x s ae ah;clear V x s ra A hZ hA ae ah;go_enter Tryz.func179,Tryz.ntmps179
 go_wp2;go_loopw [19] (λz wr=>∃(i:Nat) (D:List Nat),z=C .i64 i/\i<=la/\Hid (GA c d i D)/\DS wr g (D++n)/\w.grownBy wr (some g))
  (λz _=>la-(intOf z).toNat)
 case atStart=>exact⟨0,_,rfl,As _,o.o,hA1,S⟩
 case round=>
  clear o hA1 S am;obtain⟨i,D,rfl,hi,f,hA,m⟩:=hrel;have Ql:=f.o.1;rw[<-v.o,<-K.o]at Ql;by_cases X:i<la
  . obtain⟨ab,ao,rfl,ai,U⟩:=F.o i X;have bg:=(BT (w:=w) (m.block ab ai λe=>M.o _ rfl O (by cases e;rfl))).trans U;have hw:=xa.getD uo i;have Q:=Z λk q (h:F9 D d i (c[i]?.getD 0) d.length k q)=>f.o.step xa xb (by rw[<-v.o];exact X) rfl h;have Qo:=Row.grown G.o m r.o;have t:=f.o.2.1.append N;rw[<-K.o]at Q;generalize c[i]?.getD 0=wd at *;clear U;go_wp2_with(go_at_call 181;refine(Pq g i lb _ (D++n) b cb d wd _ hA t (by rw[Am];omega) O Qo xb r.o hw).mono ?_;rintro e w5 ⟨k,q,rfl,hq,hA5,an⟩;have P:=Ye hq.1 (xs:=D++n) (ro:=i) (by rw[Am];omega);have bf:=hA5.cell (j:=i+lb) (by rw[P,Am];omega);have bi:=hA5.frozen (i+lb);have I:=Z hq;clear hq P)
    have L:=hA5.set (i+lb) k;rw[UA O,List.set_append_left _ _ (by rw[Ye I.o.1 O];omega)]at L;exact⟨⟨i+1,(mid D i lb q).set (i+lb) k,DI,O,Q.o k q (I.o.tail O),L,Jl (Jl m an) (J2 _ _ _ _)⟩,by simp[intOf];omega⟩
  . obtain rfl:i=la:=O
    have Qc:Row .u64 wr (B (some ⟨g,0,none⟩) (i+lb) rc) D:=by
     have h1:=hA.row 0 (i+lb) rc DH aj aq ap;rwa[Ch,A6 O,Af O]at h1
    have Qm:=Z (H.o D (by rw[<-v.o];exact f.o));have t:=f.o.2.1.append N;clear f H F G M r;go_wp2_with(go_at_call 95;refine(NL _ _ _ D _ Qc).mono ?_;rintro e w5 ⟨u,rfl,⟨y,T⟩,W⟩;rw[Qm.o]at y W;obtain⟨ua,uc,rfl⟩:=UN.form y)
    go_ret;refine⟨_,rfl,⟨y,Jl m (YC T _)⟩,?_,D++n,hA.below T,t,DH⟩;rcases W with⟨e,_⟩|e
    . exact Or.inl e
    . exact Or.inr ⟨_,e⟩
def Ke:Y=2^64:=by unfold Y;rfl
def IZ(xs bs:List Nat)(ro wd i a c:Nat)(q:List Nat):Prop:=
 q.length=i/\DO Y q/\a<Y/\c<=1/\val Y q+val Y (bs.take i)*wd=val Y ((xs.drop ro).take i)+Y^i*(a+c)
def IZ.start(xs bs:List Nat)(ro wd:Nat):IZ xs bs ro wd 0 0 0 []:=⟨rfl,DO.nil _,by unfold Y;omega,O,by simp[val]⟩
theorem IZ.step(h:IZ xs bs ro wd i g c q)(d a c':Nat)(f:d<Y)(j:a<Y)(e:c'<=1)(o:d+bs[i]?.getD 0*wd+g+c=xs[ro+i]?.getD 0+Y*(a+c')):IZ xs bs ro wd (i+1) a c' (q++[d]):=by
 obtain⟨k,b,l,m,n⟩:=h;refine⟨by simp;omega,b.append (DO.cons f (DO.nil _)),j,e,?_⟩;grind[IP,JM]
theorem fw{y r:Nat}(a:x<Y)(b:y<Y)(f:r<Y)(e:g<Y)(d:c<=1):
 Eo x y+XE (YL x y) g 0<Y/\Hg r (YU (YL x y) g 0) c<Y/\Gr r (YU (YL x y) g 0) c<=1/\YU (YL x y) g 0<Y/\
 Hg r (YU (YL x y) g 0) c+x*y+g+c=r+Y*(Eo x y+XE (YL x y) g 0+Gr r (YU (YL x y) g 0) c):=by
 have hp:=To a b;grind[Eo,YL,XE,YU,Hg,Gr,Y]
theorem IZ.last(h:IZ xs bs ro wd n g c q)(hn:bs.length=n)(b:d<Y)(k:d+g+c=xs[ro+n]?.getD 0+Y*c'):
 (q++[d]).length=n+1/\DO Y (q++[d])/\val Y (q++[d])+val Y bs*wd=val Y ((xs.drop ro).take (n+1))+Y^(n+1)*c':=by
 obtain⟨e,a,f,i,j⟩:=h;refine⟨by simp;omega,a.append (DO.cons b (DO.nil _)),?_⟩;grind[IP,JM]
def ES(x s:Nat):Nat:=x*2^s%Y
def EC(x s:Nat):Nat:=x/2^s
theorem L4(hs:s<=64):2^s*2^(64-s)=Y:=by rw[<-CQ,show s+(64-s)=64 from by omega];rfl
theorem L5(hs:s<=64):ES x s=x%2^(64-s)*2^s:=by
 grind[ES,L4,Nat.mul_mod_mul_right]
theorem gA(hs:s<=63)(e:x<Y)(d:c<2^s):c ||| ES x s=c+ES x s/\c+ES x s<Y/\EC x (64-s)<2^s/\c+ES x s+Y*EC x (64-s)=c+x*2^s:=by
 rw[L5 O];have hp:=L4 (s:=s) O;have g:=Ci x (2^(64-s));have a:=Cl x (Cc (64-s));unfold EC;have b:c ||| x%2^(64-s)*2^s=c+x%2^(64-s)*2^s:=by
  rw[Nat.or_comm,AP,<-C3 d,Fy]
 refine⟨b,?_,?_,?_⟩
 . have f:(x%2^(64-s)+1)*2^s<=2^(64-s)*2^s:=Ad _ a;grind
 . rw[AV (Cc _),hp];exact e
 grind
def Kf(a:List Nat)(s i:Nat)(q:List Nat)(c:Nat):Prop:=
 q.length=i/\DO Y q/\c<2^s/\val Y q+Y^i*c=val Y (a.take i)*2^s
def Kf.start(a:List Nat)(s:Nat):Kf a s 0 [] 0:=⟨rfl,DO.nil _,Cc s,by simp[val]⟩
theorem Kf.step(h:Kf f s i q c)(e:d<Y)(b:c'<2^s)(l:d+Y*c'=c+f[i]?.getD 0*2^s):Kf f s (i+1) (q++[d]) c':=by
 obtain⟨g,a,j,k⟩:=h;refine⟨by simp;omega,a.append (DO.cons e (DO.nil _)),b,?_⟩;grind[IP,JM]
theorem gC{P:Nat}(hs:s<=63)(f:x<Y):
 ES (P%2^s) (64-s) ||| EC x s=ES (P%2^s) (64-s)+EC x s/\ES (P%2^s) (64-s)+EC x s<Y/\ES x (64-s)=ES ((x+Y*P)%2^s) (64-s)/\
 (x+Y*P)/2^s=ES (P%2^s) (64-s)+EC x s+Y*(P/2^s):=by
 have hp:=L4 (s:=s) O;rw[L5 O,L5 O,L5 O,show 64-(64-s)=s from by omega,Nat.mod_mod];have i:EC x s<2^(64-s):=by
  unfold EC;rw[AV (Cc _),AP,hp];exact f
 have c:=Cl P (Cc s);have d:=Ci P (2^s);refine⟨?_,?_,?_,?_⟩
 . grind[AP,C3]
 . have g:(P%2^s+1)*2^(64-s)<=2^s*2^(64-s):=Ad _ c;grind
 . grind[Ct,CF,Nat.mod_mod]
 . unfold EC;have e:x+Y*P=x+2^s*(P%2^s*2^(64-s)+Y*(P/2^s)):=by
    rw[<-hp];generalize P/2^s=a at *;generalize P%2^s=b at *;generalize 2^(64-s)=E at *;generalize 2^s=F at *;rw[<-d];grind
   grind[CU]
theorem gD(B:Nat)(ds:List Nat)(k:Nat)(h:k<ds.length):val B (ds.drop k)=ds[k]?.getD 0+B*val B (ds.drop (k+1)):=by
 grind[AQ,Yw]
def Gs(R0 V n K k:Nat)(D Q:List Nat):Prop:=
 D.length=K+n/\DO Y D/\Q.length=K/\DO Y Q/\val Y D<V*Y^k/\R0=val Y D+V*val Y Q/\∀j,j<k->Q[j]?.getD 0=0
theorem Gs.win(h:Gs R0 V n K (k+1) D Q)(hk:k<K)(p:V<Y^n):
 val Y ((D.drop k).take (n+1))<V*Y/\val Y D=val Y (D.take k)+Y^k*val Y ((D.drop k).take (n+1))/\val Y (D.drop (k+(n+1)))=0:=by
 obtain⟨g,i,j,l,f,m,o⟩:=h;have d:val Y D<Y^(k+(n+1)):=by
  have e:Y^(k+(n+1))=Y^n*Y^(k+1):=by rw[<-CQ];congr 1;omega
  rw[e];exact An f (Ad _ O)
 have c:=Px O d;have a:=val_append Y (D.take k) (D.drop k);rw[AW,Ap,CY O]at a;have b:=val_append Y ((D.drop k).take (n+1)) ((D.drop k).drop (n+1));rw[AW,Fv,c,CI,Cf]at b;rw[b]at a;refine⟨?_,a,c⟩;rcases A4 (val Y ((D.drop k).take (n+1))) (V*Y)with h|h
 . exact h
 . exfalso
   have:=Ai (Y^k) h;have e:Y^k*(V*Y)=V*Y^(k+1):=by rw[Ck];grind
   omega
theorem Gs.step(h:Gs R0 V n K (k+1) D Q)(hk:k<K)(o:V<Y^n)(p:q.length=n+1)(hq:DO Y q)
(r:val Y q=val Y ((D.drop k).take (n+1))%V)(c:0<V):
 Gs R0 V n K k (mid D k (n+1) q) (Q.set k (val Y ((D.drop k).take (n+1))/V)):=by
 obtain⟨w1,w2,s⟩:=h.win hk o;obtain⟨i,b,t,l,u,v,m⟩:=h;generalize w:val Y ((D.drop k).take (n+1))=W at *;have y:=Ci W V;have e:=Cl W c;have d:W/V<Y:=by rw[AV c,AP];exact w1
 have f:val Y (mid D k (n+1) q)=val Y (D.take k)+Y^k*val Y q:=by
  rw[mid,val_append,val_append,Ap,CY O,s];simp
 have g:=Pw Y Q k (W/V) O;rw[m k O,CI,Cf]at g;have A:val Y (D.take k)<Y^k:=by
  have:=Y4 (b.take k);rwa[Ap,CY O]at this
 refine⟨by rw[Ye p O];exact i,?_,DH,?_,?_,?_,?_⟩
 . intro x a;rw[mid]at a;rcases Cp.1 a with a|a
   . exact(b.take k) x a
   . rcases Cp.1 a with a|a
     . exact hq x a
     . exact(b.drop _) x a
 . intro x a;rcases List.mem_or_eq_of_mem_set a with a|a
   . exact l x a
   . rw[a];exact d
 . rw[f,r];have:=Ai (Y^k) (show W%V+1<=V from e);grind
 . grind
 . intro j z;grind
theorem Gs.start(b:D.length=K+n)(c:DO Y D)(a:val Y D=R0)(d:R0<V*Y^K):Gs R0 V n K K D (List.replicate K 0):=
 ⟨b,c,AK,λx e=>by grind[Y],by rw[a];exact d,by rw[Tz,CI,a,Cf],λj _=>by
  grind⟩
theorem Gs.fin{b:Nat}(h:Gs R0 V n K 0 D Q)(j:R0=m*2^s)(k:V=b*2^s):J3 Q=Jh Y (m/b)/\val Y D=m%b*2^s:=by
 obtain⟨a,c,d,e,f,g,i⟩:=h;grind[CU,Cn,CF,Cr,Nat.mul_div_mul_right,Nat.mul_mod_mul_right,YK,Jg]
def gE(g ro len cap:Nat)(xs:List Nat)(a:Option Addr)(cb:Nat)(bs:List Nat)(wd:Nat)(w:World)
(hA:DS w g xs)(F:DO Y xs)(aj:ro+(len+1)<=xs.length)(ae:len+1<=cap)(z:Row .u64 w (B a len cb) bs)(S:DO Y bs)(A:∀p,a=some p->0<len->p.block≠g)(E:wd<Y):
 Calls Tryz.prog 287 #[B (some ⟨g,ro,none⟩) (len+1) cap,B a len cb,C .u64 (wd:Nat)] w λe w'=>
  ∃c q,e=.returned (C .u64 (c:Nat))/\(c<=1/\q.length=len+1/\DO Y q/\val Y q+val Y bs*wd=val Y ((xs.drop ro).take (len+1))+Y^(len+1)*c)/\DS w' g (mid xs ro (len+1) q)/\w.grownBy w' (some g):=by
 obtain⟨hl,ah,X,ai,k⟩:=JK z;obtain⟨I,H,K⟩:=DX hl k A;clear k hl A z;go_enter Tryz.func287,Tryz.ntmps287
 go_wp2;go_loopw [7,8,16] (λU Q u wr=>∃(i f c:Nat) (q:List Nat),u=C .i64 i/\U=C .u64 (f:Nat)/\Q=C .u64 (c:Nat)/\i<=len/\f<Y/\c<=1/\Hid (IZ xs bs ro wd i f c q)/\DS wr g (mid xs ro i q)/\w.grownBy wr (some g))
  (λ_ _ u _=>len-(intOf u).toNat)
 case atStart=>exact⟨0,0,0,[],rfl,rfl,rfl,As _,by unfold Y;omega,O,IZ.start _ _ _ _,by rw[mid_zero];exact hA,XU _ _⟩
 case round=>
  obtain⟨i,f,c,q,rfl,rfl,rfl,hi,D,m,l,hM,hg⟩:=hrel;by_cases T:i<len
  . obtain⟨b,am,rfl,R,k⟩:=H.o i T;have N:=K.o _ rfl O;have hq:=l.o.1;have W:=(BT (w:=w) (hg.block b R λe=>N (by cases e;rfl))).trans k;have L:wr.cell? ⟨g,ro+i,none⟩=some (C .u64 (xs[ro+i]?.getD 0:Nat)):=by rw[<-I1 hq O];exact hM.cell (by rw[Ye hq O];omega)
    have M:=hM.frozen (ro+i);have y:=S.getD uo i;have t:=F.getD uo (ro+i);obtain⟨n,v,o,s4,G⟩:=fw y E t D m;have j:=Z (l.o.step _ _ _ v n o G);have s:=Z (show ∀d,(mid xs ro i q).set (ro+i) d=mid xs ro (i+1) (q++[d])from λd=>Kc hq O d);clear k hq G;generalize bs[i]?.getD 0=x at *;generalize xs[ro+i]?.getD 0=r at *;have V:=NS (YL x wd) f;have P:=NT r (YU (YL x wd) f 0) c m;unfold Y at n;go_wp2_with(first
     |(go_at_call 226;refine(I4 _ _ y E _).mono ?_;rintro e w' ⟨rfl,rfl⟩))
    exact⟨⟨i+1,Eo x wd+XE (YL x wd) f 0,Gr r (YU (YL x wd) f 0) c,q++[Hg r (YU (YL x wd) f 0) c],DI,DI,rfl,O,j.o.2.2.1,j.o.2.2.2.1,j,by rw[<-s.o];exact hM.set _ _,Jl hg (J2 _ _ _ _)⟩,by simp[intOf];omega⟩
  . obtain rfl:i=len:=O
    have hq:=l.o.1;have L:wr.cell? ⟨g,ro+i,none⟩=some (C .u64 (xs[ro+i]?.getD 0:Nat)):=by rw[<-I1 hq O];exact hM.cell (by rw[Ye hq O];omega)
    have M:=hM.frozen (ro+i);have t:=F.getD uo (ro+i);obtain⟨n,v,o⟩:=Pl t D m;have j:=Z (l.o.last I.o.symm n o);have s:=Z (show ∀d,(mid xs ro i q).set (ro+i) d=mid xs ro (i+1) (q++[d])from λd=>Kc hq O d);clear hq o;generalize xs[ro+i]?.getD 0=r at *;have P:=NT r f c m;go_wp2;go_ret;exact⟨Gr r f c,_,rfl,⟨v,j.o⟩,by rw[<-s.o];exact hM.set _ _,Jl hg (J2 _ _ _ _)⟩
