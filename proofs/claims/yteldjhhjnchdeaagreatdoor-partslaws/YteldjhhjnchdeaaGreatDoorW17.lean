import Derived.Test.YteldjhhjnchdeaaGreatDoorW10
import Derived.Test.YteldjhhjnchdeaaGreatDoorW09
open Go.Value renaming slice->B,int->E
open Go.IntKind renaming u64->C
set_option maxRecDepth 100000
set_option maxHeartbeats 16000000
namespace Go.Proofs.YteldjhhjnchdeaaGreatDoor
open Go.RowKit Go.Shelf
variable{D Q bs f q xs:List Nat}{K R0 V c c' d g i k len m n ro s wd x:Nat}
theorem Tm{o v:Nat}(h:o<f.length):(f.set o v).take (o+1)=f.take o++[v]:=by
 rw[Cq (by rw[Cy];exact h),List.getElem_set_self,List.take_set,C4 (by rw[Ap];omega)]
theorem Of{b:Nat}:∀(c:List Nat) (o:Nat) (W:World) (a:List Nat),DO W b a->o+c.length<=a.length->DO (W.setCells b o (cellsOf C c)) b (a.take o++(c++a.drop (o+c.length)))
 |[],o,W,a,h,_=>by
  have e:a.take o++([]++a.drop (o+([]:List Nat).length))=a:=J
  rw[e];exact h
 |v::r,o,W,a,h,hl=>by
  rw[Ao]at hl;have d:=Of r (o+1) (W.setCell ⟨b,o,none⟩ (E C (v:Nat))) (a.set o v) (h.set o v) (by rw[Cy];omega);rw[Tm Z,List.drop_set_of_lt Z,CN]at d;have e:o+1+r.length=o+(v::r).length:=by rw[Ao];omega
  rw[e]at d;exact d
theorem Og{b:Nat}:∀(a:List Value) (o:Nat) (W:World),W.grownBy (W.setCells b o a) (some b)
 |[],_,W=>YZ W _
 |v::r,o,W=>Jl (JJ W b o v) (Og r (o+1) _)
theorem Oh(ty:TypeId)(g n c:Nat)(a:List Nat)(W:World)(h:DO W g a)(k:n<=a.length):
 ∃W',(Builtin.clear_ #[61] ty #[B (some ⟨g,0,none⟩) n c]).run Tryz.prog W=.ok (.tuple #[]) W'/\DO W' g (List.replicate n 0++a.drop n)/\W.grownBy W' (some g):=by
 rcases Ca n with b|b
 . subst b;refine⟨W,?_,?_,YZ W _⟩
   . simp[Builtin.clear_,run_underlying Tryz.underlying61]
   . rw[List.replicate_zero,At,AQ];exact h
 . have d:=Lib.run_clear_slice (P:=Tryz.prog) W 61 156 ty (E C 0) Tryz.underlying61 (λw=>by kernel_rfl) rfl rfl g 0 n c b
    (λj i=>by rw[A9,h.cell Z];rfl) λj _=>h.frozen _
   have e:(List.replicate n (Value.int C 0))=cellsOf C (List.replicate n 0):=by simp[cellsOf]
   rw[e]at d;have f:=Of (List.replicate n 0) 0 W a h (by rw[Au];omega);rw[CU,At,Au,A9]at f;exact⟨_,d,f,Og _ _ _⟩
theorem MQ(B:Nat):∀(D:List Nat) (j d:Nat),j<D.length->val B (D.set j d)+B^j*D[j]?.getD 0=val B D+B^j*d
 |[],_,_,h=>by cases h
 |x::D,0,d,_=>by simp[val];omega
 |x::D,j+1,d,h=>by
  have a:=MQ B D j d (by simpa using h);simp only[Ac,val,Ah,AY];have e:B*val B (D.set j d)+B*(B^j*D[j]?.getD 0)=B*val B D+B*(B^j*d):=by rw[<-AO,a,AO]
  have b:B^j*B*D[j]?.getD 0=B*(B^j*D[j]?.getD 0):=by rw[Av (B^j) B,AG]
  have c:B^j*B*d=B*(B^j*d):=by rw[Av (B^j) B,AG]
  omega
theorem Oi(B n:Nat):val B (List.replicate n 0)=0:=by
 induction n with
 |zero=>rfl
 |succ n a=>rw[C9,val,a];simp
def Eg(a bs:List Nat)(i:Nat)(D:List Nat):Prop:=
 D.length=a.length+bs.length/\DN Y D/\val Y D=val Y (a.take i)*val Y bs
theorem Eg.start(a bs:List Nat):Eg a bs 0 (List.replicate (a.length+bs.length) 0):=
 ⟨Au,λx b=>by rw[C3 b];unfold Y;omega,by rw[Oi];simp[val]⟩
theorem Oj{B:Nat}(c:0<B):∀ {D:List Nat},val B D=0->∀j:Nat,D[j]?.getD 0=0
 |[],_,j=>by simp
 |d::D,h,0=>by
  rw[J2]at h;show d=0;omega
 |d::D,h,j+1=>by
  rw[J2]at h;have a:B*val B D=0:=Z
  have b:val B D=0:=by
   rcases Nat.mul_eq_zero.1 a with h|h
   . omega
   . exact h
  rw[Ah];exact Oj c b j
theorem MR{B:Nat}(c:k<=D.length)(h:val B D<B^k):val B (D.drop k)=0:=by
 have e:val B D=val B (D.take k)+B^k*val B (D.drop k):=by
  have b:=val_append B (D.take k) (D.drop k);rw[Ci,Ap,CJ c]at b;exact b
 rcases Ca (val B (D.drop k))with a|a
 . exact a
 . have:=As (B^k) a;omega
theorem Eg.step(h:Eg f bs i D)(v:DN Y f)(u:DN Y bs)(y:i<f.length)(w:wd=f[i]?.getD 0)(hq:Xh D bs i wd bs.length g q):
 Eg f bs (i+1) ((DU D i bs.length q).set (i+bs.length) g):=by
 obtain⟨t,m,n⟩:=h;obtain⟨q1,q2,q3,o⟩:=hq;have p:val Y D<Y^(i+bs.length):=by
  rw[n,CE];have b:=Yv (v.take i);rw[Ap,CJ Z]at b;have c:=Yv u;rcases Ca (val Y bs)with l|l
  . rw[l,CK];exact FK (CA uo) (CA uo)
  . exact Nat.mul_lt_mul'' b c
 have d:=MR Z p;have e:(DU D i bs.length q).length=D.length:=JR q1 Z;refine⟨by rw[Cy,e];exact t,?_,?_⟩
 . intro x a;rcases List.mem_or_eq_of_mem_set a with a|a
   . rw[DU]at a;rcases C7.1 a with a|a
     . exact(m.take i) x a
     . rcases C7.1 a with a|a
       . exact q2 x a
       . exact(m.drop _) x a
   . rw[a];exact q3
 . have b:=MQ Y (DU D i bs.length q) (i+bs.length) g (by rw[e];omega);have c:(DU D i bs.length q)[i+bs.length]?.getD 0=0:=by
    rw[Gm q1 Z];have:=Oj uo d 0;rw[CX,Cn]at this;exact this
   rw[c,CK,Cn]at b;rw[b];have r:val Y (DU D i bs.length q)=val Y (D.take i)+Y^i*val Y q:=by
    rw[DU,val_append,val_append,Ap,CJ Z,d];simp
   have s:val Y D=val Y (D.take i)+Y^i*val Y ((D.drop i).take bs.length):=by
    have j:=val_append Y (D.take i) (D.drop i);rw[Ci,Ap,CJ Z]at j;have k:=val_append Y ((D.drop i).take bs.length) ((D.drop i).drop bs.length);rw[Ci,FE,d,CK,Cn]at k;rw[j,k]
   rw[Ag (Aa _)]at o;rw[r,CE,AG,Fe,<-AO,o,AO,<-Fe,<-s,n,Jv,AD,w,AG,Av (f[i]?.getD 0)]
theorem Eg.fin(h:Eg f bs f.length D)(c:f=Jg Y m)(d:bs=Jg Y n):JI D=Jg Y (m*n):=by
 obtain⟨_,b,a⟩:=h;rw[Ag (Aa _)]at a;rw[<-Yk Jf b,a,c,d,Js Jf,Js Jf]
theorem Xh.tail(h:Xh (D++f) bs i wd len g q)(e:i+len<=D.length):Xh D bs i wd len g q:=by
 obtain⟨b,c,d,a⟩:=h;refine⟨b,c,d,?_⟩;rw[List.drop_append_of_le_length Z,AN (by rw[AV];omega)]at a;exact a
theorem Ok(a:i+len<=D.length):DU (D++f) i len q=DU D i len q++f:=by
 rw[DU,DU,AN Z,List.drop_append_of_le_length a];simp
theorem Tn(g rl rc:Nat)(c:List Nat)(a:Option Addr)(la ca:Nat)(b:Option Addr)(lb cb m n:Nat)(w:World)
(f:DO w g c)(ba:DN Y c)(hz:la+lb<=c.length)(aq:la+lb<=rc)(az:rc<=9223372036854775807)(ay:la+lb<=1099511627776)
(ra:Row C w (B a la ca) (Jg Y m))(I:Row C w (B b lb cb) (Jg Y n))(am:∀p,a=some p->0<la->p.block≠g)(an:∀p,b=some p->0<lb->p.block≠g):
 Calls Tryz.prog 141 #[B (some ⟨g,0,none⟩) rl rc,B a la ca,B b lb cb] w λe K=>∃u,e=.returned u/\(UN K u (m*n)/\w.grownBy K (some g))/\(u=B none 0 0\/∃l,u=B (some ⟨g,0,none⟩) l rc)/\∃L,DO K g L/\DN Y L/\L.length=c.length:=by
 obtain⟨F,bc,bj,bi,ah⟩:=JA ra;have y:=(JA I).1;have xa:=Ju Jf m;have xb:=Ju Jf n;have P:=O λD (h:Eg (Jg Y m) (Jg Y n) (Jg Y m).length D)=>h.fin (m:=m) (n:=n) rfl rfl;have N:=O I;generalize Jg Y m=s at *;generalize Jg Y n=o at *;obtain⟨W1,av,hA1,ad⟩:=Oh 0 g (la+lb) rc c w f hz;have v:=O (Eg.start s o);rw[<-F,<-y]at v;have U:DN Y (c.drop (la+lb)):=ba.drop _;have Qn:(c.drop (la+lb)).length=c.length-(la+lb):=AV;obtain⟨X,hZ⟩:∃X,X=c.length:=⟨_,rfl⟩;rw[<-hZ]at Qn hz ⊢;generalize c.drop (la+lb)=k at *;obtain⟨M,A,R,T,x⟩:=GG ah F y am an;clear ah F y ra I hZ f am an;go_enter Tryz.func141,Tryz.ntmps141
 go_wp2;go_loopw [19] (λH wr=>∃(i:Nat) (D:List Nat),H=E .i64 i/\i<=la/\Hid (Eg s o i D)/\DO wr g (D++k)/\w.grownBy wr (some g))
  (λH _=>la-(intOf H).toNat)
 case atStart=>exact⟨0,_,rfl,AK _,v.o,hA1,ad⟩
 case round=>
  clear v hA1 ad av;obtain⟨i,D,rfl,hi,d,f,t⟩:=hrel;have Ql:=d.o.1;rw[<-A.o,<-R.o]at Ql;by_cases ak:i<la
  . obtain⟨ab,ao,rfl,ap,af⟩:=M.o i ak;have bg:wr.cell? ⟨ab,ao+i,none⟩=some (E C (s[i]?.getD 0:Nat)):=(BQ (w:=w) (t.block ab ap λe=>T.o _ rfl Z (by cases e;rfl))).trans af;have hw:=xa.getD uo i;have W:=O λr q (h:Xh D o i (s[i]?.getD 0) o.length r q)=>d.o.step xa xb (by rw[<-A.o];exact ak) rfl h;have Qo:Row C wr (B b lb cb) o:=Row.grown N.o t x.o;have z:DN Y (D++k):=d.o.2.1.append U;rw[<-R.o]at W;generalize s[i]?.getD 0=wd at *;clear af;go_wp2_with(go_at_call 163;refine(MI g i lb _ (D++k) b cb o wd _ f z (by rw[Aq];omega) Z Qo xb x.o hw).mono ?_;rintro e w5 ⟨r,q,rfl,hq,hA5,aw⟩;have V:=JR hq.1 (xs:=D++k) (ro:=i) (by rw[Aq];omega);have bf:=hA5.cell (j:=i+lb) (by rw[V,Aq];omega);have bh:=hA5.frozen (i+lb);have Q:=O hq;clear hq V)
    have S:=hA5.set (i+lb) r;rw[Ok Z,List.set_append_left _ _ (by rw[JR Q.o.1 Z];omega)]at S;exact⟨⟨i+1,(DU D i lb q).set (i+lb) r,J,Z,W.o r q (Q.o.tail Z),S,Jl (Jl t aw) (JJ _ _ _ _)⟩,by simp[intOf];omega⟩
  . obtain rfl:i=la:=Z
    have Qc:Row C wr (B (some ⟨g,0,none⟩) (i+lb) rc) D:=by
     have h1:=f.row 0 (i+lb) rc (by rw[Aq];omega) aq az ay;rwa[AQ,AN Z,Ag Z]at h1
    have Qm:=O (P.o D (by rw[<-A.o];exact d.o));have z:DN Y (D++k):=d.o.2.1.append U;clear d P M N T x;go_wp2_with(go_at_call 128;refine(KY _ _ _ D _ Qc).mono ?_;rintro e w5 ⟨u,rfl,⟨G,ae⟩,ai⟩;rw[Qm.o]at G ai;obtain⟨ua,uc,rfl⟩:=UN.form G)
    go_ret;refine⟨_,rfl,⟨G,Jl t (Yc ae _)⟩,?_,D++k,f.below ae,z,by rw[Aq];omega⟩;rcases ai with⟨e,_⟩|e
    . exact Or.inl e
    . exact Or.inr ⟨_,e⟩
theorem Eg.fing(h:Eg f bs f.length D):JI D=Jg Y (val Y f*val Y bs):=by
 obtain⟨_,b,a⟩:=h;rw[Ag (Aa _)]at a;rw[<-Yk Jf b,a]
theorem To(g rl rc:Nat)(f:List Nat)(a:Option Addr)(la ca:Nat)(b:Option Addr)(lb cb:Nat)(c d:List Nat)(w:World)(xa:DN Y c)(xb:DN Y d)
(m:DO w g f)(az:DN Y f)(hz:la+lb<=f.length)(ap:la+lb<=rc)(ay:rc<=9223372036854775807)(aw:la+lb<=1099511627776)
(ra:Row C w (B a la ca) c)(G:Row C w (B b lb cb) d)(ak:∀p,a=some p->0<la->p.block≠g)(am:∀p,b=some p->0<lb->p.block≠g):
 Calls Tryz.prog 141 #[B (some ⟨g,0,none⟩) rl rc,B a la ca,B b lb cb] w λe H=>∃u,e=.returned u/\(UN H u (val Y c*val Y d)/\w.grownBy H (some g))/\(u=B none 0 0\/∃l,u=B (some ⟨g,0,none⟩) l rc)/\∃I,DO H g I/\DN Y I/\I.length=f.length:=by
 obtain⟨z,ba,bi,bh,af⟩:=JA ra;have v:=(JA G).1;have M:=O λD (h:Eg c d c.length D)=>h.fing;have L:=O G;obtain⟨W1,aq,hA1,X⟩:=Oh 0 g (la+lb) rc f w m hz;have s:=O (Eg.start c d);rw[<-z,<-v]at s;have S:DN Y (f.drop (la+lb)):=az.drop _;have Qn:(f.drop (la+lb)).length=f.length-(la+lb):=AV;obtain⟨V,hZ⟩:∃V,V=f.length:=⟨_,rfl⟩;rw[<-hZ]at Qn hz ⊢;generalize f.drop (la+lb)=n at *;obtain⟨K,y,P,R,t⟩:=GG af z v ak am;clear af z v ra G hZ m ak am;go_enter Tryz.func141,Tryz.ntmps141
 go_wp2;go_loopw [19] (λF wr=>∃(i:Nat) (D:List Nat),F=E .i64 i/\i<=la/\Hid (Eg c d i D)/\DO wr g (D++n)/\w.grownBy wr (some g))
  (λF _=>la-(intOf F).toNat)
 case atStart=>exact⟨0,_,rfl,AK _,s.o,hA1,X⟩
 case round=>
  clear s hA1 X aq;obtain⟨i,D,rfl,hi,k,m,r⟩:=hrel;have Ql:=k.o.1;rw[<-y.o,<-P.o]at Ql;by_cases ai:i<la
  . obtain⟨W,ao,rfl,an,ae⟩:=K.o i ai;have bf:wr.cell? ⟨W,ao+i,none⟩=some (E C (c[i]?.getD 0:Nat)):=(BQ (w:=w) (r.block W an λe=>R.o _ rfl Z (by cases e;rfl))).trans ae;have hw:=xa.getD uo i;have U:=O λo q (h:Xh D d i (c[i]?.getD 0) d.length o q)=>k.o.step xa xb (by rw[<-y.o];exact ai) rfl h;have Qo:Row C wr (B b lb cb) d:=Row.grown L.o r t.o;have x:DN Y (D++n):=k.o.2.1.append S;rw[<-P.o]at U;generalize c[i]?.getD 0=wd at *;clear ae;go_wp2_with(go_at_call 163;refine(MI g i lb _ (D++n) b cb d wd _ m x (by rw[Aq];omega) Z Qo xb t.o hw).mono ?_;rintro e w5 ⟨o,q,rfl,hq,hA5,av⟩;have T:=JR hq.1 (xs:=D++n) (ro:=i) (by rw[Aq];omega);have bc:=hA5.cell (j:=i+lb) (by rw[T,Aq];omega);have bg:=hA5.frozen (i+lb);have N:=O hq;clear hq T)
    have Q:=hA5.set (i+lb) o;rw[Ok Z,List.set_append_left _ _ (by rw[JR N.o.1 Z];omega)]at Q;exact⟨⟨i+1,(DU D i lb q).set (i+lb) o,J,Z,U.o o q (N.o.tail Z),Q,Jl (Jl r av) (JJ _ _ _ _)⟩,by simp[intOf];omega⟩
  . obtain rfl:i=la:=Z
    have Qc:Row C wr (B (some ⟨g,0,none⟩) (i+lb) rc) D:=by
     have h1:=m.row 0 (i+lb) rc (by rw[Aq];omega) ap ay aw;rwa[AQ,AN Z,Ag Z]at h1
    have Qm:=O (M.o D (by rw[<-y.o];exact k.o));have x:DN Y (D++n):=k.o.2.1.append S;clear k M K L R t;go_wp2_with(go_at_call 128;refine(KY _ _ _ D _ Qc).mono ?_;rintro e w5 ⟨u,rfl,⟨A,ad⟩,ah⟩;rw[Qm.o]at A ah;obtain⟨ua,uc,rfl⟩:=UN.form A)
    go_ret;refine⟨_,rfl,⟨A,Jl r (Yc ad _)⟩,?_,D++n,m.below ad,x,by rw[Aq];omega⟩;rcases ah with⟨e,_⟩|e
    . exact Or.inl e
    . exact Or.inr ⟨_,e⟩
theorem Gq:Y=2^64:=by unfold Y;rfl
def GU(xs bs:List Nat)(ro wd i a c:Nat)(q:List Nat):Prop:=
 q.length=i/\DN Y q/\a<Y/\c<=1/\val Y q+val Y (bs.take i)*wd=val Y ((xs.drop ro).take i)+Y^i*(a+c)
theorem GU.start(xs bs:List Nat)(ro wd:Nat):GU xs bs ro wd 0 0 0 []:=⟨rfl,DN.nil _,by unfold Y;omega,Z,by simp[val]⟩
theorem GU.step(h:GU xs bs ro wd i g c q)(d a c':Nat)(j:d<Y)(l:a<Y)(f:c'<=1)(k:d+bs[i]?.getD 0*wd+g+c=xs[ro+i]?.getD 0+Y*(a+c')):GU xs bs ro wd (i+1) a c' (q++[d]):=by
 obtain⟨b,e,n,o,p⟩:=h;refine⟨by simp;omega,e.append (DN.cons j (DN.nil _)),l,f,?_⟩;rw[Xv,b,Jv,Jv,CX,AD,AY,AG,AG];have m:Y^i*d+Y^i*(bs[i]?.getD 0*wd)+Y^i*(g+c)=Y^i*(xs[ro+i]?.getD 0)+Y^i*(Y*(a+c')):=by
  rw[<-AO,<-AO,<-Fe,k,AO]
 omega
theorem Tp{y r:Nat}(a:x<Y)(b:y<Y)(f:r<Y)(e:g<Y)(d:c<=1):
 Xo x y+YP (Yl x y) g 0<Y/\F2 r (Ys (Yl x y) g 0) c<Y/\FR r (Ys (Yl x y) g 0) c<=1/\Ys (Yl x y) g 0<Y/\
 F2 r (Ys (Yl x y) g 0) c+x*y+g+c=r+Y*(Xo x y+YP (Yl x y) g 0+FR r (Ys (Yl x y) g 0) c):=by
 have hp:=OX a b;unfold Xo Yl YP Ys F2 FR;generalize x*y=p at *;unfold Y at *;split<;>omega
theorem GU.last(h:GU xs bs ro wd n g c q)(m:bs.length=n)(f:d<Y)(i:d+g+c=xs[ro+n]?.getD 0+Y*c'):
 (q++[d]).length=n+1/\DN Y (q++[d])/\val Y (q++[d])+val Y bs*wd=val Y ((xs.drop ro).take (n+1))+Y^(n+1)*c':=by
 obtain⟨a,b,k,l,e⟩:=h;refine⟨by simp;omega,b.append (DN.cons f (DN.nil _)),?_⟩;rw[Ag Z]at e;rw[Xv,a,Jv,CX,AY,AG];have j:Y^n*d+Y^n*(g+c)=Y^n*(xs[ro+n]?.getD 0)+Y^n*(Y*c'):=by
  rw[<-AO,<-Fe,i,AO]
 omega
def D8(x s:Nat):Nat:=x*2^s%Y
def D3(x s:Nat):Nat:=x/2^s
theorem It(hs:s<=64):2^s*2^(64-s)=Y:=by rw[<-CE,show s+(64-s)=64 from by omega];rfl
theorem Iu(hs:s<=64):D8 x s=x%2^(64-s)*2^s:=by
 unfold D8;rw[<-It hs,Av (2^s),Nat.mul_mod_mul_right]
theorem Tq(hs:s<=63)(j:x<Y)(g:c<2^s):c ||| D8 x s=c+D8 x s/\c+D8 x s<Y/\D3 x (64-s)<2^s/\c+D8 x s+Y*D3 x (64-s)=c+x*2^s:=by
 rw[Iu Z];have hp:=It (s:=s) Z;have i:=Cg x (2^(64-s));have d:=Cl x (A8 (64-s));unfold D3;have e:c ||| x%2^(64-s)*2^s=c+x%2^(64-s)*2^s:=by
  rw[Nat.or_comm,Av,<-Fc g,Fb]
 refine⟨e,?_,?_,?_⟩
 . have f:(x%2^(64-s)+1)*2^s<=2^(64-s)*2^s:=Am _ d;rw[AD,Ct,Av (2^(64-s)),hp]at f;omega
 . rw[A0 (A8 _),hp];exact j
 . rw[<-hp];generalize x/2^(64-s)=a at *;generalize x%2^(64-s)=b at *;generalize 2^(64-s)=E at *;generalize 2^s=F at *;rw[<-i];grind
def Hm(a:List Nat)(s i:Nat)(q:List Nat)(c:Nat):Prop:=
 q.length=i/\DN Y q/\c<2^s/\val Y q+Y^i*c=val Y (a.take i)*2^s
theorem Hm.start(a:List Nat)(s:Nat):Hm a s 0 [] 0:=⟨rfl,DN.nil _,A8 s,by simp[val]⟩
theorem Hm.step(h:Hm f s i q c)(g:d<Y)(e:c'<2^s)(j:d+Y*c'=c+f[i]?.getD 0*2^s):Hm f s (i+1) (q++[d]) c':=by
 obtain⟨a,b,l,m⟩:=h;refine⟨by simp;omega,b.append (DN.cons g (DN.nil _)),e,?_⟩;rw[Xv,a,Jv,AD,AY,AG,AG];have k:Y^i*d+Y^i*(Y*c')=Y^i*c+Y^i*(f[i]?.getD 0*2^s):=by
  rw[<-AO,j,AO]
 omega
theorem Tr{P:Nat}(hs:s<=63)(i:x<Y):
 D8 (P%2^s) (64-s) ||| D3 x s=D8 (P%2^s) (64-s)+D3 x s/\D8 (P%2^s) (64-s)+D3 x s<Y/\D8 x (64-s)=D8 ((x+Y*P)%2^s) (64-s)/\
 (x+Y*P)/2^s=D8 (P%2^s) (64-s)+D3 x s+Y*(P/2^s):=by
 have hp:=It (s:=s) Z;rw[Iu Z,Iu Z,Iu Z,show 64-(64-s)=s from by omega,Nat.mod_mod];have c:D3 x s<2^(64-s):=by
  unfold D3;rw[A0 (A8 _),Av,hp];exact i
 have d:=Cl P (A8 s);have g:=Cg P (2^s);refine⟨?_,?_,?_,?_⟩
 . rw[Av,<-Fc c]
 . have f:(P%2^s+1)*2^(64-s)<=2^s*2^(64-s):=Am _ d;rw[AD,Ct,hp]at f;omega
 . congr 1;rw[<-hp,AG,CL,Nat.mod_mod]
 . unfold D3;have e:x+Y*P=x+2^s*(P%2^s*2^(64-s)+Y*(P/2^s)):=by
    rw[<-hp];generalize P/2^s=a at *;generalize P%2^s=b at *;generalize 2^(64-s)=E at *;generalize 2^s=F at *;rw[<-g];grind
   rw[e,C5 _ _ (A8 _)];omega
theorem Ts(B:Nat)(ds:List Nat)(k:Nat)(h:k<ds.length):val B (ds.drop k)=ds[k]?.getD 0+B*val B (ds.drop (k+1)):=by
 rw[A6 h,J2,An h];rfl
def X3(R0 V n K k:Nat)(D Q:List Nat):Prop:=
 D.length=K+n/\DN Y D/\Q.length=K/\DN Y Q/\val Y D<V*Y^k/\R0=val Y D+V*val Y Q/\∀j,j<k->Q[j]?.getD 0=0
theorem X3.win(h:X3 R0 V n K (k+1) D Q)(q:k<K)(p:V<Y^n):
 val Y ((D.drop k).take (n+1))<V*Y/\val Y D=val Y (D.take k)+Y^k*val Y ((D.drop k).take (n+1))/\val Y (D.drop (k+(n+1)))=0:=by
 obtain⟨g,i,j,l,f,m,o⟩:=h;have d:val Y D<Y^(k+(n+1)):=by
  have e:Y^(k+(n+1))=Y^n*Y^(k+1):=by rw[<-CE];congr 1;omega
  rw[e];exact AJ f (Am _ Z)
 have c:=MR Z d;have a:=val_append Y (D.take k) (D.drop k);rw[Ci,Ap,CJ Z]at a;have b:=val_append Y ((D.drop k).take (n+1)) ((D.drop k).drop (n+1));rw[Ci,FE,c,CK,Cn]at b;rw[b]at a;refine⟨?_,a,c⟩;rcases AZ (val Y ((D.drop k).take (n+1))) (V*Y)with h|h
 . exact h
 . exfalso
   have:=As (Y^k) h;have e:Y^k*(V*Y)=V*Y^(k+1):=by rw[AY];grind
   omega
theorem X3.step(h:X3 R0 V n K (k+1) D Q)(u:k<K)(s:V<Y^n)(v:q.length=n+1)(hq:DN Y q)
(g:val Y q=val Y ((D.drop k).take (n+1))%V)(f:0<V):
 X3 R0 V n K k (DU D k (n+1) q) (Q.set k (val Y ((D.drop k).take (n+1))/V)):=by
 obtain⟨w,y,z⟩:=h.win u s;obtain⟨m,b,o,p,A,r,e⟩:=h;generalize F:val Y ((D.drop k).take (n+1))=W at *;have t:=Cg W V;have l:=Cl W f;have i:W/V<Y:=by rw[A0 f,Av];exact w
 have c:val Y (DU D k (n+1) q)=val Y (D.take k)+Y^k*val Y q:=by
  rw[DU,val_append,val_append,Ap,CJ Z,z];simp
 have d:=MQ Y Q k (W/V) Z;rw[e k Z,CK,Cn]at d;have H:val Y (D.take k)<Y^k:=by
  have:=Yv (b.take k);rwa[Ap,CJ Z]at this
 refine⟨by rw[JR v Z];exact m,?_,by rw[Cy];exact o,?_,?_,?_,?_⟩
 . intro x a;rw[DU]at a;rcases C7.1 a with a|a
   . exact(b.take k) x a
   . rcases C7.1 a with a|a
     . exact hq x a
     . exact(b.drop _) x a
 . intro x a;rcases List.mem_or_eq_of_mem_set a with a|a
   . exact p x a
   . rw[a];exact i
 . rw[c,g];have:=As (Y^k) (show W%V+1<=V from l);rw[AO,Fs,Av _ V]at this;omega
 . rw[c,d,g,r,y,AO];have:Y^k*W=Y^k*(W%V)+V*(Y^k*(W/V)):=by
    conv=>lhs;rw[<-t]
    grind
   omega
 . intro j G;rw[AU Z];exact e j Z
theorem X3.start(b:D.length=K+n)(c:DN Y D)(a:val Y D=R0)(d:R0<V*Y^K):X3 R0 V n K K D (List.replicate K 0):=
 ⟨b,c,Au,λx f=>by rw[C3 f];unfold Y;omega,by rw[a];exact d,by rw[Oi,CK,a,Cn],λj _=>by
  by_cases e:j<K
  . rw[List.getElem?_replicate_of_lt e];rfl
  . rw[AP (by rw[Au];omega)];rfl⟩
theorem X3.fin{b:Nat}(h:X3 R0 V n K 0 D Q)(f:R0=m*2^s)(g:V=b*2^s):JI Q=Jg Y (m/b)/\val Y D=m%b*2^s:=by
 obtain⟨j,k,l,i,a,e,o⟩:=h;rw[Nat.pow_zero,Fs]at a;have c:R0/V=val Y Q:=by rw[e,C5 _ _ Z,Ch a,A9]
 have d:R0%V=val Y D:=by rw[e,CL,Cm a]
 rw[f,g,Nat.mul_div_mul_right _ _ (A8 s)]at c;rw[f,g,Nat.mul_mod_mul_right]at d;exact⟨by rw[<-Yk Jf i,<-c],d.symm⟩
theorem Tt(g ro len cap:Nat)(xs:List Nat)(a:Option Addr)(cb:Nat)(bs:List Nat)(wd:Nat)(w:World)
(V:DO w g xs)(K:DN Y xs)(am:ro+(len+1)<=xs.length)(ah:len+1<=cap)(F:Row C w (B a len cb) bs)(X:DN Y bs)(G:∀p,a=some p->0<len->p.block≠g)(I:wd<Y):
 Calls Tryz.prog 187 #[B (some ⟨g,ro,none⟩) (len+1) cap,B a len cb,E C (wd:Nat)] w λe A=>
  ∃c q,e=.returned (E C (c:Nat))/\(c<=1/\q.length=len+1/\DN Y q/\val Y q+val Y bs*wd=val Y ((xs.drop ro).take (len+1))+Y^(len+1)*c)/\DO A g (DU xs ro (len+1) q)/\w.grownBy A (some g):=by
 obtain⟨hl,ai,af,ak,l⟩:=JA F;obtain⟨N,M,P⟩:=Dh hl l G;clear l hl G F;go_enter Tryz.func187,Tryz.ntmps187
 go_wp2;go_loopw [7,8,16] (λov U y wr=>∃(i f c:Nat) (q:List Nat),y=E .i64 i/\ov=E C (f:Nat)/\U=E C (c:Nat)/\i<=len/\f<Y/\c<=1/\Hid (GU xs bs ro wd i f c q)/\DO wr g (DU xs ro i q)/\w.grownBy wr (some g))
  (λ_ _ y _=>len-(intOf y).toNat)
 case atStart=>exact⟨0,0,0,[],rfl,rfl,rfl,AK _,by unfold Y;omega,Z,GU.start _ _ _ _,by rw[mid_zero];exact V,YZ _ _⟩
 case round=>
  obtain⟨i,f,c,q,rfl,rfl,rfl,hi,H,n,m,j,v⟩:=hrel;by_cases ad:i<len
  . obtain⟨b,off,rfl,W,l⟩:=M.o i ad;have S:=P.o _ rfl Z;have hq:=m.o.1;have ae:wr.cell? ⟨b,off+i,none⟩=some (E C (bs[i]?.getD 0:Nat)):=(BQ (w:=w) (v.block b W λe=>S (by cases e;rfl))).trans l;have Q:wr.cell? ⟨g,ro+i,none⟩=some (E C (xs[ro+i]?.getD 0:Nat)):=by rw[<-Gm hq Z];exact j.cell (by rw[JR hq Z];omega)
    have R:=j.frozen (ro+i);have D:=X.getD uo i;have u:=K.getD uo (ro+i);obtain⟨o,z,s,s4,L⟩:=Tp D I u H n;have k:=O (m.o.step _ _ _ z o s L);have t:=O (show ∀d,(DU xs ro i q).set (ro+i) d=DU xs ro (i+1) (q++[d])from λd=>Hj hq Z d);clear l hq L;generalize bs[i]?.getD 0=x at *;generalize xs[ro+i]?.getD 0=r at *;have a1:=Kc (Yl x wd) f;have T:=Kd r (Ys (Yl x wd) f 0) c n;unfold Y at o;go_wp2_with(first
     |(go_at_call 183;refine(Gn _ _ D I _).mono ?_;rintro e A ⟨rfl,rfl⟩))
    exact⟨⟨i+1,Xo x wd+YP (Yl x wd) f 0,FR r (Ys (Yl x wd) f 0) c,q++[F2 r (Ys (Yl x wd) f 0) c],J,J,rfl,Z,k.o.2.2.1,k.o.2.2.2.1,k,by rw[<-t.o];exact j.set _ _,Jl v (JJ _ _ _ _)⟩,by simp[intOf];omega⟩
  . obtain rfl:i=len:=Z
    have hq:=m.o.1;have Q:wr.cell? ⟨g,ro+i,none⟩=some (E C (xs[ro+i]?.getD 0:Nat)):=by rw[<-Gm hq Z];exact j.cell (by rw[JR hq Z];omega)
    have R:=j.frozen (ro+i);have u:=K.getD uo (ro+i);obtain⟨o,z,s⟩:=MC u H n;have k:=O (m.o.last N.o.symm o s);have t:=O (show ∀d,(DU xs ro i q).set (ro+i) d=DU xs ro (i+1) (q++[d])from λd=>Hj hq Z d);clear hq s;generalize xs[ro+i]?.getD 0=r at *;have T:=Kd r f c n;go_wp2;go_ret;exact⟨FR r f c,_,rfl,⟨z,k.o⟩,by rw[<-t.o];exact j.set _ _,Jl v (JJ _ _ _ _)⟩
