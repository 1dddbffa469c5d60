import Derived.Test.YteldjhhjnchdeaaGreatDoorW10
import Derived.Test.YteldjhhjnchdeaaGreatDoorW09
open Go.Value renaming slice->B,int->E
open Go.IntKind renaming u64->C
set_option maxRecDepth 100000
set_option maxHeartbeats 16000000
namespace Go.Proofs.YteldjhhjnchdeaaGreatDoor
open Go.RowKit Go.Shelf
variable{D Q bs f q xs:List Nat}{K R0 V c c' d g i k len m n ro s wd x:Nat}
theorem Tn{o v:Nat}(h:o<f.length):(f.set o v).take (o+1)=f.take o++[v]:=by
 rw[Cq (by rw[CA];exact h),List.getElem_set_self,List.take_set,C4 (by rw[Ap];omega)]
theorem Oe{b:Nat}:∀(c:List Nat) (o:Nat) (W:World) (a:List Nat),DO W b a->o+c.length<=a.length->DO (W.setCells b o (cellsOf C c)) b (a.take o++(c++a.drop (o+c.length)))
 |[],o,W,a,h,_=>by
  have e:a.take o++([]++a.drop (o+([]:List Nat).length))=a:=O
  rw[e];exact h
 |v::r,o,W,a,h,hl=>by
  rw[Ao]at hl;have d:=Oe r (o+1) (W.setCell ⟨b,o,none⟩ (E C (v:Nat))) (a.set o v) (h.set o v) (by rw[CA];omega);rw[Tn Y,List.drop_set_of_lt Y,CO]at d;have e:o+1+r.length=o+(v::r).length:=by rw[Ao];omega
  rw[e]at d;exact d
theorem Of{b:Nat}:∀(a:List Value) (o:Nat) (W:World),W.grownBy (W.setCells b o a) (some b)
 |[],_,W=>YZ W _
 |v::r,o,W=>Jl (JJ W b o v) (Of r (o+1) _)
theorem Og(ty:TypeId)(g n c:Nat)(a:List Nat)(W:World)(h:DO W g a)(k:n<=a.length):
 ∃W',(Builtin.clear_ #[61] ty #[B (some ⟨g,0,none⟩) n c]).run Tryz.prog W=.ok (.tuple #[]) W'/\DO W' g (List.replicate n 0++a.drop n)/\W.grownBy W' (some g):=by
 rcases Ca n with b|b
 . subst b;refine⟨W,?_,?_,YZ W _⟩
   . simp[Builtin.clear_,run_underlying Tryz.underlying61]
   . rw[List.replicate_zero,At,AQ];exact h
 . have d:=Lib.run_clear_slice (P:=Tryz.prog) W 61 156 ty (E C 0) Tryz.underlying61 (λw=>by kernel_rfl) rfl rfl g 0 n c b
    (λj i=>by rw[A9,h.cell Y];rfl) λj _=>h.frozen _
   have e:(List.replicate n (Value.int C 0))=cellsOf C (List.replicate n 0):=by simp[cellsOf]
   rw[e]at d;have f:=Oe (List.replicate n 0) 0 W a h (by rw[Au];omega);rw[CV,At,Au,A9]at f;exact⟨_,d,f,Of _ _ _⟩
theorem MJ(B:Nat):∀(D:List Nat) (j d:Nat),j<D.length->val B (D.set j d)+B^j*D[j]?.getD 0=val B D+B^j*d
 |[],_,_,h=>by cases h
 |x::D,0,d,_=>by simp[val];omega
 |x::D,j+1,d,h=>by
  have a:=MJ B D j d (by simpa using h);simp only[Ac,val,Ah,AY];have e:B*val B (D.set j d)+B*(B^j*D[j]?.getD 0)=B*val B D+B*(B^j*d):=by rw[<-AO,a,AO]
  have b:B^j*B*D[j]?.getD 0=B*(B^j*D[j]?.getD 0):=by rw[Av (B^j) B,AH]
  have c:B^j*B*d=B*(B^j*d):=by rw[Av (B^j) B,AH]
  omega
theorem Oh(B n:Nat):val B (List.replicate n 0)=0:=by
 induction n with
 |zero=>rfl
 |succ n a=>rw[C9,val,a];simp
def Eb(a bs:List Nat)(i:Nat)(D:List Nat):Prop:=
 D.length=a.length+bs.length/\DM J D/\val J D=val J (a.take i)*val J bs
theorem Eb.start(a bs:List Nat):Eb a bs 0 (List.replicate (a.length+bs.length) 0):=
 ⟨Au,λx b=>by rw[C3 b];unfold J;omega,by rw[Oh];simp[val]⟩
theorem Oi{B:Nat}(c:0<B):∀ {D:List Nat},val B D=0->∀j:Nat,D[j]?.getD 0=0
 |[],_,j=>by simp
 |d::D,h,0=>by
  rw[J3]at h;show d=0;omega
 |d::D,h,j+1=>by
  rw[J3]at h;have a:B*val B D=0:=Y
  have b:val B D=0:=by
   rcases Nat.mul_eq_zero.1 a with h|h
   . omega
   . exact h
  rw[Ah];exact Oi c b j
theorem MK{B:Nat}(c:k<=D.length)(h:val B D<B^k):val B (D.drop k)=0:=by
 have e:val B D=val B (D.take k)+B^k*val B (D.drop k):=by
  have b:=val_append B (D.take k) (D.drop k);rw[Ch,Ap,CK c]at b;exact b
 rcases Ca (val B (D.drop k))with a|a
 . exact a
 . have:=As (B^k) a;omega
theorem Eb.step(h:Eb f bs i D)(v:DM J f)(u:DM J bs)(y:i<f.length)(w:wd=f[i]?.getD 0)(hq:Xe D bs i wd bs.length g q):
 Eb f bs (i+1) ((DS D i bs.length q).set (i+bs.length) g):=by
 obtain⟨t,m,n⟩:=h;obtain⟨q1,q2,q3,o⟩:=hq;have p:val J D<J^(i+bs.length):=by
  rw[n,CF];have b:=Yv (v.take i);rw[Ap,CK Y]at b;have c:=Yv u;rcases Ca (val J bs)with l|l
  . rw[l,CL];exact FL (Cx uo) (Cx uo)
  . exact Nat.mul_lt_mul'' b c
 have d:=MK Y p;have e:(DS D i bs.length q).length=D.length:=JR q1 Y;refine⟨by rw[CA,e];exact t,?_,?_⟩
 . intro x a;rcases List.mem_or_eq_of_mem_set a with a|a
   . rw[DS]at a;rcases C7.1 a with a|a
     . exact(m.take i) x a
     . rcases C7.1 a with a|a
       . exact q2 x a
       . exact(m.drop _) x a
   . rw[a];exact q3
 . have b:=MJ J (DS D i bs.length q) (i+bs.length) g (by rw[e];omega);have c:(DS D i bs.length q)[i+bs.length]?.getD 0=0:=by
    rw[Gg q1 Y];have:=Oi uo d 0;rw[CY,Cn]at this;exact this
   rw[c,CL,Cn]at b;rw[b];have r:val J (DS D i bs.length q)=val J (D.take i)+J^i*val J q:=by
    rw[DS,val_append,val_append,Ap,CK Y,d];simp
   have s:val J D=val J (D.take i)+J^i*val J ((D.drop i).take bs.length):=by
    have j:=val_append J (D.take i) (D.drop i);rw[Ch,Ap,CK Y]at j;have k:=val_append J ((D.drop i).take bs.length) ((D.drop i).drop bs.length);rw[Ch,FE,d,CL,Cn]at k;rw[j,k]
   rw[Ag (Aa _)]at o;rw[r,CF,AH,Fe,<-AO,o,AO,<-Fe,<-s,n,Jv,AE,w,AH,Av (f[i]?.getD 0)]
theorem Eb.fin(h:Eb f bs f.length D)(c:f=Jg J m)(d:bs=Jg J n):JI D=Jg J (m*n):=by
 obtain⟨_,b,a⟩:=h;rw[Ag (Aa _)]at a;rw[<-Yj Jf b,a,c,d,Js Jf,Js Jf]
theorem Xe.tail(h:Xe (D++f) bs i wd len g q)(e:i+len<=D.length):Xe D bs i wd len g q:=by
 obtain⟨b,c,d,a⟩:=h;refine⟨b,c,d,?_⟩;rw[List.drop_append_of_le_length Y,AN (by rw[AV];omega)]at a;exact a
theorem Oj(a:i+len<=D.length):DS (D++f) i len q=DS D i len q++f:=by
 rw[DS,DS,AN Y,List.drop_append_of_le_length a];simp
theorem To(g rl rc:Nat)(c:List Nat)(a:Option Addr)(la ca:Nat)(b:Option Addr)(lb cb m n:Nat)(w:World)
(f:DO w g c)(ba:DM J c)(hz:la+lb<=c.length)(aq:la+lb<=rc)(az:rc<=9223372036854775807)(ay:la+lb<=1099511627776)
(ra:Row C w (B a la ca) (Jg J m))(I:Row C w (B b lb cb) (Jg J n))(am:∀p,a=some p->0<la->p.block≠g)(an:∀p,b=some p->0<lb->p.block≠g):
 Calls Tryz.prog 141 #[B (some ⟨g,0,none⟩) rl rc,B a la ca,B b lb cb] w λe K=>∃u,e=.returned u/\(UN K u (m*n)/\w.grownBy K (some g))/\(u=B none 0 0\/∃l,u=B (some ⟨g,0,none⟩) l rc)/\∃L,DO K g L/\DM J L/\L.length=c.length:=by
 obtain⟨F,bc,bj,bi,ah⟩:=JA ra;have y:=(JA I).1;have xa:=Ju Jf m;have xb:=Ju Jf n;have P:=Z λD (h:Eb (Jg J m) (Jg J n) (Jg J m).length D)=>h.fin (m:=m) (n:=n) rfl rfl;have N:=Z I;generalize Jg J m=s at *;generalize Jg J n=o at *;obtain⟨W1,av,hA1,ad⟩:=Og 0 g (la+lb) rc c w f hz;have v:=Z (Eb.start s o);rw[<-F,<-y]at v;have U:DM J (c.drop (la+lb)):=ba.drop _;have Qn:(c.drop (la+lb)).length=c.length-(la+lb):=AV;obtain⟨X,hZ⟩:∃X,X=c.length:=⟨_,rfl⟩;rw[<-hZ]at Qn hz ⊢;generalize c.drop (la+lb)=k at *;obtain⟨M,A,R,T,x⟩:=GF ah F y am an;clear ah F y ra I hZ f am an;go_enter Tryz.func141,Tryz.ntmps141
 go_wp2;go_loopw [19] (λH wr=>∃(i:Nat) (D:List Nat),H=E .i64 i/\i<=la/\Hid (Eb s o i D)/\DO wr g (D++k)/\w.grownBy wr (some g))
  (λH _=>la-(intOf H).toNat)
 case atStart=>exact⟨0,_,rfl,AK _,v.o,hA1,ad⟩
 case round=>
  clear v hA1 ad av;obtain⟨i,D,rfl,hi,d,f,t⟩:=hrel;have Ql:=d.o.1;rw[<-A.o,<-R.o]at Ql;by_cases ak:i<la
  . obtain⟨ab,ao,rfl,ap,af⟩:=M.o i ak;have bg:wr.cell? ⟨ab,ao+i,none⟩=some (E C (s[i]?.getD 0:Nat)):=(BQ (w:=w) (t.block ab ap λe=>T.o _ rfl Y (by cases e;rfl))).trans af;have hw:=xa.getD uo i;have W:=Z λr q (h:Xe D o i (s[i]?.getD 0) o.length r q)=>d.o.step xa xb (by rw[<-A.o];exact ak) rfl h;have Qo:Row C wr (B b lb cb) o:=Row.grown N.o t x.o;have z:DM J (D++k):=d.o.2.1.append U;rw[<-R.o]at W;generalize s[i]?.getD 0=wd at *;clear af;go_wp2_with(go_at_call 163;refine(MD g i lb _ (D++k) b cb o wd _ f z (by rw[Aq];omega) Y Qo xb x.o hw).mono ?_;rintro e w5 ⟨r,q,rfl,hq,hA5,aw⟩;have V:=JR hq.1 (xs:=D++k) (ro:=i) (by rw[Aq];omega);have bf:=hA5.cell (j:=i+lb) (by rw[V,Aq];omega);have bh:=hA5.frozen (i+lb);have Q:=Z hq;clear hq V)
    have S:=hA5.set (i+lb) r;rw[Oj Y,List.set_append_left _ _ (by rw[JR Q.o.1 Y];omega)]at S;exact⟨⟨i+1,(DS D i lb q).set (i+lb) r,O,Y,W.o r q (Q.o.tail Y),S,Jl (Jl t aw) (JJ _ _ _ _)⟩,by simp[intOf];omega⟩
  . obtain rfl:i=la:=Y
    have Qc:Row C wr (B (some ⟨g,0,none⟩) (i+lb) rc) D:=by
     have h1:=f.row 0 (i+lb) rc (by rw[Aq];omega) aq az ay;rwa[AQ,AN Y,Ag Y]at h1
    have Qm:=Z (P.o D (by rw[<-A.o];exact d.o));have z:DM J (D++k):=d.o.2.1.append U;clear d P M N T x;go_wp2_with(go_at_call 128;refine(KT _ _ _ D _ Qc).mono ?_;rintro e w5 ⟨u,rfl,⟨G,ae⟩,ai⟩;rw[Qm.o]at G ai;obtain⟨ua,uc,rfl⟩:=UN.form G)
    go_ret;refine⟨_,rfl,⟨G,Jl t (Yb ae _)⟩,?_,D++k,f.below ae,z,by rw[Aq];omega⟩;rcases ai with⟨e,_⟩|e
    . exact Or.inl e
    . exact Or.inr ⟨_,e⟩
theorem Eb.fing(h:Eb f bs f.length D):JI D=Jg J (val J f*val J bs):=by
 obtain⟨_,b,a⟩:=h;rw[Ag (Aa _)]at a;rw[<-Yj Jf b,a]
theorem Tp(g rl rc:Nat)(f:List Nat)(a:Option Addr)(la ca:Nat)(b:Option Addr)(lb cb:Nat)(c d:List Nat)(w:World)(xa:DM J c)(xb:DM J d)
(m:DO w g f)(az:DM J f)(hz:la+lb<=f.length)(ap:la+lb<=rc)(ay:rc<=9223372036854775807)(aw:la+lb<=1099511627776)
(ra:Row C w (B a la ca) c)(G:Row C w (B b lb cb) d)(ak:∀p,a=some p->0<la->p.block≠g)(am:∀p,b=some p->0<lb->p.block≠g):
 Calls Tryz.prog 141 #[B (some ⟨g,0,none⟩) rl rc,B a la ca,B b lb cb] w λe H=>∃u,e=.returned u/\(UN H u (val J c*val J d)/\w.grownBy H (some g))/\(u=B none 0 0\/∃l,u=B (some ⟨g,0,none⟩) l rc)/\∃I,DO H g I/\DM J I/\I.length=f.length:=by
 obtain⟨z,ba,bi,bh,af⟩:=JA ra;have v:=(JA G).1;have M:=Z λD (h:Eb c d c.length D)=>h.fing;have L:=Z G;obtain⟨W1,aq,hA1,X⟩:=Og 0 g (la+lb) rc f w m hz;have s:=Z (Eb.start c d);rw[<-z,<-v]at s;have S:DM J (f.drop (la+lb)):=az.drop _;have Qn:(f.drop (la+lb)).length=f.length-(la+lb):=AV;obtain⟨V,hZ⟩:∃V,V=f.length:=⟨_,rfl⟩;rw[<-hZ]at Qn hz ⊢;generalize f.drop (la+lb)=n at *;obtain⟨K,y,P,R,t⟩:=GF af z v ak am;clear af z v ra G hZ m ak am;go_enter Tryz.func141,Tryz.ntmps141
 go_wp2;go_loopw [19] (λF wr=>∃(i:Nat) (D:List Nat),F=E .i64 i/\i<=la/\Hid (Eb c d i D)/\DO wr g (D++n)/\w.grownBy wr (some g))
  (λF _=>la-(intOf F).toNat)
 case atStart=>exact⟨0,_,rfl,AK _,s.o,hA1,X⟩
 case round=>
  clear s hA1 X aq;obtain⟨i,D,rfl,hi,k,m,r⟩:=hrel;have Ql:=k.o.1;rw[<-y.o,<-P.o]at Ql;by_cases ai:i<la
  . obtain⟨W,ao,rfl,an,ae⟩:=K.o i ai;have bf:wr.cell? ⟨W,ao+i,none⟩=some (E C (c[i]?.getD 0:Nat)):=(BQ (w:=w) (r.block W an λe=>R.o _ rfl Y (by cases e;rfl))).trans ae;have hw:=xa.getD uo i;have U:=Z λo q (h:Xe D d i (c[i]?.getD 0) d.length o q)=>k.o.step xa xb (by rw[<-y.o];exact ai) rfl h;have Qo:Row C wr (B b lb cb) d:=Row.grown L.o r t.o;have x:DM J (D++n):=k.o.2.1.append S;rw[<-P.o]at U;generalize c[i]?.getD 0=wd at *;clear ae;go_wp2_with(go_at_call 163;refine(MD g i lb _ (D++n) b cb d wd _ m x (by rw[Aq];omega) Y Qo xb t.o hw).mono ?_;rintro e w5 ⟨o,q,rfl,hq,hA5,av⟩;have T:=JR hq.1 (xs:=D++n) (ro:=i) (by rw[Aq];omega);have bc:=hA5.cell (j:=i+lb) (by rw[T,Aq];omega);have bg:=hA5.frozen (i+lb);have N:=Z hq;clear hq T)
    have Q:=hA5.set (i+lb) o;rw[Oj Y,List.set_append_left _ _ (by rw[JR N.o.1 Y];omega)]at Q;exact⟨⟨i+1,(DS D i lb q).set (i+lb) o,O,Y,U.o o q (N.o.tail Y),Q,Jl (Jl r av) (JJ _ _ _ _)⟩,by simp[intOf];omega⟩
  . obtain rfl:i=la:=Y
    have Qc:Row C wr (B (some ⟨g,0,none⟩) (i+lb) rc) D:=by
     have h1:=m.row 0 (i+lb) rc (by rw[Aq];omega) ap ay aw;rwa[AQ,AN Y,Ag Y]at h1
    have Qm:=Z (M.o D (by rw[<-y.o];exact k.o));have x:DM J (D++n):=k.o.2.1.append S;clear k M K L R t;go_wp2_with(go_at_call 128;refine(KT _ _ _ D _ Qc).mono ?_;rintro e w5 ⟨u,rfl,⟨A,ad⟩,ah⟩;rw[Qm.o]at A ah;obtain⟨ua,uc,rfl⟩:=UN.form A)
    go_ret;refine⟨_,rfl,⟨A,Jl r (Yb ad _)⟩,?_,D++n,m.below ad,x,by rw[Aq];omega⟩;rcases ah with⟨e,_⟩|e
    . exact Or.inl e
    . exact Or.inr ⟨_,e⟩
theorem Gj:J=2^64:=by unfold J;rfl
def GN(xs bs:List Nat)(ro wd i a c:Nat)(q:List Nat):Prop:=
 q.length=i/\DM J q/\a<J/\c<=1/\val J q+val J (bs.take i)*wd=val J ((xs.drop ro).take i)+J^i*(a+c)
theorem GN.start(xs bs:List Nat)(ro wd:Nat):GN xs bs ro wd 0 0 0 []:=⟨rfl,DM.nil _,by unfold J;omega,Y,by simp[val]⟩
theorem GN.step(h:GN xs bs ro wd i g c q)(d a c':Nat)(j:d<J)(l:a<J)(f:c'<=1)(k:d+bs[i]?.getD 0*wd+g+c=xs[ro+i]?.getD 0+J*(a+c')):GN xs bs ro wd (i+1) a c' (q++[d]):=by
 obtain⟨b,e,n,o,p⟩:=h;refine⟨by simp;omega,e.append (DM.cons j (DM.nil _)),l,f,?_⟩;rw[Xs,b,Jv,Jv,CY,AE,AY,AH,AH];have m:J^i*d+J^i*(bs[i]?.getD 0*wd)+J^i*(g+c)=J^i*(xs[ro+i]?.getD 0)+J^i*(J*(a+c')):=by
  rw[<-AO,<-AO,<-Fe,k,AO]
 omega
theorem Tq{y r:Nat}(a:x<J)(b:y<J)(f:r<J)(e:g<J)(d:c<=1):
 Xk x y+YO (Yk x y) g 0<J/\FZ r (Yr (Yk x y) g 0) c<J/\FO r (Yr (Yk x y) g 0) c<=1/\Yr (Yk x y) g 0<J/\
 FZ r (Yr (Yk x y) g 0) c+x*y+g+c=r+J*(Xk x y+YO (Yk x y) g 0+FO r (Yr (Yk x y) g 0) c):=by
 have hp:=OW a b;unfold Xk Yk YO Yr FZ FO;generalize x*y=p at *;unfold J at *;split<;>omega
theorem GN.last(h:GN xs bs ro wd n g c q)(m:bs.length=n)(f:d<J)(i:d+g+c=xs[ro+n]?.getD 0+J*c'):
 (q++[d]).length=n+1/\DM J (q++[d])/\val J (q++[d])+val J bs*wd=val J ((xs.drop ro).take (n+1))+J^(n+1)*c':=by
 obtain⟨a,b,k,l,e⟩:=h;refine⟨by simp;omega,b.append (DM.cons f (DM.nil _)),?_⟩;rw[Ag Y]at e;rw[Xs,a,Jv,CY,AY,AH];have j:J^n*d+J^n*(g+c)=J^n*(xs[ro+n]?.getD 0)+J^n*(J*c'):=by
  rw[<-AO,<-Fe,i,AO]
 omega
def D5(x s:Nat):Nat:=x*2^s%J
def Dw(x s:Nat):Nat:=x/2^s
theorem Is(hs:s<=64):2^s*2^(64-s)=J:=by rw[<-CF,show s+(64-s)=64 from by omega];rfl
theorem It(hs:s<=64):D5 x s=x%2^(64-s)*2^s:=by
 unfold D5;rw[<-Is hs,Av (2^s),Nat.mul_mod_mul_right]
theorem Tr(hs:s<=63)(j:x<J)(g:c<2^s):c ||| D5 x s=c+D5 x s/\c+D5 x s<J/\Dw x (64-s)<2^s/\c+D5 x s+J*Dw x (64-s)=c+x*2^s:=by
 rw[It Y];have hp:=Is (s:=s) Y;have i:=Cf x (2^(64-s));have d:=Ck x (A8 (64-s));unfold Dw;have e:c ||| x%2^(64-s)*2^s=c+x%2^(64-s)*2^s:=by
  rw[Nat.or_comm,Av,<-Fc g,Fb]
 refine⟨e,?_,?_,?_⟩
 . have f:(x%2^(64-s)+1)*2^s<=2^(64-s)*2^s:=Am _ d;rw[AE,Ct,Av (2^(64-s)),hp]at f;omega
 . rw[A0 (A8 _),hp];exact j
 . rw[<-hp];generalize x/2^(64-s)=a at *;generalize x%2^(64-s)=b at *;generalize 2^(64-s)=E at *;generalize 2^s=F at *;rw[<-i];grind
def Hj(a:List Nat)(s i:Nat)(q:List Nat)(c:Nat):Prop:=
 q.length=i/\DM J q/\c<2^s/\val J q+J^i*c=val J (a.take i)*2^s
theorem Hj.start(a:List Nat)(s:Nat):Hj a s 0 [] 0:=⟨rfl,DM.nil _,A8 s,by simp[val]⟩
theorem Hj.step(h:Hj f s i q c)(g:d<J)(e:c'<2^s)(j:d+J*c'=c+f[i]?.getD 0*2^s):Hj f s (i+1) (q++[d]) c':=by
 obtain⟨a,b,l,m⟩:=h;refine⟨by simp;omega,b.append (DM.cons g (DM.nil _)),e,?_⟩;rw[Xs,a,Jv,AE,AY,AH,AH];have k:J^i*d+J^i*(J*c')=J^i*c+J^i*(f[i]?.getD 0*2^s):=by
  rw[<-AO,j,AO]
 omega
theorem Ts{P:Nat}(hs:s<=63)(i:x<J):
 D5 (P%2^s) (64-s) ||| Dw x s=D5 (P%2^s) (64-s)+Dw x s/\D5 (P%2^s) (64-s)+Dw x s<J/\D5 x (64-s)=D5 ((x+J*P)%2^s) (64-s)/\
 (x+J*P)/2^s=D5 (P%2^s) (64-s)+Dw x s+J*(P/2^s):=by
 have hp:=Is (s:=s) Y;rw[It Y,It Y,It Y,show 64-(64-s)=s from by omega,Nat.mod_mod];have c:Dw x s<2^(64-s):=by
  unfold Dw;rw[A0 (A8 _),Av,hp];exact i
 have d:=Ck P (A8 s);have g:=Cf P (2^s);refine⟨?_,?_,?_,?_⟩
 . rw[Av,<-Fc c]
 . have f:(P%2^s+1)*2^(64-s)<=2^s*2^(64-s):=Am _ d;rw[AE,Ct,hp]at f;omega
 . congr 1;rw[<-hp,AH,CM,Nat.mod_mod]
 . unfold Dw;have e:x+J*P=x+2^s*(P%2^s*2^(64-s)+J*(P/2^s)):=by
    rw[<-hp];generalize P/2^s=a at *;generalize P%2^s=b at *;generalize 2^(64-s)=E at *;generalize 2^s=F at *;rw[<-g];grind
   rw[e,C5 _ _ (A8 _)];omega
theorem Tt(B:Nat)(ds:List Nat)(k:Nat)(h:k<ds.length):val B (ds.drop k)=ds[k]?.getD 0+B*val B (ds.drop (k+1)):=by
 rw[A6 h,J3,An h];rfl
def X1(R0 V n K k:Nat)(D Q:List Nat):Prop:=
 D.length=K+n/\DM J D/\Q.length=K/\DM J Q/\val J D<V*J^k/\R0=val J D+V*val J Q/\∀j,j<k->Q[j]?.getD 0=0
theorem X1.win(h:X1 R0 V n K (k+1) D Q)(q:k<K)(p:V<J^n):
 val J ((D.drop k).take (n+1))<V*J/\val J D=val J (D.take k)+J^k*val J ((D.drop k).take (n+1))/\val J (D.drop (k+(n+1)))=0:=by
 obtain⟨g,i,j,l,f,m,o⟩:=h;have d:val J D<J^(k+(n+1)):=by
  have e:J^(k+(n+1))=J^n*J^(k+1):=by rw[<-CF];congr 1;omega
  rw[e];exact AC f (Am _ Y)
 have c:=MK Y d;have a:=val_append J (D.take k) (D.drop k);rw[Ch,Ap,CK Y]at a;have b:=val_append J ((D.drop k).take (n+1)) ((D.drop k).drop (n+1));rw[Ch,FE,c,CL,Cn]at b;rw[b]at a;refine⟨?_,a,c⟩;rcases AZ (val J ((D.drop k).take (n+1))) (V*J)with h|h
 . exact h
 . exfalso
   have:=As (J^k) h;have e:J^k*(V*J)=V*J^(k+1):=by rw[AY];grind
   omega
theorem X1.step(h:X1 R0 V n K (k+1) D Q)(u:k<K)(s:V<J^n)(v:q.length=n+1)(hq:DM J q)
(g:val J q=val J ((D.drop k).take (n+1))%V)(f:0<V):
 X1 R0 V n K k (DS D k (n+1) q) (Q.set k (val J ((D.drop k).take (n+1))/V)):=by
 obtain⟨w,y,z⟩:=h.win u s;obtain⟨m,b,o,p,A,r,e⟩:=h;generalize F:val J ((D.drop k).take (n+1))=W at *;have t:=Cf W V;have l:=Ck W f;have i:W/V<J:=by rw[A0 f,Av];exact w
 have c:val J (DS D k (n+1) q)=val J (D.take k)+J^k*val J q:=by
  rw[DS,val_append,val_append,Ap,CK Y,z];simp
 have d:=MJ J Q k (W/V) Y;rw[e k Y,CL,Cn]at d;have H:val J (D.take k)<J^k:=by
  have:=Yv (b.take k);rwa[Ap,CK Y]at this
 refine⟨by rw[JR v Y];exact m,?_,by rw[CA];exact o,?_,?_,?_,?_⟩
 . intro x a;rw[DS]at a;rcases C7.1 a with a|a
   . exact(b.take k) x a
   . rcases C7.1 a with a|a
     . exact hq x a
     . exact(b.drop _) x a
 . intro x a;rcases List.mem_or_eq_of_mem_set a with a|a
   . exact p x a
   . rw[a];exact i
 . rw[c,g];have:=As (J^k) (show W%V+1<=V from l);rw[AO,Fs,Av _ V]at this;omega
 . rw[c,d,g,r,y,AO]
   have:J^k*W=J^k*(W%V)+V*(J^k*(W/V)):=by
    conv=>lhs;rw[<-t]
    grind
   omega
 . intro j G;rw[AU Y];exact e j Y
theorem X1.start(b:D.length=K+n)(c:DM J D)(a:val J D=R0)(d:R0<V*J^K):X1 R0 V n K K D (List.replicate K 0):=
 ⟨b,c,Au,λx f=>by rw[C3 f];unfold J;omega,by rw[a];exact d,by rw[Oh,CL,a,Cn],λj _=>by
  by_cases e:j<K
  . rw[List.getElem?_replicate_of_lt e];rfl
  . rw[AP (by rw[Au];omega)];rfl⟩
theorem X1.fin{b:Nat}(h:X1 R0 V n K 0 D Q)(f:R0=m*2^s)(g:V=b*2^s):JI Q=Jg J (m/b)/\val J D=m%b*2^s:=by
 obtain⟨j,k,l,i,a,e,o⟩:=h;rw[Nat.pow_zero,Fs]at a;have c:R0/V=val J Q:=by rw[e,C5 _ _ Y,Cg a,A9]
 have d:R0%V=val J D:=by rw[e,CM,Cl a]
 rw[f,g,Nat.mul_div_mul_right _ _ (A8 s)]at c;rw[f,g,Nat.mul_mod_mul_right]at d;exact⟨by rw[<-Yj Jf i,<-c],d.symm⟩
theorem Tu(g ro len cap:Nat)(xs:List Nat)(a:Option Addr)(cb:Nat)(bs:List Nat)(wd:Nat)(w:World)
(V:DO w g xs)(K:DM J xs)(am:ro+(len+1)<=xs.length)(ah:len+1<=cap)(F:Row C w (B a len cb) bs)(X:DM J bs)(G:∀p,a=some p->0<len->p.block≠g)(I:wd<J):
 Calls Tryz.prog 187 #[B (some ⟨g,ro,none⟩) (len+1) cap,B a len cb,E C (wd:Nat)] w λe A=>
  ∃c q,e=.returned (E C (c:Nat))/\(c<=1/\q.length=len+1/\DM J q/\val J q+val J bs*wd=val J ((xs.drop ro).take (len+1))+J^(len+1)*c)/\DO A g (DS xs ro (len+1) q)/\w.grownBy A (some g):=by
 obtain⟨hl,ai,af,ak,l⟩:=JA F;obtain⟨N,M,P⟩:=Dh hl l G;clear l hl G F;go_enter Tryz.func187,Tryz.ntmps187
 go_wp2;go_loopw [7,8,16] (λov U y wr=>∃(i f c:Nat) (q:List Nat),y=E .i64 i/\ov=E C (f:Nat)/\U=E C (c:Nat)/\i<=len/\f<J/\c<=1/\Hid (GN xs bs ro wd i f c q)/\DO wr g (DS xs ro i q)/\w.grownBy wr (some g))
  (λ_ _ y _=>len-(intOf y).toNat)
 case atStart=>exact⟨0,0,0,[],rfl,rfl,rfl,AK _,by unfold J;omega,Y,GN.start _ _ _ _,by rw[mid_zero];exact V,YZ _ _⟩
 case round=>
  obtain⟨i,f,c,q,rfl,rfl,rfl,hi,H,n,m,j,v⟩:=hrel;by_cases ad:i<len
  . obtain⟨b,off,rfl,W,l⟩:=M.o i ad;have S:=P.o _ rfl Y;have hq:=m.o.1;have ae:wr.cell? ⟨b,off+i,none⟩=some (E C (bs[i]?.getD 0:Nat)):=(BQ (w:=w) (v.block b W λe=>S (by cases e;rfl))).trans l;have Q:wr.cell? ⟨g,ro+i,none⟩=some (E C (xs[ro+i]?.getD 0:Nat)):=by rw[<-Gg hq Y];exact j.cell (by rw[JR hq Y];omega)
    have R:=j.frozen (ro+i);have D:=X.getD uo i;have u:=K.getD uo (ro+i);obtain⟨o,z,s,s4,L⟩:=Tq D I u H n;have k:=Z (m.o.step _ _ _ z o s L);have t:=Z (show ∀d,(DS xs ro i q).set (ro+i) d=DS xs ro (i+1) (q++[d])from λd=>Hg hq Y d);clear l hq L;generalize bs[i]?.getD 0=x at *;generalize xs[ro+i]?.getD 0=r at *;have a1:=KX (Yk x wd) f;have T:=KY r (Yr (Yk x wd) f 0) c n;unfold J at o;go_wp2_with(first
     |(go_at_call 183;refine(Gh _ _ D I _).mono ?_;rintro e A ⟨rfl,rfl⟩))
    exact⟨⟨i+1,Xk x wd+YO (Yk x wd) f 0,FO r (Yr (Yk x wd) f 0) c,q++[FZ r (Yr (Yk x wd) f 0) c],O,O,rfl,Y,k.o.2.2.1,k.o.2.2.2.1,k,by rw[<-t.o];exact j.set _ _,Jl v (JJ _ _ _ _)⟩,by simp[intOf];omega⟩
  . obtain rfl:i=len:=Y
    have hq:=m.o.1;have Q:wr.cell? ⟨g,ro+i,none⟩=some (E C (xs[ro+i]?.getD 0:Nat)):=by rw[<-Gg hq Y];exact j.cell (by rw[JR hq Y];omega)
    have R:=j.frozen (ro+i);have u:=K.getD uo (ro+i);obtain⟨o,z,s⟩:=L7 u H n;have k:=Z (m.o.last N.o.symm o s);have t:=Z (show ∀d,(DS xs ro i q).set (ro+i) d=DS xs ro (i+1) (q++[d])from λd=>Hg hq Y d);clear hq s;generalize xs[ro+i]?.getD 0=r at *;have T:=KY r f c n;go_wp2;go_ret;exact⟨FO r f c,_,rfl,⟨z,k.o⟩,by rw[<-t.o];exact j.set _ _,Jl v (JJ _ _ _ _)⟩
