import Derived.Test.YtakpoihdghihmaaGreatDoorR10
import Derived.Test.YtakpoihdghihmaaGreatDoorR09
open Go.Value renaming slice->B,int->E
open Go.IntKind renaming u64->C
set_option maxRecDepth 100000
set_option maxHeartbeats 16000000
namespace Go.Proofs.YtakpoihdghihmaaGreatDoor
open Go.RowKit Go.Shelf
variable{D Q bs f q xs:List Nat}{K R0 V c c' d g i k len m n ro s wd x:Nat}
theorem VU{o v:Nat}(h:o<f.length):(f.set o v).take (o+1)=f.take o++[v]:=by
 rw[Cz (by rw[CJ];exact h),List.getElem_set_self,List.take_set,C7 (by rw[Al];omega)]
theorem Ph{b:Nat}:∀(c:List Nat) (o:Nat) (W:World) (a:List Nat),DJ W b a->o+c.length<=a.length->DJ (W.setCells b o (cellsOf C c)) b (a.take o++(c++a.drop (o+c.length)))
 |[],o,W,a,h,_=>by
  have e:a.take o++([]++a.drop (o+([]:List Nat).length))=a:=O
  rw[e];exact h
 |v::r,o,W,a,h,hl=>by
  rw[Ah]at hl;have d:=Ph r (o+1) (W.setCell ⟨b,o,none⟩ (E C (v:Nat))) (a.set o v) (h.set o v) (by rw[CJ];omega);rw[VU Y,List.drop_set_of_lt Y,CY]at d;have e:o+1+r.length=o+(v::r).length:=by rw[Ah];omega
  rw[e]at d;exact d
theorem Pi{b:Nat}:∀(a:List Value) (o:Nat) (W:World),W.grownBy (W.setCells b o a) (some b)
 |[],_,W=>Xe W _
 |v::r,o,W=>Jl (JT W b o v) (Pi r (o+1) _)
theorem Pj(ty:TypeId)(g n c:Nat)(a:List Nat)(W:World)(h:DJ W g a)(k:n<=a.length):
 ∃W',(Builtin.clear_ #[33] ty #[B (some ⟨g,0,none⟩) n c]).run Tryz.prog W=.ok (.tuple #[]) W'/\DJ W' g (List.replicate n 0++a.drop n)/\W.grownBy W' (some g):=by
 rcases Cg n with b|b
 . subst b;refine⟨W,?_,?_,Xe W _⟩
   . simp[Builtin.clear_,run_underlying Tryz.underlying33]
   . rw[List.replicate_zero,Ar,AX];exact h
 . have d:=Lib.run_clear_slice (P:=Tryz.prog) W 33 115 ty (E C 0) Tryz.underlying33 (λw=>by kernel_rfl) rfl rfl g 0 n c b
    (λj i=>by rw[AY,h.cell Y];rfl) λj _=>h.frozen _
   have e:(List.replicate n (Value.int C 0))=cellsOf C (List.replicate n 0):=by simp[cellsOf]
   rw[e]at d;have f:=Ph (List.replicate n 0) 0 W a h (by rw[AA];omega);rw[Fk,Ar,AA,AY]at f;exact⟨_,d,f,Pi _ _ _⟩
theorem NT(B:Nat):∀(D:List Nat) (j d:Nat),j<D.length->val B (D.set j d)+B^j*D[j]?.getD 0=val B D+B^j*d
 |[],_,_,h=>by cases h
 |x::D,0,d,_=>by simp[val];omega
 |x::D,j+1,d,h=>by
  have a:=NT B D j d (by simpa using h);simp only[List.set_cons_succ,val,Ae,A4];have e:B*val B (D.set j d)+B*(B^j*D[j]?.getD 0)=B*val B D+B*(B^j*d):=by rw[<-AN,a,AN]
  have b:B^j*B*D[j]?.getD 0=B*(B^j*D[j]?.getD 0):=by rw[At (B^j) B,AH]
  have c:B^j*B*d=B*(B^j*d):=by rw[At (B^j) B,AH]
  omega
theorem Pk(B n:Nat):val B (List.replicate n 0)=0:=by
 induction n with
 |zero=>rfl
 |succ n a=>rw[Fz,val,a];simp
def Et(a bs:List Nat)(i:Nat)(D:List Nat):Prop:=
 D.length=a.length+bs.length/\DH Z D/\val Z D=val Z (a.take i)*val Z bs
theorem Et.start(a bs:List Nat):Et a bs 0 (List.replicate (a.length+bs.length) 0):=
 ⟨AA,λx b=>by rw[C6 b];unfold Z;omega,by rw[Pk];simp[val]⟩
theorem Pl{B:Nat}(c:0<B):∀ {D:List Nat},val B D=0->∀j:Nat,D[j]?.getD 0=0
 |[],_,j=>by simp
 |d::D,h,0=>by
  rw[Yg]at h;show d=0;omega
 |d::D,h,j+1=>by
  rw[Yg]at h;have a:B*val B D=0:=Y
  have b:val B D=0:=by
   rcases Nat.mul_eq_zero.1 a with h|h
   . omega
   . exact h
  rw[Ae];exact Pl c b j
theorem NU{B:Nat}(c:k<=D.length)(h:val B D<B^k):val B (D.drop k)=0:=by
 have e:val B D=val B (D.take k)+B^k*val B (D.drop k):=by
  have b:=val_append B (D.take k) (D.drop k);rw[Ct,Al,CK c]at b;exact b
 rcases Cg (val B (D.drop k))with a|a
 . exact a
 . have:=Aq (B^k) a;omega
theorem Et.step(h:Et f bs i D)(w:DH Z f)(v:DH Z bs)(A:i<f.length)(y:wd=f[i]?.getD 0)(hq:Xy D bs i wd bs.length g q):
 Et f bs (i+1) ((DR D i bs.length q).set (i+bs.length) g):=by
 obtain⟨u,m,n⟩:=h;obtain⟨o,q2,z,p⟩:=hq;have r:val Z D<Z^(i+bs.length):=by
  rw[n,CO];have b:=YN (w.take i);rw[Al,CK Y]at b;have c:=YN v;rcases Cg (val Z bs)with l|l
  . rw[l,CG];exact FQ (CL uo) (CL uo)
  . exact Nat.mul_lt_mul'' b c
 have d:=NU Y r;have e:(DR D i bs.length q).length=D.length:=JZ o Y;refine⟨by rw[CJ,e];exact u,?_,?_⟩
 . intro x a;rcases List.mem_or_eq_of_mem_set a with a|a
   . rw[DR]at a;rcases Fd.1 a with a|a
     . exact(m.take i) x a
     . rcases Fd.1 a with a|a
       . exact q2 x a
       . exact(m.drop _) x a
   . rw[a];exact z
 . have b:=NT Z (DR D i bs.length q) (i+bs.length) g (by rw[e];omega);have c:(DR D i bs.length q)[i+bs.length]?.getD 0=0:=by
    rw[Hn o Y];have:=Pl uo d 0;rw[CW,Cj]at this;exact this
   rw[c,CG,Cj]at b;rw[b];have s:val Z (DR D i bs.length q)=val Z (D.take i)+Z^i*val Z q:=by
    rw[DR,val_append,val_append,Al,CK Y,d];simp
   have t:val Z D=val Z (D.take i)+Z^i*val Z ((D.drop i).take bs.length):=by
    have j:=val_append Z (D.take i) (D.drop i);rw[Ct,Al,CK Y]at j;have k:=val_append Z ((D.drop i).take bs.length) ((D.drop i).drop bs.length);rw[Ct,FK,d,CG,Cj]at k;rw[j,k]
   rw[Ad (Aa _)]at p;rw[s,CO,AH,Fw,<-AN,p,AN,<-Fw,<-t,n,Jw,AJ,y,AH,At (f[i]?.getD 0)]
theorem Et.fin(h:Et f bs f.length D)(c:f=Jj Z m)(d:bs=Jj Z n):J6 D=Jj Z (m*n):=by
 obtain⟨_,b,a⟩:=h;rw[Ad (Aa _)]at a;rw[<-YE Jf b,a,c,d,JC Jf,JC Jf]
theorem Xy.tail(h:Xy (D++f) bs i wd len g q)(e:i+len<=D.length):Xy D bs i wd len g q:=by
 obtain⟨b,c,d,a⟩:=h;refine⟨b,c,d,?_⟩;rw[List.drop_append_of_le_length Y,A3 (by rw[AU];omega)]at a;exact a
theorem Pm(a:i+len<=D.length):DR (D++f) i len q=DR D i len q++f:=by
 rw[DR,DR,A3 Y,List.drop_append_of_le_length a];simp
theorem VV(g rl rc:Nat)(c:List Nat)(a:Option Addr)(la ca:Nat)(b:Option Addr)(lb cb m n:Nat)(w:World)
(f:DJ w g c)(az:DH Z c)(hz:la+lb<=c.length)(ap:la+lb<=rc)(ay:rc<=9223372036854775807)(ax:la+lb<=1099511627776)
(ra:Row C w (B a la ca) (Jj Z m))(I:Row C w (B b lb cb) (Jj Z n))(ak:∀p,a=some p->0<la->p.block≠g)(am:∀p,b=some p->0<lb->p.block≠g):
 Calls Tryz.prog 168 #[B (some ⟨g,0,none⟩) rl rc,B a la ca,B b lb cb] w λe K=>∃u,e=.returned u/\(UN K u (m*n)/\w.grownBy K (some g))/\(u=B none 0 0\/∃l,u=B (some ⟨g,0,none⟩) l rc)/\∃L,DJ K g L/\DH Z L/\L.length=c.length:=by
 obtain⟨F,ba,bi,bh,ah⟩:=JH ra;have y:=(JH I).1;have xa:=JE Jf m;have xb:=JE Jf n;have P:=Ja λD (h:Et (Jj Z m) (Jj Z n) (Jj Z m).length D)=>h.fin (m:=m) (n:=n) rfl rfl;have N:=Ja I;generalize Jj Z m=s at *;generalize Jj Z n=o at *;obtain⟨W1,aq,hA1,ad⟩:=Pj 0 g (la+lb) rc c w f hz;have v:=Ja (Et.start s o);rw[<-F,<-y]at v;have U:DH Z (c.drop (la+lb)):=az.drop _;have Qn:(c.drop (la+lb)).length=c.length-(la+lb):=AU;obtain⟨X,hZ⟩:∃X,X=c.length:=⟨_,rfl⟩;rw[<-hZ]at Qn hz ⊢;generalize c.drop (la+lb)=k at *;obtain⟨M,A,R,T,x⟩:=Gh ah F y ak am;clear ah F y ra I hZ f ak am;go_enter Tryz.func168,Tryz.ntmps168
 go_wp2;go_loopw [19] (λH wr=>∃(i:Nat) (D:List Nat),H=E .i64 i/\i<=la/\Hid (Et s o i D)/\DJ wr g (D++k)/\w.grownBy wr (some g))
  (λH _=>la-(intOf H).toNat)
 case atStart=>exact⟨0,_,rfl,AO _,v.o,hA1,ad⟩
 case round=>
  clear v hA1 ad aq;obtain⟨i,D,rfl,hi,d,f,t⟩:=hrel;have Ql:=d.o.1;rw[<-A.o,<-R.o]at Ql;by_cases aj:i<la
  . obtain⟨ab,ao,rfl,an,af⟩:=M.o i aj;have bf:wr.cell? ⟨ab,ao+i,none⟩=some (E C (s[i]?.getD 0:Nat)):=(BQ (w:=w) (t.block ab an λe=>T.o _ rfl Y (by cases e;rfl))).trans af;have hw:=xa.getD uo i;have W:=Ja λr q (h:Xy D o i (s[i]?.getD 0) o.length r q)=>d.o.step xa xb (by rw[<-A.o];exact aj) rfl h;have Qo:Row C wr (B b lb cb) o:=Row.grown N.o t x.o;have z:DH Z (D++k):=d.o.2.1.append U;rw[<-R.o]at W;generalize s[i]?.getD 0=wd at *;clear af;go_wp2_with(go_at_call 167;refine(NN g i lb _ (D++k) b cb o wd _ f z (by rw[Ao];omega) Y Qo xb x.o hw).mono ?_;rintro e w5 ⟨r,q,rfl,hq,hA5,aw⟩;have V:=JZ hq.1 (xs:=D++k) (ro:=i) (by rw[Ao];omega);have bc:=hA5.cell (j:=i+lb) (by rw[V,Ao];omega);have bg:=hA5.frozen (i+lb);have Q:=Ja hq;clear hq V)
    have S:=hA5.set (i+lb) r;rw[Pm Y,List.set_append_left _ _ (by rw[JZ Q.o.1 Y];omega)]at S;exact⟨⟨i+1,(DR D i lb q).set (i+lb) r,O,Y,W.o r q (Q.o.tail Y),S,Jl (Jl t aw) (JT _ _ _ _)⟩,by simp[intOf];omega⟩
  . obtain rfl:i=la:=Y
    have Qc:Row C wr (B (some ⟨g,0,none⟩) (i+lb) rc) D:=by
     have h1:=f.row 0 (i+lb) rc (by rw[Ao];omega) ap ay ax;rwa[AX,A3 Y,Ad Y]at h1
    have Qm:=Ja (P.o D (by rw[<-A.o];exact d.o));have z:DH Z (D++k):=d.o.2.1.append U;clear d P M N T x;go_wp2_with(go_at_call 73;refine(Mz _ _ _ D _ Qc).mono ?_;rintro e w5 ⟨u,rfl,⟨G,ae⟩,ai⟩;rw[Qm.o]at G ai;obtain⟨ua,uc,rfl⟩:=UN.form G)
    go_ret;refine⟨_,rfl,⟨G,Jl t (Yq ae _)⟩,?_,D++k,f.below ae,z,by rw[Ao];omega⟩;rcases ai with⟨e,_⟩|e
    . exact Or.inl e
    . exact Or.inr ⟨_,e⟩
theorem Et.fing(h:Et f bs f.length D):J6 D=Jj Z (val Z f*val Z bs):=by
 obtain⟨_,b,a⟩:=h;rw[Ad (Aa _)]at a;rw[<-YE Jf b,a]
theorem VW(g rl rc:Nat)(f:List Nat)(a:Option Addr)(la ca:Nat)(b:Option Addr)(lb cb:Nat)(c d:List Nat)(w:World)(xa:DH Z c)(xb:DH Z d)
(m:DJ w g f)(ay:DH Z f)(hz:la+lb<=f.length)(an:la+lb<=rc)(ax:rc<=9223372036854775807)(aw:la+lb<=1099511627776)
(ra:Row C w (B a la ca) c)(G:Row C w (B b lb cb) d)(aj:∀p,a=some p->0<la->p.block≠g)(ak:∀p,b=some p->0<lb->p.block≠g):
 Calls Tryz.prog 168 #[B (some ⟨g,0,none⟩) rl rc,B a la ca,B b lb cb] w λe H=>∃u,e=.returned u/\(UN H u (val Z c*val Z d)/\w.grownBy H (some g))/\(u=B none 0 0\/∃l,u=B (some ⟨g,0,none⟩) l rc)/\∃I,DJ H g I/\DH Z I/\I.length=f.length:=by
 obtain⟨z,az,bh,bg,af⟩:=JH ra;have v:=(JH G).1;have M:=Ja λD (h:Et c d c.length D)=>h.fing;have L:=Ja G;obtain⟨W1,ap,hA1,X⟩:=Pj 0 g (la+lb) rc f w m hz;have s:=Ja (Et.start c d);rw[<-z,<-v]at s;have S:DH Z (f.drop (la+lb)):=ay.drop _;have Qn:(f.drop (la+lb)).length=f.length-(la+lb):=AU;obtain⟨V,hZ⟩:∃V,V=f.length:=⟨_,rfl⟩;rw[<-hZ]at Qn hz ⊢;generalize f.drop (la+lb)=n at *;obtain⟨K,y,P,R,t⟩:=Gh af z v aj ak;clear af z v ra G hZ m aj ak;go_enter Tryz.func168,Tryz.ntmps168
 go_wp2;go_loopw [19] (λF wr=>∃(i:Nat) (D:List Nat),F=E .i64 i/\i<=la/\Hid (Et c d i D)/\DJ wr g (D++n)/\w.grownBy wr (some g))
  (λF _=>la-(intOf F).toNat)
 case atStart=>exact⟨0,_,rfl,AO _,s.o,hA1,X⟩
 case round=>
  clear s hA1 X ap;obtain⟨i,D,rfl,hi,k,m,r⟩:=hrel;have Ql:=k.o.1;rw[<-y.o,<-P.o]at Ql;by_cases ai:i<la
  . obtain⟨W,ao,rfl,am,ae⟩:=K.o i ai;have bc:wr.cell? ⟨W,ao+i,none⟩=some (E C (c[i]?.getD 0:Nat)):=(BQ (w:=w) (r.block W am λe=>R.o _ rfl Y (by cases e;rfl))).trans ae;have hw:=xa.getD uo i;have U:=Ja λo q (h:Xy D d i (c[i]?.getD 0) d.length o q)=>k.o.step xa xb (by rw[<-y.o];exact ai) rfl h;have Qo:Row C wr (B b lb cb) d:=Row.grown L.o r t.o;have x:DH Z (D++n):=k.o.2.1.append S;rw[<-P.o]at U;generalize c[i]?.getD 0=wd at *;clear ae;go_wp2_with(go_at_call 167;refine(NN g i lb _ (D++n) b cb d wd _ m x (by rw[Ao];omega) Y Qo xb t.o hw).mono ?_;rintro e w5 ⟨o,q,rfl,hq,hA5,aq⟩;have T:=JZ hq.1 (xs:=D++n) (ro:=i) (by rw[Ao];omega);have ba:=hA5.cell (j:=i+lb) (by rw[T,Ao];omega);have bf:=hA5.frozen (i+lb);have N:=Ja hq;clear hq T)
    have Q:=hA5.set (i+lb) o;rw[Pm Y,List.set_append_left _ _ (by rw[JZ N.o.1 Y];omega)]at Q;exact⟨⟨i+1,(DR D i lb q).set (i+lb) o,O,Y,U.o o q (N.o.tail Y),Q,Jl (Jl r aq) (JT _ _ _ _)⟩,by simp[intOf];omega⟩
  . obtain rfl:i=la:=Y
    have Qc:Row C wr (B (some ⟨g,0,none⟩) (i+lb) rc) D:=by
     have h1:=m.row 0 (i+lb) rc (by rw[Ao];omega) an ax aw;rwa[AX,A3 Y,Ad Y]at h1
    have Qm:=Ja (M.o D (by rw[<-y.o];exact k.o));have x:DH Z (D++n):=k.o.2.1.append S;clear k M K L R t;go_wp2_with(go_at_call 73;refine(Mz _ _ _ D _ Qc).mono ?_;rintro e w5 ⟨u,rfl,⟨A,ad⟩,ah⟩;rw[Qm.o]at A ah;obtain⟨ua,uc,rfl⟩:=UN.form A)
    go_ret;refine⟨_,rfl,⟨A,Jl r (Yq ad _)⟩,?_,D++n,m.below ad,x,by rw[Ao];omega⟩;rcases ah with⟨e,_⟩|e
    . exact Or.inl e
    . exact Or.inr ⟨_,e⟩
theorem Hq:Z=2^64:=by unfold Z;rfl
def Ha(xs bs:List Nat)(ro wd i a c:Nat)(q:List Nat):Prop:=
 q.length=i/\DH Z q/\a<Z/\c<=1/\val Z q+val Z (bs.take i)*wd=val Z ((xs.drop ro).take i)+Z^i*(a+c)
theorem Ha.start(xs bs:List Nat)(ro wd:Nat):Ha xs bs ro wd 0 0 0 []:=⟨rfl,DH.nil _,by unfold Z;omega,Y,by simp[val]⟩
theorem Ha.step(h:Ha xs bs ro wd i g c q)(d a c':Nat)(j:d<Z)(l:a<Z)(f:c'<=1)(k:d+bs[i]?.getD 0*wd+g+c=xs[ro+i]?.getD 0+Z*(a+c')):Ha xs bs ro wd (i+1) a c' (q++[d]):=by
 obtain⟨b,e,n,o,p⟩:=h;refine⟨by simp;omega,e.append (DH.cons j (DH.nil _)),l,f,?_⟩;rw[XO,b,Jw,Jw,CW,AJ,A4,AH,AH];have m:Z^i*d+Z^i*(bs[i]?.getD 0*wd)+Z^i*(g+c)=Z^i*(xs[ro+i]?.getD 0)+Z^i*(Z*(a+c')):=by
  rw[<-AN,<-AN,<-Fw,k,AN]
 omega
theorem VZ{y r:Nat}(a:x<Z)(b:y<Z)(f:r<Z)(e:g<Z)(d:c<=1):
 XE x y+Y8 (Yt x y) g 0<Z/\GM r (YC (Yt x y) g 0) c<Z/\F6 r (YC (Yt x y) g 0) c<=1/\YC (Yt x y) g 0<Z/\
 GM r (YC (Yt x y) g 0) c+x*y+g+c=r+Z*(XE x y+Y8 (Yt x y) g 0+F6 r (YC (Yt x y) g 0) c):=by
 have hp:=Pb a b;unfold XE Yt Y8 YC GM F6;generalize x*y=p at *;unfold Z at *;split<;>omega
theorem Ha.last(h:Ha xs bs ro wd n g c q)(m:bs.length=n)(f:d<Z)(i:d+g+c=xs[ro+n]?.getD 0+Z*c'):
 (q++[d]).length=n+1/\DH Z (q++[d])/\val Z (q++[d])+val Z bs*wd=val Z ((xs.drop ro).take (n+1))+Z^(n+1)*c':=by
 obtain⟨a,b,k,l,e⟩:=h;refine⟨by simp;omega,b.append (DH.cons f (DH.nil _)),?_⟩;rw[Ad Y]at e;rw[XO,a,Jw,CW,A4,AH];have j:Z^n*d+Z^n*(g+c)=Z^n*(xs[ro+n]?.getD 0)+Z^n*(Z*c'):=by
  rw[<-AN,<-Fw,i,AN]
 omega
def EB(x s:Nat):Nat:=x*2^s%Z
def Dy(x s:Nat):Nat:=x/2^s
theorem Ka(a:s<=64):2^s*2^(64-s)=Z:=by rw[<-CO,show s+(64-s)=64 from by omega];rfl
theorem Kb(a:s<=64):EB x s=x%2^(64-s)*2^s:=by
 unfold EB;rw[<-Ka a,At (2^s),Nat.mul_mod_mul_right]
theorem Va(k:s<=63)(j:x<Z)(g:c<2^s):c ||| EB x s=c+EB x s/\c+EB x s<Z/\Dy x (64-s)<2^s/\c+EB x s+Z*Dy x (64-s)=c+x*2^s:=by
 rw[Kb Y];have hp:=Ka (s:=s) Y;have i:=Ci x (2^(64-s));have d:=Cq x (Cb (64-s));unfold Dy;have e:c ||| x%2^(64-s)*2^s=c+x%2^(64-s)*2^s:=by
  rw[Nat.or_comm,At,<-Ff g,Fs]
 refine⟨e,?_,?_,?_⟩
 . have f:(x%2^(64-s)+1)*2^s<=2^(64-s)*2^s:=Ak _ d;rw[AJ,CF,At (2^(64-s)),hp]at f;omega
 . rw[A7 (Cb _),hp];exact j
 . rw[<-hp];generalize x/2^(64-s)=a at *;generalize x%2^(64-s)=b at *;generalize 2^(64-s)=E at *;generalize 2^s=F at *;rw[<-i];grind
def Ia(a:List Nat)(s i:Nat)(q:List Nat)(c:Nat):Prop:=
 q.length=i/\DH Z q/\c<2^s/\val Z q+Z^i*c=val Z (a.take i)*2^s
theorem Ia.start(a:List Nat)(s:Nat):Ia a s 0 [] 0:=⟨rfl,DH.nil _,Cb s,by simp[val]⟩
theorem Ia.step(h:Ia f s i q c)(g:d<Z)(e:c'<2^s)(j:d+Z*c'=c+f[i]?.getD 0*2^s):Ia f s (i+1) (q++[d]) c':=by
 obtain⟨a,b,l,m⟩:=h;refine⟨by simp;omega,b.append (DH.cons g (DH.nil _)),e,?_⟩;rw[XO,a,Jw,AJ,A4,AH,AH];have k:Z^i*d+Z^i*(Z*c')=Z^i*c+Z^i*(f[i]?.getD 0*2^s):=by
  rw[<-AN,j,AN]
 omega
theorem Vb{P:Nat}(j:s<=63)(i:x<Z):
 EB (P%2^s) (64-s) ||| Dy x s=EB (P%2^s) (64-s)+Dy x s/\EB (P%2^s) (64-s)+Dy x s<Z/\EB x (64-s)=EB ((x+Z*P)%2^s) (64-s)/\
 (x+Z*P)/2^s=EB (P%2^s) (64-s)+Dy x s+Z*(P/2^s):=by
 have hp:=Ka (s:=s) Y;rw[Kb Y,Kb Y,Kb Y,show 64-(64-s)=s from by omega,Nat.mod_mod];have c:Dy x s<2^(64-s):=by
  unfold Dy;rw[A7 (Cb _),At,hp];exact i
 have d:=Cq P (Cb s);have g:=Ci P (2^s);refine⟨?_,?_,?_,?_⟩
 . rw[At,<-Ff c]
 . have f:(P%2^s+1)*2^(64-s)<=2^s*2^(64-s):=Ak _ d;rw[AJ,CF,hp]at f;omega
 . congr 1;rw[<-hp,AH,CR,Nat.mod_mod]
 . unfold Dy;have e:x+Z*P=x+2^s*(P%2^s*2^(64-s)+Z*(P/2^s)):=by
    rw[<-hp];generalize P/2^s=a at *;generalize P%2^s=b at *;generalize 2^(64-s)=E at *;generalize 2^s=F at *;rw[<-g];grind
   rw[e,C8 _ _ (Cb _)];omega
theorem Vc(B:Nat)(ds:List Nat)(k:Nat)(h:k<ds.length):val B (ds.drop k)=ds[k]?.getD 0+B*val B (ds.drop (k+1)):=by
 rw[Cm h,Yg,Am h];rfl
def F8(R0 V n K k:Nat)(D Q:List Nat):Prop:=
 D.length=K+n/\DH Z D/\Q.length=K/\DH Z Q/\val Z D<V*Z^k/\R0=val Z D+V*val Z Q/\∀j,j<k->Q[j]?.getD 0=0
theorem F8.win(h:F8 R0 V n K (k+1) D Q)(q:k<K)(p:V<Z^n):
 val Z ((D.drop k).take (n+1))<V*Z/\val Z D=val Z (D.take k)+Z^k*val Z ((D.drop k).take (n+1))/\val Z (D.drop (k+(n+1)))=0:=by
 obtain⟨g,i,j,l,f,m,o⟩:=h;have d:val Z D<Z^(k+(n+1)):=by
  have e:Z^(k+(n+1))=Z^n*Z^(k+1):=by rw[<-CO];congr 1;omega
  rw[e];exact AW f (Ak _ Y)
 have c:=NU Y d;have a:=val_append Z (D.take k) (D.drop k);rw[Ct,Al,CK Y]at a;have b:=val_append Z ((D.drop k).take (n+1)) ((D.drop k).drop (n+1));rw[Ct,FK,c,CG,Cj]at b;rw[b]at a;refine⟨?_,a,c⟩;rcases A6 (val Z ((D.drop k).take (n+1))) (V*Z)with h|h
 . exact h
 . exfalso
   have:=Aq (Z^k) h;have e:Z^k*(V*Z)=V*Z^(k+1):=by rw[A4];grind
   omega
theorem F8.step(h:F8 R0 V n K (k+1) D Q)(u:k<K)(s:V<Z^n)(v:q.length=n+1)(hq:DH Z q)
(g:val Z q=val Z ((D.drop k).take (n+1))%V)(f:0<V):
 F8 R0 V n K k (DR D k (n+1) q) (Q.set k (val Z ((D.drop k).take (n+1))/V)):=by
 obtain⟨w,y,z⟩:=h.win u s;obtain⟨m,b,o,p,A,r,e⟩:=h;generalize F:val Z ((D.drop k).take (n+1))=W at *;have t:=Ci W V;have l:=Cq W f;have i:W/V<Z:=by rw[A7 f,At];exact w
 have c:val Z (DR D k (n+1) q)=val Z (D.take k)+Z^k*val Z q:=by
  rw[DR,val_append,val_append,Al,CK Y,z];simp
 have d:=NT Z Q k (W/V) Y;rw[e k Y,CG,Cj]at d;have H:val Z (D.take k)<Z^k:=by
  have:=YN (b.take k);rwa[Al,CK Y]at this
 refine⟨by rw[JZ v Y];exact m,?_,by rw[CJ];exact o,?_,?_,?_,?_⟩
 . intro x a;rw[DR]at a;rcases Fd.1 a with a|a
   . exact(b.take k) x a
   . rcases Fd.1 a with a|a
     . exact hq x a
     . exact(b.drop _) x a
 . intro x a;rcases List.mem_or_eq_of_mem_set a with a|a
   . exact p x a
   . rw[a];exact i
 . rw[c,g];have:=Aq (Z^k) (show W%V+1<=V from l);rw[AN,Ft,At _ V]at this;omega
 . rw[c,d,g,r,y,AN];have:Z^k*W=Z^k*(W%V)+V*(Z^k*(W/V)):=by
    conv=>lhs;rw[<-t]
    grind
   omega
 . intro j G;rw[AR Y];exact e j Y
theorem F8.start(b:D.length=K+n)(c:DH Z D)(a:val Z D=R0)(d:R0<V*Z^K):F8 R0 V n K K D (List.replicate K 0):=
 ⟨b,c,AA,λx f=>by rw[C6 f];unfold Z;omega,by rw[a];exact d,by rw[Pk,CG,a,Cj],λj _=>by
  by_cases e:j<K
  . rw[List.getElem?_replicate_of_lt e];rfl
  . rw[AQ (by rw[AA];omega)];rfl⟩
theorem F8.fin{b:Nat}(h:F8 R0 V n K 0 D Q)(f:R0=m*2^s)(g:V=b*2^s):J6 Q=Jj Z (m/b)/\val Z D=m%b*2^s:=by
 obtain⟨j,k,l,i,a,e,o⟩:=h;rw[Nat.pow_zero,Ft]at a;have c:R0/V=val Z Q:=by rw[e,C8 _ _ Y,Cp a,AY]
 have d:R0%V=val Z D:=by rw[e,CR,Cx a]
 rw[f,g,Nat.mul_div_mul_right _ _ (Cb s)]at c;rw[f,g,Nat.mul_mod_mul_right]at d;exact⟨by rw[<-YE Jf i,<-c],d.symm⟩
theorem Vd(g ro len cap:Nat)(xs:List Nat)(a:Option Addr)(cb:Nat)(bs:List Nat)(wd:Nat)(w:World)
(V:DJ w g xs)(K:DH Z xs)(ak:ro+(len+1)<=xs.length)(ah:len+1<=cap)(F:Row C w (B a len cb) bs)(X:DH Z bs)(G:∀p,a=some p->0<len->p.block≠g)(I:wd<Z):
 Calls Tryz.prog 221 #[B (some ⟨g,ro,none⟩) (len+1) cap,B a len cb,E C (wd:Nat)] w λe A=>
  ∃c q,e=.returned (E C (c:Nat))/\(c<=1/\q.length=len+1/\DH Z q/\val Z q+val Z bs*wd=val Z ((xs.drop ro).take (len+1))+Z^(len+1)*c)/\DJ A g (DR xs ro (len+1) q)/\w.grownBy A (some g):=by
 obtain⟨hl,ai,af,aj,l⟩:=JH F;obtain⟨N,M,P⟩:=Df hl l G;clear l hl G F;go_enter Tryz.func221,Tryz.ntmps221
 go_wp2;go_loopw [7,8,16] (λov U y wr=>∃(i f c:Nat) (q:List Nat),y=E .i64 i/\ov=E C (f:Nat)/\U=E C (c:Nat)/\i<=len/\f<Z/\c<=1/\Hid (Ha xs bs ro wd i f c q)/\DJ wr g (DR xs ro i q)/\w.grownBy wr (some g))
  (λ_ _ y _=>len-(intOf y).toNat)
 case atStart=>exact⟨0,0,0,[],rfl,rfl,rfl,AO _,by unfold Z;omega,Y,Ha.start _ _ _ _,by rw[mid_zero];exact V,Xe _ _⟩
 case round=>
  obtain⟨i,f,c,q,rfl,rfl,rfl,hi,H,n,m,j,v⟩:=hrel;by_cases ad:i<len
  . obtain⟨b,off,rfl,W,l⟩:=M.o i ad;have S:=P.o _ rfl Y;have hq:=m.o.1;have ae:wr.cell? ⟨b,off+i,none⟩=some (E C (bs[i]?.getD 0:Nat)):=(BQ (w:=w) (v.block b W λe=>S (by cases e;rfl))).trans l;have Q:wr.cell? ⟨g,ro+i,none⟩=some (E C (xs[ro+i]?.getD 0:Nat)):=by rw[<-Hn hq Y];exact j.cell (by rw[JZ hq Y];omega)
    have R:=j.frozen (ro+i);have D:=X.getD uo i;have u:=K.getD uo (ro+i);obtain⟨o,z,s,s4,L⟩:=VZ D I u H n;have k:=Ja (m.o.step _ _ _ z o s L);have t:=Ja (show ∀d,(DR xs ro i q).set (ro+i) d=DR xs ro (i+1) (q++[d])from λd=>IX hq Y d);clear l hq L;generalize bs[i]?.getD 0=x at *;generalize xs[ro+i]?.getD 0=r at *;have a1:=LI (Yt x wd) f;have T:=LJ r (YC (Yt x wd) f 0) c n;unfold Z at o;go_wp2_with(first
     |(go_at_call 197;refine(Ho _ _ D I _).mono ?_;rintro e A ⟨rfl,rfl⟩))
    exact⟨⟨i+1,XE x wd+Y8 (Yt x wd) f 0,F6 r (YC (Yt x wd) f 0) c,q++[GM r (YC (Yt x wd) f 0) c],O,O,rfl,Y,k.o.2.2.1,k.o.2.2.2.1,k,by rw[<-t.o];exact j.set _ _,Jl v (JT _ _ _ _)⟩,by simp[intOf];omega⟩
  . obtain rfl:i=len:=Y
    have hq:=m.o.1;have Q:wr.cell? ⟨g,ro+i,none⟩=some (E C (xs[ro+i]?.getD 0:Nat)):=by rw[<-Hn hq Y];exact j.cell (by rw[JZ hq Y];omega)
    have R:=j.frozen (ro+i);have u:=K.getD uo (ro+i);obtain⟨o,z,s⟩:=NI u H n;have k:=Ja (m.o.last N.o.symm o s);have t:=Ja (show ∀d,(DR xs ro i q).set (ro+i) d=DR xs ro (i+1) (q++[d])from λd=>IX hq Y d);clear hq s;generalize xs[ro+i]?.getD 0=r at *;have T:=LJ r f c n;go_wp2;go_ret;exact⟨F6 r f c,_,rfl,⟨z,k.o⟩,by rw[<-t.o];exact j.set _ _,Jl v (JT _ _ _ _)⟩
