import Derived.Test.YtakpoihdghihmaaGreatDoorR10
import Derived.Test.YtakpoihdghihmaaGreatDoorR09
open Go.Value renaming slice->B,int->E
open Go.IntKind renaming u64->C
set_option maxRecDepth 100000
set_option maxHeartbeats 16000000
namespace Go.Proofs.YtakpoihdghihmaaGreatDoor
open Go.RowKit Go.Shelf
variable{D Q bs f q xs:List Nat}{K R0 V c c' d g i k len m n ro s wd x:Nat}
theorem VV{o v:Nat}(h:o<f.length):(f.set o v).take (o+1)=f.take o++[v]:=by
 rw[Cy (by rw[CJ];exact h),List.getElem_set_self,List.take_set,C7 (by rw[Al];omega)]
theorem Pg{b:Nat}:∀(c:List Nat) (o:Nat) (W:World) (a:List Nat),DJ W b a->o+c.length<=a.length->DJ (W.setCells b o (cellsOf C c)) b (a.take o++(c++a.drop (o+c.length)))
 |[],o,W,a,h,_=>by
  have e:a.take o++([]++a.drop (o+([]:List Nat).length))=a:=Z
  rw[e];exact h
 |v::r,o,W,a,h,hl=>by
  rw[Af]at hl;have d:=Pg r (o+1) (W.setCell ⟨b,o,none⟩ (E C (v:Nat))) (a.set o v) (h.set o v) (by rw[CJ];omega);rw[VV O,List.drop_set_of_lt O,CY]at d;have e:o+1+r.length=o+(v::r).length:=by rw[Af];omega
  rw[e]at d;exact d
theorem Ph{b:Nat}:∀(a:List Value) (o:Nat) (W:World),W.grownBy (W.setCells b o a) (some b)
 |[],_,W=>Xe W _
 |v::r,o,W=>Jl (JT W b o v) (Ph r (o+1) _)
theorem Pi(ty:TypeId)(g n c:Nat)(a:List Nat)(W:World)(h:DJ W g a)(k:n<=a.length):
 ∃W',(Builtin.clear_ #[33] ty #[B (some ⟨g,0,none⟩) n c]).run Tryz.prog W=.ok (.tuple #[]) W'/\DJ W' g (List.replicate n 0++a.drop n)/\W.grownBy W' (some g):=by
 rcases Cg n with b|b
 . subst b;refine⟨W,?_,?_,Xe W _⟩
   . simp[Builtin.clear_,run_underlying Tryz.underlying33]
   . rw[List.replicate_zero,Ar,AX];exact h
 . have d:=Lib.run_clear_slice (P:=Tryz.prog) W 33 115 ty (E C 0) Tryz.underlying33 (λw=>by kernel_rfl) rfl rfl g 0 n c b
    (λj i=>by rw[AY,h.cell O];rfl) λj _=>h.frozen _
   have e:(List.replicate n (Value.int C 0))=cellsOf C (List.replicate n 0):=by simp[cellsOf]
   rw[e]at d;have f:=Pg (List.replicate n 0) 0 W a h (by rw[AA];omega);rw[Fk,Ar,AA,AY]at f;exact⟨_,d,f,Ph _ _ _⟩
theorem NN(B:Nat):∀(D:List Nat) (j d:Nat),j<D.length->val B (D.set j d)+B^j*D[j]?.getD 0=val B D+B^j*d
 |[],_,_,h=>by cases h
 |x::D,0,d,_=>by simp[val];omega
 |x::D,j+1,d,h=>by
  have a:=NN B D j d (by simpa using h);simp only[List.set_cons_succ,val,Ag,A4];have e:B*val B (D.set j d)+B*(B^j*D[j]?.getD 0)=B*val B D+B*(B^j*d):=by rw[<-AN,a,AN]
  have b:B^j*B*D[j]?.getD 0=B*(B^j*D[j]?.getD 0):=by rw[At (B^j) B,AH]
  have c:B^j*B*d=B*(B^j*d):=by rw[At (B^j) B,AH]
  omega
theorem Pj(B n:Nat):val B (List.replicate n 0)=0:=by
 induction n with
 |zero=>rfl
 |succ n a=>rw[Fz,val,a];simp
def El(a bs:List Nat)(i:Nat)(D:List Nat):Prop:=
 D.length=a.length+bs.length/\DG Y D/\val Y D=val Y (a.take i)*val Y bs
theorem El.start(a bs:List Nat):El a bs 0 (List.replicate (a.length+bs.length) 0):=
 ⟨AA,λx b=>by rw[C6 b];unfold Y;omega,by rw[Pj];simp[val]⟩
theorem Pk{B:Nat}(c:0<B):∀ {D:List Nat},val B D=0->∀j:Nat,D[j]?.getD 0=0
 |[],_,j=>by simp
 |d::D,h,0=>by
  rw[Yg]at h;show d=0;omega
 |d::D,h,j+1=>by
  rw[Yg]at h;have a:B*val B D=0:=O
  have b:val B D=0:=by
   rcases Nat.mul_eq_zero.1 a with h|h
   . omega
   . exact h
  rw[Ag];exact Pk c b j
theorem NO{B:Nat}(c:k<=D.length)(h:val B D<B^k):val B (D.drop k)=0:=by
 have e:val B D=val B (D.take k)+B^k*val B (D.drop k):=by
  have b:=val_append B (D.take k) (D.drop k);rw[Cs,Al,CK c]at b;exact b
 rcases Cg (val B (D.drop k))with a|a
 . exact a
 . have:=Aq (B^k) a;omega
theorem El.step(h:El f bs i D)(w:DG Y f)(v:DG Y bs)(A:i<f.length)(y:wd=f[i]?.getD 0)(hq:Xv D bs i wd bs.length g q):
 El f bs (i+1) ((DP D i bs.length q).set (i+bs.length) g):=by
 obtain⟨u,m,n⟩:=h;obtain⟨o,q2,z,p⟩:=hq;have r:val Y D<Y^(i+bs.length):=by
  rw[n,CO];have b:=YM (w.take i);rw[Al,CK O]at b;have c:=YM v;rcases Cg (val Y bs)with l|l
  . rw[l,CG];exact FQ (CL uo) (CL uo)
  . exact Nat.mul_lt_mul'' b c
 have d:=NO O r;have e:(DP D i bs.length q).length=D.length:=JZ o O;refine⟨by rw[CJ,e];exact u,?_,?_⟩
 . intro x a;rcases List.mem_or_eq_of_mem_set a with a|a
   . rw[DP]at a;rcases Fd.1 a with a|a
     . exact(m.take i) x a
     . rcases Fd.1 a with a|a
       . exact q2 x a
       . exact(m.drop _) x a
   . rw[a];exact z
 . have b:=NN Y (DP D i bs.length q) (i+bs.length) g (by rw[e];omega);have c:(DP D i bs.length q)[i+bs.length]?.getD 0=0:=by
    rw[He o O];have:=Pk uo d 0;rw[CW,Cj]at this;exact this
   rw[c,CG,Cj]at b;rw[b];have s:val Y (DP D i bs.length q)=val Y (D.take i)+Y^i*val Y q:=by
    rw[DP,val_append,val_append,Al,CK O,d];simp
   have t:val Y D=val Y (D.take i)+Y^i*val Y ((D.drop i).take bs.length):=by
    have j:=val_append Y (D.take i) (D.drop i);rw[Cs,Al,CK O]at j;have k:=val_append Y ((D.drop i).take bs.length) ((D.drop i).drop bs.length);rw[Cs,FK,d,CG,Cj]at k;rw[j,k]
   rw[Ad (Aa _)]at p;rw[s,CO,AH,Fw,<-AN,p,AN,<-Fw,<-t,n,Jw,AJ,y,AH,At (f[i]?.getD 0)]
theorem El.fin(h:El f bs f.length D)(c:f=Ji Y m)(d:bs=Ji Y n):J6 D=Ji Y (m*n):=by
 obtain⟨_,b,a⟩:=h;rw[Ad (Aa _)]at a;rw[<-YD Jf b,a,c,d,JC Jf,JC Jf]
theorem Xv.tail(h:Xv (D++f) bs i wd len g q)(e:i+len<=D.length):Xv D bs i wd len g q:=by
 obtain⟨b,c,d,a⟩:=h;refine⟨b,c,d,?_⟩;rw[List.drop_append_of_le_length O,A3 (by rw[AU];omega)]at a;exact a
theorem Pl(a:i+len<=D.length):DP (D++f) i len q=DP D i len q++f:=by
 rw[DP,DP,A3 O,List.drop_append_of_le_length a];simp
theorem VW(g rl rc:Nat)(c:List Nat)(a:Option Addr)(la ca:Nat)(b:Option Addr)(lb cb m n:Nat)(w:World)
(f:DJ w g c)(az:DG Y c)(hz:la+lb<=c.length)(ap:la+lb<=rc)(ay:rc<=9223372036854775807)(ax:la+lb<=1099511627776)
(ra:Row C w (B a la ca) (Ji Y m))(I:Row C w (B b lb cb) (Ji Y n))(ak:∀p,a=some p->0<la->p.block≠g)(am:∀p,b=some p->0<lb->p.block≠g):
 Calls Tryz.prog 168 #[B (some ⟨g,0,none⟩) rl rc,B a la ca,B b lb cb] w λe K=>∃u,e=.returned u/\(UN K u (m*n)/\w.grownBy K (some g))/\(u=B none 0 0\/∃l,u=B (some ⟨g,0,none⟩) l rc)/\∃L,DJ K g L/\DG Y L/\L.length=c.length:=by
 obtain⟨F,ba,bi,bh,ah⟩:=JH ra;have y:=(JH I).1;have xa:=JE Jf m;have xb:=JE Jf n;have P:=Ja λD (h:El (Ji Y m) (Ji Y n) (Ji Y m).length D)=>h.fin (m:=m) (n:=n) rfl rfl;have N:=Ja I;generalize Ji Y m=s at *;generalize Ji Y n=o at *;obtain⟨W1,aq,hA1,ad⟩:=Pi 0 g (la+lb) rc c w f hz;have v:=Ja (El.start s o);rw[<-F,<-y]at v;have U:DG Y (c.drop (la+lb)):=az.drop _;have Qn:(c.drop (la+lb)).length=c.length-(la+lb):=AU;obtain⟨X,hZ⟩:∃X,X=c.length:=⟨_,rfl⟩;rw[<-hZ]at Qn hz ⊢;generalize c.drop (la+lb)=k at *;obtain⟨M,A,R,T,x⟩:=Gb ah F y ak am;clear ah F y ra I hZ f ak am;go_enter Tryz.func168,Tryz.ntmps168
 go_wp2;go_loopw [19] (λH wr=>∃(i:Nat) (D:List Nat),H=E .i64 i/\i<=la/\Hid (El s o i D)/\DJ wr g (D++k)/\w.grownBy wr (some g))
  (λH _=>la-(intOf H).toNat)
 case atStart=>exact⟨0,_,rfl,AO _,v.o,hA1,ad⟩
 case round=>
  clear v hA1 ad aq;obtain⟨i,D,rfl,hi,d,f,t⟩:=hrel;have Ql:=d.o.1;rw[<-A.o,<-R.o]at Ql;by_cases aj:i<la
  . obtain⟨ab,ao,rfl,an,af⟩:=M.o i aj;have bf:wr.cell? ⟨ab,ao+i,none⟩=some (E C (s[i]?.getD 0:Nat)):=(BQ (w:=w) (t.block ab an λe=>T.o _ rfl O (by cases e;rfl))).trans af;have hw:=xa.getD uo i;have W:=Ja λr q (h:Xv D o i (s[i]?.getD 0) o.length r q)=>d.o.step xa xb (by rw[<-A.o];exact aj) rfl h;have Qo:Row C wr (B b lb cb) o:=Row.grown N.o t x.o;have z:DG Y (D++k):=d.o.2.1.append U;rw[<-R.o]at W;generalize s[i]?.getD 0=wd at *;clear af;go_wp2_with(go_at_call 167;refine(NH g i lb _ (D++k) b cb o wd _ f z (by rw[Ao];omega) O Qo xb x.o hw).mono ?_;rintro e w5 ⟨r,q,rfl,hq,hA5,aw⟩;have V:=JZ hq.1 (xs:=D++k) (ro:=i) (by rw[Ao];omega);have bc:=hA5.cell (j:=i+lb) (by rw[V,Ao];omega);have bg:=hA5.frozen (i+lb);have Q:=Ja hq;clear hq V)
    have S:=hA5.set (i+lb) r;rw[Pl O,List.set_append_left _ _ (by rw[JZ Q.o.1 O];omega)]at S;exact⟨⟨i+1,(DP D i lb q).set (i+lb) r,Z,O,W.o r q (Q.o.tail O),S,Jl (Jl t aw) (JT _ _ _ _)⟩,by simp[intOf];omega⟩
  . obtain rfl:i=la:=O
    have Qc:Row C wr (B (some ⟨g,0,none⟩) (i+lb) rc) D:=by
     have h1:=f.row 0 (i+lb) rc (by rw[Ao];omega) ap ay ax;rwa[AX,A3 O,Ad O]at h1
    have Qm:=Ja (P.o D (by rw[<-A.o];exact d.o));have z:DG Y (D++k):=d.o.2.1.append U;clear d P M N T x;go_wp2_with(go_at_call 73;refine(Ms _ _ _ D _ Qc).mono ?_;rintro e w5 ⟨u,rfl,⟨G,ae⟩,ai⟩;rw[Qm.o]at G ai;obtain⟨ua,uc,rfl⟩:=UN.form G)
    go_ret;refine⟨_,rfl,⟨G,Jl t (Yp ae _)⟩,?_,D++k,f.below ae,z,by rw[Ao];omega⟩;rcases ai with⟨e,_⟩|e
    . exact Or.inl e
    . exact Or.inr ⟨_,e⟩
theorem El.fing(h:El f bs f.length D):J6 D=Ji Y (val Y f*val Y bs):=by
 obtain⟨_,b,a⟩:=h;rw[Ad (Aa _)]at a;rw[<-YD Jf b,a]
theorem VZ(g rl rc:Nat)(f:List Nat)(a:Option Addr)(la ca:Nat)(b:Option Addr)(lb cb:Nat)(c d:List Nat)(w:World)(xa:DG Y c)(xb:DG Y d)
(m:DJ w g f)(ay:DG Y f)(hz:la+lb<=f.length)(an:la+lb<=rc)(ax:rc<=9223372036854775807)(aw:la+lb<=1099511627776)
(ra:Row C w (B a la ca) c)(G:Row C w (B b lb cb) d)(aj:∀p,a=some p->0<la->p.block≠g)(ak:∀p,b=some p->0<lb->p.block≠g):
 Calls Tryz.prog 168 #[B (some ⟨g,0,none⟩) rl rc,B a la ca,B b lb cb] w λe H=>∃u,e=.returned u/\(UN H u (val Y c*val Y d)/\w.grownBy H (some g))/\(u=B none 0 0\/∃l,u=B (some ⟨g,0,none⟩) l rc)/\∃I,DJ H g I/\DG Y I/\I.length=f.length:=by
 obtain⟨z,az,bh,bg,af⟩:=JH ra;have v:=(JH G).1;have M:=Ja λD (h:El c d c.length D)=>h.fing;have L:=Ja G;obtain⟨W1,ap,hA1,X⟩:=Pi 0 g (la+lb) rc f w m hz;have s:=Ja (El.start c d);rw[<-z,<-v]at s;have S:DG Y (f.drop (la+lb)):=ay.drop _;have Qn:(f.drop (la+lb)).length=f.length-(la+lb):=AU;obtain⟨V,hZ⟩:∃V,V=f.length:=⟨_,rfl⟩;rw[<-hZ]at Qn hz ⊢;generalize f.drop (la+lb)=n at *;obtain⟨K,y,P,R,t⟩:=Gb af z v aj ak;clear af z v ra G hZ m aj ak;go_enter Tryz.func168,Tryz.ntmps168
 go_wp2;go_loopw [19] (λF wr=>∃(i:Nat) (D:List Nat),F=E .i64 i/\i<=la/\Hid (El c d i D)/\DJ wr g (D++n)/\w.grownBy wr (some g))
  (λF _=>la-(intOf F).toNat)
 case atStart=>exact⟨0,_,rfl,AO _,s.o,hA1,X⟩
 case round=>
  clear s hA1 X ap;obtain⟨i,D,rfl,hi,k,m,r⟩:=hrel;have Ql:=k.o.1;rw[<-y.o,<-P.o]at Ql;by_cases ai:i<la
  . obtain⟨W,ao,rfl,am,ae⟩:=K.o i ai;have bc:wr.cell? ⟨W,ao+i,none⟩=some (E C (c[i]?.getD 0:Nat)):=(BQ (w:=w) (r.block W am λe=>R.o _ rfl O (by cases e;rfl))).trans ae;have hw:=xa.getD uo i;have U:=Ja λo q (h:Xv D d i (c[i]?.getD 0) d.length o q)=>k.o.step xa xb (by rw[<-y.o];exact ai) rfl h;have Qo:Row C wr (B b lb cb) d:=Row.grown L.o r t.o;have x:DG Y (D++n):=k.o.2.1.append S;rw[<-P.o]at U;generalize c[i]?.getD 0=wd at *;clear ae;go_wp2_with(go_at_call 167;refine(NH g i lb _ (D++n) b cb d wd _ m x (by rw[Ao];omega) O Qo xb t.o hw).mono ?_;rintro e w5 ⟨o,q,rfl,hq,hA5,aq⟩;have T:=JZ hq.1 (xs:=D++n) (ro:=i) (by rw[Ao];omega);have ba:=hA5.cell (j:=i+lb) (by rw[T,Ao];omega);have bf:=hA5.frozen (i+lb);have N:=Ja hq;clear hq T)
    have Q:=hA5.set (i+lb) o;rw[Pl O,List.set_append_left _ _ (by rw[JZ N.o.1 O];omega)]at Q;exact⟨⟨i+1,(DP D i lb q).set (i+lb) o,Z,O,U.o o q (N.o.tail O),Q,Jl (Jl r aq) (JT _ _ _ _)⟩,by simp[intOf];omega⟩
  . obtain rfl:i=la:=O
    have Qc:Row C wr (B (some ⟨g,0,none⟩) (i+lb) rc) D:=by
     have h1:=m.row 0 (i+lb) rc (by rw[Ao];omega) an ax aw;rwa[AX,A3 O,Ad O]at h1
    have Qm:=Ja (M.o D (by rw[<-y.o];exact k.o));have x:DG Y (D++n):=k.o.2.1.append S;clear k M K L R t;go_wp2_with(go_at_call 73;refine(Ms _ _ _ D _ Qc).mono ?_;rintro e w5 ⟨u,rfl,⟨A,ad⟩,ah⟩;rw[Qm.o]at A ah;obtain⟨ua,uc,rfl⟩:=UN.form A)
    go_ret;refine⟨_,rfl,⟨A,Jl r (Yp ad _)⟩,?_,D++n,m.below ad,x,by rw[Ao];omega⟩;rcases ah with⟨e,_⟩|e
    . exact Or.inl e
    . exact Or.inr ⟨_,e⟩
theorem Hh:Y=2^64:=by unfold Y;rfl
def Gs(xs bs:List Nat)(ro wd i a c:Nat)(q:List Nat):Prop:=
 q.length=i/\DG Y q/\a<Y/\c<=1/\val Y q+val Y (bs.take i)*wd=val Y ((xs.drop ro).take i)+Y^i*(a+c)
theorem Gs.start(xs bs:List Nat)(ro wd:Nat):Gs xs bs ro wd 0 0 0 []:=⟨rfl,DG.nil _,by unfold Y;omega,O,by simp[val]⟩
theorem Gs.step(h:Gs xs bs ro wd i g c q)(d a c':Nat)(j:d<Y)(l:a<Y)(f:c'<=1)(k:d+bs[i]?.getD 0*wd+g+c=xs[ro+i]?.getD 0+Y*(a+c')):Gs xs bs ro wd (i+1) a c' (q++[d]):=by
 obtain⟨b,e,n,o,p⟩:=h;refine⟨by simp;omega,e.append (DG.cons j (DG.nil _)),l,f,?_⟩;rw[XK,b,Jw,Jw,CW,AJ,A4,AH,AH];have m:Y^i*d+Y^i*(bs[i]?.getD 0*wd)+Y^i*(g+c)=Y^i*(xs[ro+i]?.getD 0)+Y^i*(Y*(a+c')):=by
  rw[<-AN,<-AN,<-Fw,k,AN]
 omega
theorem Va{y r:Nat}(a:x<Y)(b:y<Y)(f:r<Y)(e:g<Y)(d:c<=1):
 XA x y+Y7 (Ys x y) g 0<Y/\GH r (YB (Ys x y) g 0) c<Y/\F2 r (YB (Ys x y) g 0) c<=1/\YB (Ys x y) g 0<Y/\
 GH r (YB (Ys x y) g 0) c+x*y+g+c=r+Y*(XA x y+Y7 (Ys x y) g 0+F2 r (YB (Ys x y) g 0) c):=by
 have hp:=Pa a b;unfold XA Ys Y7 YB GH F2;generalize x*y=p at *;unfold Y at *;split<;>omega
theorem Gs.last(h:Gs xs bs ro wd n g c q)(m:bs.length=n)(f:d<Y)(i:d+g+c=xs[ro+n]?.getD 0+Y*c'):
 (q++[d]).length=n+1/\DG Y (q++[d])/\val Y (q++[d])+val Y bs*wd=val Y ((xs.drop ro).take (n+1))+Y^(n+1)*c':=by
 obtain⟨a,b,k,l,e⟩:=h;refine⟨by simp;omega,b.append (DG.cons f (DG.nil _)),?_⟩;rw[Ad O]at e;rw[XK,a,Jw,CW,A4,AH];have j:Y^n*d+Y^n*(g+c)=Y^n*(xs[ro+n]?.getD 0)+Y^n*(Y*c'):=by
  rw[<-AN,<-Fw,i,AN]
 omega
def D5(x s:Nat):Nat:=x*2^s%Y
def Ds(x s:Nat):Nat:=x/2^s
theorem KY(a:s<=64):2^s*2^(64-s)=Y:=by rw[<-CO,show s+(64-s)=64 from by omega];rfl
theorem KZ(a:s<=64):D5 x s=x%2^(64-s)*2^s:=by
 unfold D5;rw[<-KY a,At (2^s),Nat.mul_mod_mul_right]
theorem Vb(k:s<=63)(j:x<Y)(g:c<2^s):c ||| D5 x s=c+D5 x s/\c+D5 x s<Y/\Ds x (64-s)<2^s/\c+D5 x s+Y*Ds x (64-s)=c+x*2^s:=by
 rw[KZ O];have hp:=KY (s:=s) O;have i:=Ci x (2^(64-s));have d:=Cp x (Cb (64-s));unfold Ds;have e:c ||| x%2^(64-s)*2^s=c+x%2^(64-s)*2^s:=by
  rw[Nat.or_comm,At,<-Ff g,Fs]
 refine⟨e,?_,?_,?_⟩
 . have f:(x%2^(64-s)+1)*2^s<=2^(64-s)*2^s:=Aj _ d;rw[AJ,CF,At (2^(64-s)),hp]at f;omega
 . rw[A7 (Cb _),hp];exact j
 . rw[<-hp];generalize x/2^(64-s)=a at *;generalize x%2^(64-s)=b at *;generalize 2^(64-s)=E at *;generalize 2^s=F at *;rw[<-i];grind
def IR(a:List Nat)(s i:Nat)(q:List Nat)(c:Nat):Prop:=
 q.length=i/\DG Y q/\c<2^s/\val Y q+Y^i*c=val Y (a.take i)*2^s
theorem IR.start(a:List Nat)(s:Nat):IR a s 0 [] 0:=⟨rfl,DG.nil _,Cb s,by simp[val]⟩
theorem IR.step(h:IR f s i q c)(g:d<Y)(e:c'<2^s)(j:d+Y*c'=c+f[i]?.getD 0*2^s):IR f s (i+1) (q++[d]) c':=by
 obtain⟨a,b,l,m⟩:=h;refine⟨by simp;omega,b.append (DG.cons g (DG.nil _)),e,?_⟩;rw[XK,a,Jw,AJ,A4,AH,AH];have k:Y^i*d+Y^i*(Y*c')=Y^i*c+Y^i*(f[i]?.getD 0*2^s):=by
  rw[<-AN,j,AN]
 omega
theorem Vc{P:Nat}(j:s<=63)(i:x<Y):
 D5 (P%2^s) (64-s) ||| Ds x s=D5 (P%2^s) (64-s)+Ds x s/\D5 (P%2^s) (64-s)+Ds x s<Y/\D5 x (64-s)=D5 ((x+Y*P)%2^s) (64-s)/\
 (x+Y*P)/2^s=D5 (P%2^s) (64-s)+Ds x s+Y*(P/2^s):=by
 have hp:=KY (s:=s) O;rw[KZ O,KZ O,KZ O,show 64-(64-s)=s from by omega,Nat.mod_mod];have c:Ds x s<2^(64-s):=by
  unfold Ds;rw[A7 (Cb _),At,hp];exact i
 have d:=Cp P (Cb s);have g:=Ci P (2^s);refine⟨?_,?_,?_,?_⟩
 . rw[At,<-Ff c]
 . have f:(P%2^s+1)*2^(64-s)<=2^s*2^(64-s):=Aj _ d;rw[AJ,CF,hp]at f;omega
 . congr 1;rw[<-hp,AH,CR,Nat.mod_mod]
 . unfold Ds;have e:x+Y*P=x+2^s*(P%2^s*2^(64-s)+Y*(P/2^s)):=by
    rw[<-hp];generalize P/2^s=a at *;generalize P%2^s=b at *;generalize 2^(64-s)=E at *;generalize 2^s=F at *;rw[<-g];grind
   rw[e,C8 _ _ (Cb _)];omega
theorem Vd(B:Nat)(ds:List Nat)(k:Nat)(h:k<ds.length):val B (ds.drop k)=ds[k]?.getD 0+B*val B (ds.drop (k+1)):=by
 rw[Cl h,Yg,Am h];rfl
def F4(R0 V n K k:Nat)(D Q:List Nat):Prop:=
 D.length=K+n/\DG Y D/\Q.length=K/\DG Y Q/\val Y D<V*Y^k/\R0=val Y D+V*val Y Q/\∀j,j<k->Q[j]?.getD 0=0
theorem F4.win(h:F4 R0 V n K (k+1) D Q)(q:k<K)(p:V<Y^n):
 val Y ((D.drop k).take (n+1))<V*Y/\val Y D=val Y (D.take k)+Y^k*val Y ((D.drop k).take (n+1))/\val Y (D.drop (k+(n+1)))=0:=by
 obtain⟨g,i,j,l,f,m,o⟩:=h;have d:val Y D<Y^(k+(n+1)):=by
  have e:Y^(k+(n+1))=Y^n*Y^(k+1):=by rw[<-CO];congr 1;omega
  rw[e];exact AW f (Aj _ O)
 have c:=NO O d;have a:=val_append Y (D.take k) (D.drop k);rw[Cs,Al,CK O]at a;have b:=val_append Y ((D.drop k).take (n+1)) ((D.drop k).drop (n+1));rw[Cs,FK,c,CG,Cj]at b;rw[b]at a;refine⟨?_,a,c⟩;rcases A6 (val Y ((D.drop k).take (n+1))) (V*Y)with h|h
 . exact h
 . exfalso
   have:=Aq (Y^k) h;have e:Y^k*(V*Y)=V*Y^(k+1):=by rw[A4];grind
   omega
theorem F4.step(h:F4 R0 V n K (k+1) D Q)(u:k<K)(s:V<Y^n)(v:q.length=n+1)(hq:DG Y q)
(g:val Y q=val Y ((D.drop k).take (n+1))%V)(f:0<V):
 F4 R0 V n K k (DP D k (n+1) q) (Q.set k (val Y ((D.drop k).take (n+1))/V)):=by
 obtain⟨w,y,z⟩:=h.win u s;obtain⟨m,b,o,p,A,r,e⟩:=h;generalize F:val Y ((D.drop k).take (n+1))=W at *;have t:=Ci W V;have l:=Cp W f;have i:W/V<Y:=by rw[A7 f,At];exact w
 have c:val Y (DP D k (n+1) q)=val Y (D.take k)+Y^k*val Y q:=by
  rw[DP,val_append,val_append,Al,CK O,z];simp
 have d:=NN Y Q k (W/V) O;rw[e k O,CG,Cj]at d;have H:val Y (D.take k)<Y^k:=by
  have:=YM (b.take k);rwa[Al,CK O]at this
 refine⟨by rw[JZ v O];exact m,?_,by rw[CJ];exact o,?_,?_,?_,?_⟩
 . intro x a;rw[DP]at a;rcases Fd.1 a with a|a
   . exact(b.take k) x a
   . rcases Fd.1 a with a|a
     . exact hq x a
     . exact(b.drop _) x a
 . intro x a;rcases List.mem_or_eq_of_mem_set a with a|a
   . exact p x a
   . rw[a];exact i
 . rw[c,g];have:=Aq (Y^k) (show W%V+1<=V from l);rw[AN,Ft,At _ V]at this;omega
 . rw[c,d,g,r,y,AN]
   have:Y^k*W=Y^k*(W%V)+V*(Y^k*(W/V)):=by
    conv=>lhs;rw[<-t]
    grind
   omega
 . intro j G;rw[AR O];exact e j O
theorem F4.start(b:D.length=K+n)(c:DG Y D)(a:val Y D=R0)(d:R0<V*Y^K):F4 R0 V n K K D (List.replicate K 0):=
 ⟨b,c,AA,λx f=>by rw[C6 f];unfold Y;omega,by rw[a];exact d,by rw[Pj,CG,a,Cj],λj _=>by
  by_cases e:j<K
  . rw[List.getElem?_replicate_of_lt e];rfl
  . rw[AQ (by rw[AA];omega)];rfl⟩
theorem F4.fin{b:Nat}(h:F4 R0 V n K 0 D Q)(f:R0=m*2^s)(g:V=b*2^s):J6 Q=Ji Y (m/b)/\val Y D=m%b*2^s:=by
 obtain⟨j,k,l,i,a,e,o⟩:=h;rw[Nat.pow_zero,Ft]at a;have c:R0/V=val Y Q:=by rw[e,C8 _ _ O,Co a,AY]
 have d:R0%V=val Y D:=by rw[e,CR,Cw a]
 rw[f,g,Nat.mul_div_mul_right _ _ (Cb s)]at c;rw[f,g,Nat.mul_mod_mul_right]at d;exact⟨by rw[<-YD Jf i,<-c],d.symm⟩
theorem Ve(g ro len cap:Nat)(xs:List Nat)(a:Option Addr)(cb:Nat)(bs:List Nat)(wd:Nat)(w:World)
(V:DJ w g xs)(K:DG Y xs)(ak:ro+(len+1)<=xs.length)(ah:len+1<=cap)(F:Row C w (B a len cb) bs)(X:DG Y bs)(G:∀p,a=some p->0<len->p.block≠g)(I:wd<Y):
 Calls Tryz.prog 221 #[B (some ⟨g,ro,none⟩) (len+1) cap,B a len cb,E C (wd:Nat)] w λe A=>
  ∃c q,e=.returned (E C (c:Nat))/\(c<=1/\q.length=len+1/\DG Y q/\val Y q+val Y bs*wd=val Y ((xs.drop ro).take (len+1))+Y^(len+1)*c)/\DJ A g (DP xs ro (len+1) q)/\w.grownBy A (some g):=by
 obtain⟨hl,ai,af,aj,l⟩:=JH F;obtain⟨N,M,P⟩:=Db hl l G;clear l hl G F;go_enter Tryz.func221,Tryz.ntmps221
 go_wp2;go_loopw [7,8,16] (λov U y wr=>∃(i f c:Nat) (q:List Nat),y=E .i64 i/\ov=E C (f:Nat)/\U=E C (c:Nat)/\i<=len/\f<Y/\c<=1/\Hid (Gs xs bs ro wd i f c q)/\DJ wr g (DP xs ro i q)/\w.grownBy wr (some g))
  (λ_ _ y _=>len-(intOf y).toNat)
 case atStart=>exact⟨0,0,0,[],rfl,rfl,rfl,AO _,by unfold Y;omega,O,Gs.start _ _ _ _,by rw[mid_zero];exact V,Xe _ _⟩
 case round=>
  obtain⟨i,f,c,q,rfl,rfl,rfl,hi,H,n,m,j,v⟩:=hrel;by_cases ad:i<len
  . obtain⟨b,off,rfl,W,l⟩:=M.o i ad;have S:=P.o _ rfl O;have hq:=m.o.1;have ae:wr.cell? ⟨b,off+i,none⟩=some (E C (bs[i]?.getD 0:Nat)):=(BQ (w:=w) (v.block b W λe=>S (by cases e;rfl))).trans l;have Q:wr.cell? ⟨g,ro+i,none⟩=some (E C (xs[ro+i]?.getD 0:Nat)):=by rw[<-He hq O];exact j.cell (by rw[JZ hq O];omega)
    have R:=j.frozen (ro+i);have D:=X.getD uo i;have u:=K.getD uo (ro+i);obtain⟨o,z,s,s4,L⟩:=Va D I u H n;have k:=Ja (m.o.step _ _ _ z o s L);have t:=Ja (show ∀d,(DP xs ro i q).set (ro+i) d=DP xs ro (i+1) (q++[d])from λd=>IM hq O d);clear l hq L;generalize bs[i]?.getD 0=x at *;generalize xs[ro+i]?.getD 0=r at *;have a1:=LB (Ys x wd) f;have T:=LC r (YB (Ys x wd) f 0) c n;unfold Y at o;go_wp2_with(first
     |(go_at_call 197;refine(Hf _ _ D I _).mono ?_;rintro e A ⟨rfl,rfl⟩))
    exact⟨⟨i+1,XA x wd+Y7 (Ys x wd) f 0,F2 r (YB (Ys x wd) f 0) c,q++[GH r (YB (Ys x wd) f 0) c],Z,Z,rfl,O,k.o.2.2.1,k.o.2.2.2.1,k,by rw[<-t.o];exact j.set _ _,Jl v (JT _ _ _ _)⟩,by simp[intOf];omega⟩
  . obtain rfl:i=len:=O
    have hq:=m.o.1;have Q:wr.cell? ⟨g,ro+i,none⟩=some (E C (xs[ro+i]?.getD 0:Nat)):=by rw[<-He hq O];exact j.cell (by rw[JZ hq O];omega)
    have R:=j.frozen (ro+i);have u:=K.getD uo (ro+i);obtain⟨o,z,s⟩:=NC u H n;have k:=Ja (m.o.last N.o.symm o s);have t:=Ja (show ∀d,(DP xs ro i q).set (ro+i) d=DP xs ro (i+1) (q++[d])from λd=>IM hq O d);clear hq s;generalize xs[ro+i]?.getD 0=r at *;have T:=LC r f c n;go_wp2;go_ret;exact⟨F2 r f c,_,rfl,⟨z,k.o⟩,by rw[<-t.o];exact j.set _ _,Jl v (JT _ _ _ _)⟩
