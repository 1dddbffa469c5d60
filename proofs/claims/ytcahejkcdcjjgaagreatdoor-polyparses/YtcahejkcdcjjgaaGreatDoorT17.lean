import Derived.Test.YtcahejkcdcjjgaaGreatDoorT10
import Derived.Test.YtcahejkcdcjjgaaGreatDoorT09
set_option linter.all false
open Go.Value renaming slice->B,int->C
set_option maxRecDepth 99999
set_option maxHeartbeats 0
namespace Go.Proofs.YtcahejkcdcjjgaaGreatDoor
open List renaming replicate->TU
open Proofs.Tryz
open Go.RowKit Go.Shelf
variable{D Q bs f q xs:Ja}{K V c c' d g i k len m n over ro s wd x:Nat}
theorem PF{o v:Nat}(h:o<f.length):(f.set o v).take (o+1)=f.take o++[v]:=by
 grind[AL,List.take_set,Ae]
def LI{b:Nat}:∀(c:Ja) (o:Nat) (W:World) (a:Ja),DE W b a->o+c.length<=a.length->DE (W.setCells b o (cellsOf .u64 c)) b (a.take o++(c++a.drop (o+c.length)))
 |[],o,W,a,h,_=>by
  have e:a.take o++([]++a.drop (o+([]:Ja).length))=a:=C9
  rw[e];exact h
 |v::r,o,W,a,h,hl=>by
  rw[Ai]at hl;have d:=LI r (o+1) (W.setCell ⟨b,o,none⟩ (C .u64 (v:Nat))) (a.set o v) (h.set o v) DN;rw[PF Y,List.drop_set_of_lt Y,AZ]at d;have e:o+1+r.length=o+(v::r).length:=by rw[Ai];omega
  rw[e]at d;exact d
theorem LJ{b:Nat}:∀(a:List Value) (o:Nat) (W:World),W.grownBy (W.setCells b o a) (some b)
 |[],_,W=>J6 W _
 |v::r,o,W=>Jd (Ju W b o v) (LJ r (o+1) _)
theorem LK(ty:TypeId)(g n c:Nat)(a:Ja)(W:World)(h:DE W g a)(k:n<=a.length):
 ∃W',(Builtin.clear_ #[34] ty #[B (some ⟨g,0,none⟩) n c]).run Tryz.prog W=.ok (.tuple #[]) W'/\DE W' g (TU n 0++a.drop n)/\W.grownBy W' (some g):=by
 rcases AE n with b|b
 . subst b;refine⟨W,?_,?_,J6 W _⟩
   . simp[Builtin.clear_,run_underlying underlying34]
   grind
 . have d:=Lib.run_clear_slice (P:=Tryz.prog) W 34 163 ty (C .u64 0) underlying34 (λw=>by kernel_rfl) J J g 0 n c b
    (λj i=>by rw[Cq,h.cell Y];rfl) λj _=>h.frozen _
   have e:(TU n (Value.int .u64 0))=cellsOf .u64 (TU n 0):=by simp[cellsOf]
   rw[e]at d;have f:=LI (TU n 0) 0 W a h DN;grind[LJ]
theorem IZ(B:Nat):∀(D:Ja) (j d:Nat),j<D.length->val B (D.set j d)+B^j*D[j]?.getD 0=val B D+B^j*d
 |[],_,_,h=>by cases h
 |x::D,0,d,_=>by simp[val];omega
 |x::D,j+1,d,h=>by
  have a:=IZ B D j d (by simpa using h);grind[val]
def LL(B n:Nat):val B (TU n 0)=0:=by
 induction n with
 |zero=>rfl
 |succ n a=>rw[Cu,val,a];simp
def Dr(a bs:Ja)(i:Nat)(D:Ja):Prop:=
 D.length=a.length+bs.length/\DA O D/\val O D=val O (a.take i)*val O bs
theorem Dr.start(a bs:Ja):Dr a bs 0 (TU (a.length+bs.length) 0):=
 ⟨AX,λx b=>by grind[O],by rw[LL];simp[val]⟩
def LM{B:Nat}(c:0<B):∀ {D:Ja},val B D=0->∀j:Nat,D[j]?.getD 0=0
 |[],_,j=>by simp
 |d::D,h,0=>by
  rw[JQ]at h;show d=0;omega
 |d::D,h,j+1=>by
  rw[JQ]at h;have a:B*val B D=0:=Y
  have b:val B D=0:=by
   rcases Nat.mul_eq_zero.1 a with h|h
   . omega
   . exact h
  rw[AW];exact LM c b j
def XV{B:Nat}(c:k<=D.length)(h:val B D<B^k):val B (D.drop k)=0:=by
 have e:val B D=val B (D.take k)+B^k*val B (D.drop k):=by
  have b:=val_append B (D.take k) (D.drop k);rw[AP,Ae,Cv c]at b;exact b
 rcases AE (val B (D.drop k))with a|a
 . exact a
 . have:=Aq (B^k) a;omega
theorem Dr.step(h:Dr f bs i D)(r:DA O f)(o:DA O bs)(v:i<f.length)(w:wd=f[i]?.getD 0)(p:YG D bs i wd bs.length over q):
 Dr f bs (i+1) ((DJ D i bs.length q).set (i+bs.length) over):=by
 obtain⟨u,k,n⟩:=h;obtain⟨q1,q2,q3,y⟩:=p;have m:val O D<O^(i+bs.length):=by
  rw[n,Cy];have b:=JW (r.take i);rw[Ae,Cv Y]at b;have c:=JW o;rcases AE (val O bs)with j|j
  . rw[j,A9];exact C8 (C3 uo) (C3 uo)
  . exact Nat.mul_lt_mul'' b c
 have d:=XV Y m;have l:(DJ D i bs.length q).length=D.length:=JK q1 Y;refine⟨DN,?_,?_⟩
 . intro x a;rcases List.mem_or_eq_of_mem_set a with a|a
   . rw[DJ]at a;rcases Cp.1 a with a|a
     . exact(k.take i) x a
     . rcases Cp.1 a with a|a
       . exact q2 x a
       . exact(k.drop _) x a
   . rw[a];exact q3
 . have b:=IZ O (DJ D i bs.length q) (i+bs.length) over (by rw[l];omega);have c:(DJ D i bs.length q)[i+bs.length]?.getD 0=0:=by
    rw[XL q1 Y];have:=LM uo d 0;rw[List.getElem?_drop,AU]at this;exact this
   rw[c,A9,AU]at b;rw[b];have s:val O (DJ D i bs.length q)=val O (D.take i)+O^i*val O q:=by
    rw[DJ,val_append,val_append,Ae,Cv Y,d];simp
   have t:val O D=val O (D.take i)+O^i*val O ((D.drop i).take bs.length):=by
    have e:=val_append O (D.take i) (D.drop i);rw[AP,Ae,Cv Y]at e;have g:=val_append O ((D.drop i).take bs.length) ((D.drop i).drop bs.length);rw[AP,CU,d,A9,AU]at g;rw[e,g]
   grind[Jm]
theorem Dr.fin(h:Dr f bs f.length D)(c:f=Jb O m)(d:bs=Jb O n):Jq D=Jb O (m*n):=by
 obtain⟨_,a,b⟩:=h;grind[JN,Jc,Jj]
theorem YG.tail(h:YG (D++f) bs i wd len over q)(e:i+len<=D.length):YG D bs i wd len over q:=by
 obtain⟨a,b,c,d⟩:=h;refine⟨a,b,c,?_⟩;grind
theorem LN(a:i+len<=D.length):DJ (D++f) i len q=DJ D i len q++f:=by
 grind[DJ]
def PG(g rl rc:Nat)(d:Ja)(a:TS)(c ca:Nat)(b:TS)(lb F m n:Nat)(w:World)
(k:DE w g d)(bg:DA O d)(hz:c+lb<=d.length)(ay:c+lb<=rc)(bf:rc<=9223372036854775807)(bd:c+lb<=1099511627776)
(ra:Row .u64 w (B a c ca) (Jb O m))(o:Row .u64 w (B b lb F) (Jb O n))(an:∀p,a=some p->0<c->p.block≠g)(ap:∀p,b=some p->0<lb->p.block≠g):
 Calls Tryz.prog 153 #[B (some ⟨g,0,none⟩) rl rc,B a c ca,B b lb F] w λe L=>∃u,e=.returned u/\(UN L u (m*n)/\w.grownBy L (some g))/\(u=B none 0 0\/∃l,u=B (some ⟨g,0,none⟩) l rc)/\∃M,DE L g M/\DA O M/\M.length=d.length:=by
 obtain⟨G,bh,bt,bn,aj⟩:=Jn ra;have y:=(Jn o).1;have bi:=(Jn o).2.1;have bu:=(Jn o).2.2.1;have xa:=Ji Jc m;have xb:=Ji Jc n;have Q:=Z λD (h:Dr (Jb O m) (Jb O n) (Jb O m).length D)=>h.fin (m:=m) (n:=n) J J;have P:=Z o;generalize Jb O m=v at *;generalize Jb O n=r at *;obtain⟨W1,az,hA1,ae⟩:=LK 0 g (c+lb) rc d w k hz;have x:=Z (Dr.start v r);rw[<-G,<-y]at x;have U:DA O (d.drop (c+lb)):=bg.drop _;have Ql:(d.drop (c+lb)).length=d.length-(c+lb):=A6;obtain⟨ad,hZ⟩:∃ad,ad=d.length:=⟨_,J⟩;rw[<-hZ]at Ql hz ⊢;generalize d.drop (c+lb)=t at *;obtain⟨N,A,T,W,E⟩:=Ed aj G y an ap;clear aj G y ra o hZ k an ap;go_enter func153,ntmps153
 go_wp2;go_loopw [19] (λK wr=>∃(i:Nat) (D:Ja),K=C .i64 i/\i<=c/\Hid (Dr v r i D)/\DE wr g (D++t)/\w.grownBy wr (some g))
  (λK _=>c-(intOf K).toNat)
 case atStart=>exact⟨0,_,J,AO _,x.o,hA1,ae⟩
 case round=>
  clear x hA1 ae az;obtain⟨i,D,rfl,hi,f,k,s⟩:=hrel;have Qn:=f.o.1;rw[<-A.o,<-T.o]at Qn;by_cases am:i<c
  . obtain⟨ab,ao,rfl,aq,ai⟩:=N.o i am;have bk:=(BS (w:=w) (s.block ab aq λe=>W.o _ J Y (by cases e;rfl))).trans ai;have hw:=xa.getD uo i;have X:=Z λover q (h:YG D r i (v[i]?.getD 0) r.length over q)=>f.o.step xa xb (by rw[<-A.o];exact am) J h;have Qm:=Row.grown P.o s E.o;have z:=f.o.2.1.append U;rw[<-T.o]at X;generalize v[i]?.getD 0=wd at *;clear ai;go_wp2_with(go_at_call 172;refine(IR g i lb _ (D++t) b F r wd _ k z (by rw[At];omega) Y Qm xb E.o hw).mono ?_;rintro e w5 ⟨over,q,rfl,H,hA5,bc⟩;have V:=JK H.1 (xs:=D++t) (ro:=i) (by rw[At];omega);have bj:=hA5.cell (j:=i+lb) (by rw[V,At];omega);have bm:=hA5.frozen (i+lb);have R:=Z H;clear H V)
    have S:=hA5.set (i+lb) over;rw[LN Y,List.set_append_left _ _ (by rw[JK R.o.1 Y];omega)]at S;exact⟨⟨i+1,(DJ D i lb q).set (i+lb) over,C9,Y,X.o over q (R.o.tail Y),S,Jd (Jd s bc) (Ju _ _ _ _)⟩,by simp[intOf];omega⟩
  . obtain rfl:i=c:=Y
    have Qe:Row .u64 wr (B (some ⟨g,0,none⟩) (i+lb) rc) D:=by
     have h1:=k.row 0 (i+lb) rc DN ay bf bd;rwa[AA,A4 Y,Ac Y]at h1
    have Qo:=Z (Q.o D (by rw[<-A.o];exact f.o));have z:=f.o.2.1.append U;clear f Q N P W E;go_wp2_with(go_at_call 132;refine(F9 _ _ _ D _ Qe).mono ?_;rintro e w5 ⟨u,rfl,⟨I,ah⟩,ak⟩;rw[Qo.o]at I ak;obtain⟨ua,uc,rfl⟩:=UN.form I)
    go_ret;refine⟨_,J,⟨I,Jd s (JJ ah _)⟩,?_,D++t,k.below ah,z,DN⟩;rcases ak with⟨e,_⟩|e
    . exact Ao e
    . exact Aw ⟨_,e⟩
theorem Dr.fing(h:Dr f bs f.length D):Jq D=Jb O (val O f*val O bs):=by
 obtain⟨_,a,b⟩:=h;grind[JN,Jc]
def PH(g rl rc:Nat)(d:Ja)(a:TS)(c X:Nat)(b:TS)(lb A:Nat)(f k:Ja)(w:World)(xa:DA O f)(xb:DA O k)
(n:DE w g d)(bf:DA O d)(hz:c+lb<=d.length)(aq:c+lb<=rc)(bd:rc<=9223372036854775807)(bc:c+lb<=1099511627776)
(ra:Row .u64 w (B a c X) f)(o:Row .u64 w (B b lb A) k)(am:∀p,a=some p->0<c->p.block≠g)(an:∀p,b=some p->0<lb->p.block≠g):
 Calls Tryz.prog 153 #[B (some ⟨g,0,none⟩) rl rc,B a c X,B b lb A] w λe I=>∃u,e=.returned u/\(UN I u (val O f*val O k)/\w.grownBy I (some g))/\(u=B none 0 0\/∃l,u=B (some ⟨g,0,none⟩) l rc)/\∃K,DE I g K/\DA O K/\K.length=d.length:=by
 obtain⟨E,bg,bn,bm,ai⟩:=Jn ra;have v:=(Jn o).1;have bh:=(Jn o).2.1;have bt:=(Jn o).2.2.1;have N:=Z λD (h:Dr f k f.length D)=>h.fing;have M:=Z o;obtain⟨W1,ay,hA1,ad⟩:=LK 0 g (c+lb) rc d w n hz;have t:=Z (Dr.start f k);rw[<-E,<-v]at t;have S:DA O (d.drop (c+lb)):=bf.drop _;have Ql:(d.drop (c+lb)).length=d.length-(c+lb):=A6;obtain⟨W,hZ⟩:∃W,W=d.length:=⟨_,J⟩;rw[<-hZ]at Ql hz ⊢;generalize d.drop (c+lb)=s at *;obtain⟨L,y,R,U,z⟩:=Ed ai E v am an;clear ai E v ra o hZ n am an;go_enter func153,ntmps153
 go_wp2;go_loopw [19] (λH wr=>∃(i:Nat) (D:Ja),H=C .i64 i/\i<=c/\Hid (Dr f k i D)/\DE wr g (D++s)/\w.grownBy wr (some g))
  (λH _=>c-(intOf H).toNat)
 case atStart=>exact⟨0,_,J,AO _,t.o,hA1,ad⟩
 case round=>
  clear t hA1 ad ay;obtain⟨i,D,rfl,hi,m,n,r⟩:=hrel;have Qn:=m.o.1;rw[<-y.o,<-R.o]at Qn;by_cases ak:i<c
  . obtain⟨ab,ao,rfl,ap,ah⟩:=L.o i ak;have bj:=(BS (w:=w) (r.block ab ap λe=>U.o _ J Y (by cases e;rfl))).trans ah;have hw:=xa.getD uo i;have V:=Z λover q (h:YG D k i (f[i]?.getD 0) k.length over q)=>m.o.step xa xb (by rw[<-y.o];exact ak) J h;have Qm:=Row.grown M.o r z.o;have x:=m.o.2.1.append S;rw[<-R.o]at V;generalize f[i]?.getD 0=wd at *;clear ah;go_wp2_with(go_at_call 172;refine(IR g i lb _ (D++s) b A k wd _ n x (by rw[At];omega) Y Qm xb z.o hw).mono ?_;rintro e w5 ⟨over,q,rfl,F,hA5,az⟩;have T:=JK F.1 (xs:=D++s) (ro:=i) (by rw[At];omega);have bi:=hA5.cell (j:=i+lb) (by rw[T,At];omega);have bk:=hA5.frozen (i+lb);have P:=Z F;clear F T)
    have Q:=hA5.set (i+lb) over;rw[LN Y,List.set_append_left _ _ (by rw[JK P.o.1 Y];omega)]at Q;exact⟨⟨i+1,(DJ D i lb q).set (i+lb) over,C9,Y,V.o over q (P.o.tail Y),Q,Jd (Jd r az) (Ju _ _ _ _)⟩,by simp[intOf];omega⟩
  . obtain rfl:i=c:=Y
    have Qe:Row .u64 wr (B (some ⟨g,0,none⟩) (i+lb) rc) D:=by
     have h1:=n.row 0 (i+lb) rc DN aq bd bc;rwa[AA,A4 Y,Ac Y]at h1
    have Qo:=Z (N.o D (by rw[<-y.o];exact m.o));have x:=m.o.2.1.append S;clear m N L M U z;go_wp2_with(go_at_call 132;refine(F9 _ _ _ D _ Qe).mono ?_;rintro e w5 ⟨u,rfl,⟨G,ae⟩,aj⟩;rw[Qo.o]at G aj;obtain⟨ua,uc,rfl⟩:=UN.form G)
    go_ret;refine⟨_,J,⟨G,Jd r (JJ ae _)⟩,?_,D++s,n.below ae,x,DN⟩;rcases aj with⟨e,_⟩|e
    . exact Ao e
    . exact Aw ⟨_,e⟩
def Ew:O=2^64:=by unfold O;rfl
def ET(xs bs:Ja)(ro wd i over c:Nat)(q:Ja):Prop:=
 q.length=i/\DA O q/\over<O/\c<=1/\val O q+val O (bs.take i)*wd=val O ((xs.drop ro).take i)+O^i*(over+c)
def ET.start(xs bs:Ja)(ro wd:Nat):ET xs bs ro wd 0 0 0 []:=⟨J,DA.nil _,by unfold O;omega,Y,by simp[val]⟩
theorem ET.step(h:ET xs bs ro wd i over c q)(d a c':Nat)(f:d<O)(g:a<O)(e:c'<=1)(n:d+bs[i]?.getD 0*wd+over+c=xs[ro+i]?.getD 0+O*(a+c')):ET xs bs ro wd (i+1) a c' (q++[d]):=by
 obtain⟨j,b,k,l,m⟩:=h;refine⟨by simp;omega,b.append (DA.cons f (DA.nil _)),g,e,?_⟩;grind[J1,Jm]
theorem PI{y r:Nat}(a:x<O)(b:y<O)(f:r<O)(e:over<O)(d:c<=1):
 YM x y+Yl (J0 x y) over 0<O/\EB r (J3 (J0 x y) over 0) c<O/\D7 r (J3 (J0 x y) over 0) c<=1/\J3 (J0 x y) over 0<O/\
 EB r (J3 (J0 x y) over 0) c+x*y+over+c=r+O*(YM x y+Yl (J0 x y) over 0+D7 r (J3 (J0 x y) over 0) c):=by
 have hp:=LA a b;grind[YM,J0,Yl,J3,EB,D7,O]
theorem ET.last(h:ET xs bs ro wd n over c q)(k:bs.length=n)(b:d<O)(j:d+over+c=xs[ro+n]?.getD 0+O*c'):
 (q++[d]).length=n+1/\DA O (q++[d])/\val O (q++[d])+val O bs*wd=val O ((xs.drop ro).take (n+1))+O^(n+1)*c':=by
 obtain⟨e,a,f,g,i⟩:=h;refine⟨by simp;omega,a.append (DA.cons b (DA.nil _)),?_⟩;grind[J1,Jm]
def Dc(x s:Nat):Nat:=x*2^s%O
def DW(x s:Nat):Nat:=x/2^s
theorem X2(hs:s<=64):2^s*2^(64-s)=O:=by rw[<-Cy,show s+(64-s)=64 from by omega];rfl
theorem Fj(hs:s<=64):Dc x s=x%2^(64-s)*2^s:=by
 grind[Dc,X2,Nat.mul_mod_mul_right]
theorem PJ(hs:s<=63)(e:x<O)(d:c<2^s):c ||| Dc x s=c+Dc x s/\c+Dc x s<O/\DW x (64-s)<2^s/\c+Dc x s+O*DW x (64-s)=c+x*2^s:=by
 rw[Fj Y];have hp:=X2 (s:=s) Y;have g:=AN x (2^(64-s));have a:=AJ x (AR (64-s));unfold DW;have b:c ||| x%2^(64-s)*2^s=c+x%2^(64-s)*2^s:=by
  rw[Nat.or_comm,AC,<-CA d,CM]
 refine⟨b,?_,?_,?_⟩
 . have f:(x%2^(64-s)+1)*2^s<=2^(64-s)*2^s:=Af _ a;grind
 . rw[Ap (AR _),hp];exact e
 grind
def Ex(a:Ja)(s i:Nat)(q:Ja)(c:Nat):Prop:=
 q.length=i/\DA O q/\c<2^s/\val O q+O^i*c=val O (a.take i)*2^s
def Ex.start(a:Ja)(s:Nat):Ex a s 0 [] 0:=⟨J,DA.nil _,AR s,by simp[val]⟩
theorem Ex.step(h:Ex f s i q c)(e:d<O)(b:c'<2^s)(l:d+O*c'=c+f[i]?.getD 0*2^s):Ex f s (i+1) (q++[d]) c':=by
 obtain⟨g,a,j,k⟩:=h;refine⟨by simp;omega,a.append (DA.cons e (DA.nil _)),b,?_⟩;grind[J1,Jm]
theorem PK{P:Nat}(hs:s<=63)(f:x<O):
 Dc (P%2^s) (64-s) ||| DW x s=Dc (P%2^s) (64-s)+DW x s/\Dc (P%2^s) (64-s)+DW x s<O/\Dc x (64-s)=Dc ((x+O*P)%2^s) (64-s)/\
 (x+O*P)/2^s=Dc (P%2^s) (64-s)+DW x s+O*(P/2^s):=by
 have hp:=X2 (s:=s) Y;rw[Fj Y,Fj Y,Fj Y,show 64-(64-s)=s from by omega,Nat.mod_mod];have i:DW x s<2^(64-s):=by
  unfold DW;rw[Ap (AR _),AC,hp];exact f
 have c:=AJ P (AR s);have d:=AN P (2^s);refine⟨?_,?_,?_,?_⟩
 . grind[AC,CA]
 . have g:(P%2^s+1)*2^(64-s)<=2^s*2^(64-s):=Af _ c;grind
 . grind[Cg,Ck,Nat.mod_mod]
 . unfold DW;have e:x+O*P=x+2^s*(P%2^s*2^(64-s)+O*(P/2^s)):=by
    rw[<-hp];generalize P/2^s=a at *;generalize P%2^s=b at *;generalize 2^(64-s)=E at *;generalize 2^s=F at *;rw[<-d];grind
   grind[Cx]
theorem PL(B:Nat)(ds:Ja)(k:Nat)(h:k<ds.length):val B (ds.drop k)=ds[k]?.getD 0+B*val B (ds.drop (k+1)):=by
 grind[AD,JQ]
def Xn(a V n K k:Nat)(D Q:Ja):Prop:=
 D.length=K+n/\DA O D/\Q.length=K/\DA O Q/\val O D<V*O^k/\a=val O D+V*val O Q/\∀j,j<k->Q[j]?.getD 0=0
theorem Xn.win(h:Xn g V n K (k+1) D Q)(s:k<K)(r:V<O^n):
 val O ((D.drop k).take (n+1))<V*O/\val O D=val O (D.take k)+O^k*val O ((D.drop k).take (n+1))/\val O (D.drop (k+(n+1)))=0:=by
 obtain⟨i,j,l,m,f,o,p⟩:=h;have q:0<O:=by unfold O;omega
 have d:val O D<O^(k+(n+1)):=by
  have e:O^(k+(n+1))=O^n*O^(k+1):=by rw[<-Cy];congr 1;omega
  rw[e];exact Al f (Af _ Y)
 have c:=XV Y d;have a:=val_append O (D.take k) (D.drop k);rw[AP,Ae,Cv Y]at a;have b:=val_append O ((D.drop k).take (n+1)) ((D.drop k).drop (n+1));rw[AP,CU,c,A9,AU]at b;rw[b]at a;refine⟨?_,a,c⟩;rcases AH (val O ((D.drop k).take (n+1))) (V*O)with h|h
 . exact h
 . exfalso
   have:=Aq (O^k) h;have e:O^k*(V*O)=V*O^(k+1):=by rw[Ca];grind
   omega
theorem Xn.step(h:Xn g V n K (k+1) D Q)(r:k<K)(p:V<O^n)(t:q.length=n+1)(s:DA O q)
(u:val O q=val O ((D.drop k).take (n+1))%V)(c:0<V):
 Xn g V n K k (DJ D k (n+1) q) (Q.set k (val O ((D.drop k).take (n+1))/V)):=by
 obtain⟨v,L,w⟩:=h.win r p;obtain⟨l,b,y,m,z,A,o⟩:=h;have E:0<O:=by unfold O;omega
 generalize F:val O ((D.drop k).take (n+1))=W at *;have G:=AN W V;have e:=AJ W c;have d:W/V<O:=by rw[Ap c,AC];exact v
 have f:val O (DJ D k (n+1) q)=val O (D.take k)+O^k*val O q:=by
  rw[DJ,val_append,val_append,Ae,Cv Y,w];simp
 have i:=IZ O Q k (W/V) Y;rw[o k Y,A9,AU]at i;have I:val O (D.take k)<O^k:=by
  have:=JW (b.take k);rwa[Ae,Cv Y]at this
 refine⟨by rw[JK t Y];exact l,?_,DN,?_,?_,?_,?_⟩
 . intro x a;rw[DJ]at a;rcases Cp.1 a with a|a
   . exact(b.take k) x a
   . rcases Cp.1 a with a|a
     . exact s x a
     . exact(b.drop _) x a
 . intro x a;rcases List.mem_or_eq_of_mem_set a with a|a
   . exact m x a
   . rw[a];exact d
 . rw[f,u];have:=Aq (O^k) (show W%V+1<=V from e);grind
 . grind
 . intro j H;grind
theorem Xn.start(b:D.length=K+n)(c:DA O D)(a:val O D=g)(d:g<V*O^K):Xn g V n K K D (TU K 0):=
 ⟨b,c,AX,λx e=>by grind[O],by rw[a];exact d,by rw[LL,A9,a,AU],λj _=>by
  grind⟩
theorem Xn.fin{b:Nat}(h:Xn g V n K 0 D Q)(k:g=m*2^s)(l:V=b*2^s):Jq Q=Jb O (m/b)/\val O D=m%b*2^s:=by
 obtain⟨a,c,d,e,f,i,j⟩:=h;grind[Cx,AQ,Ck,Cc,Nat.mul_div_mul_right,Nat.mul_mod_mul_right,JN,Jc]
def PM(f ro len cap:Nat)(xs:Ja)(a:TS)(D:Nat)(bs:Ja)(wd:Nat)(w:World)
(U:DE w f xs)(I:DA O xs)(ak:ro+(len+1)<=xs.length)(ah:len+1<=cap)(E:Row .u64 w (B a len D) bs)(W:DA O bs)(F:∀p,a=some p->0<len->p.block≠f)(H:wd<O):
 Calls Tryz.prog 199 #[B (some ⟨f,ro,none⟩) (len+1) cap,B a len D,C .u64 (wd:Nat)] w λe z=>
  ∃c q,e=.returned (C .u64 (c:Nat))/\(c<=1/\q.length=len+1/\DA O q/\val O q+val O bs*wd=val O ((xs.drop ro).take (len+1))+O^(len+1)*c)/\DE z f (DJ xs ro (len+1) q)/\w.grownBy z (some f):=by
 obtain⟨hl,ai,ae,aj,l⟩:=Jn E;obtain⟨M,L,N⟩:=DQ hl l F;clear l hl F E;go_enter func199,ntmps199
 go_wp2;go_loopw [7,8,16] (λov T v wr=>∃(i over c:Nat) (q:Ja),v=C .i64 i/\ov=C .u64 (over:Nat)/\T=C .u64 (c:Nat)/\i<=len/\over<O/\c<=1/\Hid (ET xs bs ro wd i over c q)/\DE wr f (DJ xs ro i q)/\w.grownBy wr (some f))
  (λ_ _ v _=>len-(intOf v).toNat)
 case atStart=>exact⟨0,0,0,[],J,J,J,AO _,by unfold O;omega,Y,ET.start _ _ _ _,by rw[mid_zero];exact U,J6 _ _⟩
 case round=>
  obtain⟨i,over,c,q,rfl,rfl,rfl,hi,G,n,m,j,hg⟩:=hrel;by_cases X:i<len
  . obtain⟨b,am,rfl,V,l⟩:=L.o i X;have R:=N.o _ J Y;have g:=m.o.1;have ad:=(BS (w:=w) (hg.block b V λe=>R (by cases e;rfl))).trans l;have P:wr.cell? ⟨f,ro+i,none⟩=some (C .u64 (xs[ro+i]?.getD 0:Nat)):=by rw[<-XL g Y];exact j.cell (by rw[JK g Y];omega)
    have Q:=j.frozen (ro+i);have A:=W.getD uo i;have u:=I.getD uo (ro+i);obtain⟨o,y,s,s4,K⟩:=PI A H u G n;have k:=Z (m.o.step _ _ _ y o s K);have t:=Z (show ∀d,(DJ xs ro i q).set (ro+i) d=DJ xs ro (i+1) (q++[d])from λd=>Eu g Y d);clear l g K;generalize bs[i]?.getD 0=x at *;generalize xs[ro+i]?.getD 0=r at *;have a1:=GH (J0 x wd) over;have S:=GI r (J3 (J0 x wd) over 0) c n;unfold O at o;go_wp2_with(first
     |(go_at_call 190;refine(XN _ _ A H _).mono ?_;rintro e z ⟨rfl,rfl⟩))
    exact⟨⟨i+1,YM x wd+Yl (J0 x wd) over 0,D7 r (J3 (J0 x wd) over 0) c,q++[EB r (J3 (J0 x wd) over 0) c],C9,C9,J,Y,k.o.2.2.1,k.o.2.2.2.1,k,by rw[<-t.o];exact j.set _ _,Jd hg (Ju _ _ _ _)⟩,by simp[intOf];omega⟩
  . obtain rfl:i=len:=Y
    have g:=m.o.1;have P:wr.cell? ⟨f,ro+i,none⟩=some (C .u64 (xs[ro+i]?.getD 0:Nat)):=by rw[<-XL g Y];exact j.cell (by rw[JK g Y];omega)
    have Q:=j.frozen (ro+i);have u:=I.getD uo (ro+i);obtain⟨o,y,s⟩:=IJ u G n;have k:=Z (m.o.last M.o.symm o s);have t:=Z (show ∀d,(DJ xs ro i q).set (ro+i) d=DJ xs ro (i+1) (q++[d])from λd=>Eu g Y d);clear g s;generalize xs[ro+i]?.getD 0=r at *;have S:=GI r over c n;go_wp2;go_ret;exact⟨D7 r over c,_,J,⟨y,k.o⟩,by rw[<-t.o];exact j.set _ _,Jd hg (Ju _ _ _ _)⟩
