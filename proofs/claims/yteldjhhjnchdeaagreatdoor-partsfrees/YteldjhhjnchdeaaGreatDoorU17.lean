import Derived.Test.YteldjhhjnchdeaaGreatDoorU10
import Derived.Test.YteldjhhjnchdeaaGreatDoorU09
open Go.Value renaming slice->B,int->E
open Go.IntKind renaming u64->C
set_option maxRecDepth 100000
set_option maxHeartbeats 16000000
namespace Go.Proofs.YteldjhhjnchdeaaGreatDoor
open Go.RowKit Go.Shelf
variable{D Q bs f q xs:List Nat}{K R0 V c c' d i k len m n over ro s wd x:Nat}
theorem WB{o v:Nat}(h:o<f.length):(f.set o v).take (o+1)=f.take o++[v]:=by
 rw[Cf (by rw[Cs];exact h),List.getElem_set_self,List.take_set,CZ (by rw[Am];omega)]
theorem Pr{b:Nat}:∀(c:List Nat) (o:Nat) (W:World) (a:List Nat),DU W b a->o+c.length<=a.length->DU (W.setCells b o (cellsOf C c)) b (a.take o++(c++a.drop (o+c.length)))
 |[],o,W,a,h,_=>by
  have e:a.take o++([]++a.drop (o+([]:List Nat).length))=a:=Y
  rw[e];exact h
 |v::r,o,W,a,h,hl=>by
  rw[An]at hl;have d:=Pr r (o+1) (W.setCell ⟨b,o,none⟩ (E C (v:Nat))) (a.set o v) (h.set o v) (by rw[Cs];omega);rw[WB J,List.drop_set_of_lt J,Ce]at d;have e:o+1+r.length=o+(v::r).length:=by rw[An];omega
  rw[e]at d;exact d
theorem Ps{b:Nat}:∀(a:List Value) (o:Nat) (W:World),W.grownBy (W.setCells b o a) (some b)
 |[],_,W=>YM W _
 |v::r,o,W=>Ji (JE W b o v) (Ps r (o+1) _)
theorem Pt(ty:TypeId)(g n c:Nat)(a:List Nat)(W:World)(h:DU W g a)(k:n<=a.length):
 ∃W',(Builtin.clear_ #[61] ty #[B (some ⟨g,0,none⟩) n c]).run Tryz.prog W=.ok (.tuple #[]) W'/\DU W' g (List.replicate n 0++a.drop n)/\W.grownBy W' (some g):=by
 rcases AY n with b|b
 . subst b;refine⟨W,?_,?_,YM W _⟩
   . simp[Builtin.clear_,run_underlying Tryz.underlying61]
   . rw[List.replicate_zero,Ap,AE];exact h
 . have d:=Lib.run_clear_slice (P:=Tryz.prog) W 61 156 ty (E C 0) Tryz.underlying61 (λw=>by kernel_rfl) rfl rfl g 0 n c b
    (λj i=>by rw[A8,h.cell J];rfl) λj _=>h.frozen _
   have e:(List.replicate n (Value.int C 0))=cellsOf C (List.replicate n 0):=by simp[cellsOf]
   rw[e]at d;have f:=Pr (List.replicate n 0) 0 W a h (by rw[Au];omega);rw[CX,Ap,Au,A8]at f;exact⟨_,d,f,Ps _ _ _⟩
theorem Nn(B:Nat):∀(D:List Nat) (j d:Nat),j<D.length->val B (D.set j d)+B^j*D[j]?.getD 0=val B D+B^j*d
 |[],_,_,h=>by cases h
 |x::D,0,d,_=>by simp[val];omega
 |x::D,j+1,d,h=>by
  have a:=Nn B D j d (by simpa using h);simp only[List.set_cons_succ,val,Ae,AQ];have e:B*val B (D.set j d)+B*(B^j*D[j]?.getD 0)=B*val B D+B*(B^j*d):=by rw[<-Ax,a,Ax]
  have b:B^j*B*D[j]?.getD 0=B*(B^j*D[j]?.getD 0):=by rw[As (B^j) B,Az]
  have c:B^j*B*d=B*(B^j*d):=by rw[As (B^j) B,Az]
  omega
theorem Pv(B n:Nat):val B (List.replicate n 0)=0:=by
 induction n with
 |zero=>rfl
 |succ n a=>rw[C8,val,a];simp
def FY(a bs:List Nat)(i:Nat)(D:List Nat):Prop:=
 D.length=a.length+bs.length/\DS Z D/\val Z D=val Z (a.take i)*val Z bs
theorem FY.start(a bs:List Nat):FY a bs 0 (List.replicate (a.length+bs.length) 0):=
 ⟨Au,λx b=>by rw[CH b];unfold Z;omega,by rw[Pv];simp[val]⟩
theorem Pw{B:Nat}(c:0<B):∀ {D:List Nat},val B D=0->∀j:Nat,D[j]?.getD 0=0
 |[],_,j=>by simp
 |d::D,h,0=>by
  rw[J5]at h;show d=0;omega
 |d::D,h,j+1=>by
  rw[J5]at h;have a:B*val B D=0:=J
  have b:val B D=0:=by
   rcases Nat.mul_eq_zero.1 a with h|h
   . omega
   . exact h
  rw[Ae];exact Pw c b j
theorem Np{B:Nat}(c:k<=D.length)(h:val B D<B^k):val B (D.drop k)=0:=by
 have e:val B D=val B (D.take k)+B^k*val B (D.drop k):=by
  have b:=val_append B (D.take k) (D.drop k);rw[Cn,Am,CF c]at b;exact b
 rcases AY (val B (D.drop k))with a|a
 . exact a
 . have:=Av (B^k) a;omega
theorem FY.step(h:FY f bs i D)(u:DS Z f)(t:DS Z bs)(w:i<f.length)(v:wd=f[i]?.getD 0)(hq:XH D bs i wd bs.length over q):
 FY f bs (i+1) ((DZ D i bs.length q).set (i+bs.length) over):=by
 obtain⟨s,l,m⟩:=h;obtain⟨q1,q2,q3,n⟩:=hq;have o:val Z D<Z^(i+bs.length):=by
  rw[m,CI];have b:=Yl (u.take i);rw[Am,CF J]at b;have c:=Yl t;rcases AY (val Z bs)with k|k
  . rw[k,Cv];exact DO (Fe uo) (Fe uo)
  . exact Nat.mul_lt_mul'' b c
 have d:=Np J o;have e:(DZ D i bs.length q).length=D.length:=JW q1 J;refine⟨by rw[Cs,e];exact s,?_,?_⟩
 . intro x a;rcases List.mem_or_eq_of_mem_set a with a|a
   . rw[DZ]at a;rcases C9.1 a with a|a
     . exact(l.take i) x a
     . rcases C9.1 a with a|a
       . exact q2 x a
       . exact(l.drop _) x a
   . rw[a];exact q3
 . have b:=Nn Z (DZ D i bs.length q) (i+bs.length) over (by rw[e];omega);have c:(DZ D i bs.length q)[i+bs.length]?.getD 0=0:=by
    rw[IH q1 J];have:=Pw uo d 0;rw[CM,Ch]at this;exact this
   rw[c,Cv,Ch]at b;rw[b];have p:val Z (DZ D i bs.length q)=val Z (D.take i)+Z^i*val Z q:=by
    rw[DZ,val_append,val_append,Am,CF J,d];simp
   have r:val Z D=val Z (D.take i)+Z^i*val Z ((D.drop i).take bs.length):=by
    have g:=val_append Z (D.take i) (D.drop i);rw[Cn,Am,CF J]at g;have j:=val_append Z ((D.drop i).take bs.length) ((D.drop i).drop bs.length);rw[Cn,FK,d,Cv,Ch]at j;rw[g,j]
   rw[Ac (Aa _)]at n;rw[p,CI,Az,CO,<-Ax,n,Ax,<-CO,<-r,m,Jr,Ay,v,Az,As (f[i]?.getD 0)]
theorem FY.fin(h:FY f bs f.length D)(c:f=Jc Z m)(d:bs=Jc Z n):Jy D=Jc Z (m*n):=by
 obtain⟨_,b,a⟩:=h;rw[Ac (Aa _)]at a;rw[<-J9 Je b,a,c,d,Jp Je,Jp Je]
theorem XH.tail(h:XH (D++f) bs i wd len over q)(e:i+len<=D.length):XH D bs i wd len over q:=by
 obtain⟨b,c,d,a⟩:=h;refine⟨b,c,d,?_⟩;rw[List.drop_append_of_le_length J,AU (by rw[AV];omega)]at a;exact a
theorem Px(a:i+len<=D.length):DZ (D++f) i len q=DZ D i len q++f:=by
 rw[DZ,DZ,AU J,List.drop_append_of_le_length a];simp
theorem WC(g rl rc:Nat)(c:List Nat)(a:Option Addr)(la ca:Nat)(b:Option Addr)(lb cb m n:Nat)(w:World)
(f:DU w g c)(bc:DS Z c)(hz:la+lb<=c.length)(ap:la+lb<=rc)(az:rc<=9223372036854775807)(ay:la+lb<=1099511627776)
(ra:Row C w (B a la ca) (Jc Z m))(H:Row C w (B b lb cb) (Jc Z n))(ak:∀p,a=some p->0<la->p.block≠g)(am:∀p,b=some p->0<lb->p.block≠g):
 Calls Tryz.prog 141 #[B (some ⟨g,0,none⟩) rl rc,B a la ca,B b lb cb] w λe I=>∃u,e=.returned u/\(UN I u (m*n)/\w.grownBy I (some g))/\(u=B none 0 0\/∃l,u=B (some ⟨g,0,none⟩) l rc)/\∃K,DU I g K/\DS Z K/\K.length=c.length:=by
 obtain⟨A,bf,bk,bj,ah⟩:=Jw ra;have x:=(Jw H).1;have xa:=Jq Je m;have xb:=Jq Je n;have N:=O λD (h:FY (Jc Z m) (Jc Z n) (Jc Z m).length D)=>h.fin (m:=m) (n:=n) rfl rfl;have M:=O H;generalize Jc Z m=r at *;generalize Jc Z n=o at *;obtain⟨W1,aq,hA1,ad⟩:=Pt 0 g (la+lb) rc c w f hz;have t:=O (FY.start r o);rw[<-A,<-x]at t;have T:DS Z (c.drop (la+lb)):=bc.drop _;have Qn:(c.drop (la+lb)).length=c.length-(la+lb):=AV;obtain⟨W,hZ⟩:∃W,W=c.length:=⟨_,rfl⟩;rw[<-hZ]at Qn hz ⊢;generalize c.drop (la+lb)=k at *;obtain⟨L,z,Q,S,v⟩:=GY ah A x ak am;clear ah A x ra H hZ f ak am;go_enter Tryz.func141,Tryz.ntmps141
 go_wp2;go_loopw [19] (λG wr=>∃(i:Nat) (D:List Nat),G=E .i64 i/\i<=la/\Hid (FY r o i D)/\DU wr g (D++k)/\w.grownBy wr (some g))
  (λG _=>la-(intOf G).toNat)
 case atStart=>exact⟨0,_,rfl,AK _,t.o,hA1,ad⟩
 case round=>
  clear t hA1 ad aq;obtain⟨i,D,rfl,hi,d,f,s⟩:=hrel;have Ql:=d.o.1;rw[<-z.o,<-Q.o]at Ql;by_cases aj:i<la
  . obtain⟨X,ao,rfl,an,af⟩:=L.o i aj;have bh:wr.cell? ⟨X,ao+i,none⟩=some (E C (r[i]?.getD 0:Nat)):=(BO (w:=w) (s.block X an λe=>S.o _ rfl J (by cases e;rfl))).trans af;have hw:=xa.getD uo i;have V:=O λover q (h:XH D o i (r[i]?.getD 0) o.length over q)=>d.o.step xa xb (by rw[<-z.o];exact aj) rfl h;have Qo:Row C wr (B b lb cb) o:=Row.grown M.o s v.o;have y:DS Z (D++k):=d.o.2.1.append T;rw[<-Q.o]at V;generalize r[i]?.getD 0=wd at *;clear af;go_wp2_with(go_at_call 163;refine(Nh g i lb _ (D++k) b cb o wd _ f y (by rw[Ai];omega) J Qo xb v.o hw).mono ?_;rintro e w5 ⟨over,q,rfl,hq,hA5,aw⟩;have U:=JW hq.1 (xs:=D++k) (ro:=i) (by rw[Ai];omega);have bg:=hA5.cell (j:=i+lb) (by rw[U,Ai];omega);have bi:=hA5.frozen (i+lb);have P:=O hq;clear hq U)
    have R:=hA5.set (i+lb) over;rw[Px J,FM _ _ (by rw[JW P.o.1 J];omega)]at R;exact⟨⟨i+1,(DZ D i lb q).set (i+lb) over,Y,J,V.o over q (P.o.tail J),R,Ji (Ji s aw) (JE _ _ _ _)⟩,by simp[intOf];omega⟩
  . obtain rfl:i=la:=J
    have Qc:Row C wr (B (some ⟨g,0,none⟩) (i+lb) rc) D:=by
     have h1:=f.row 0 (i+lb) rc (by rw[Ai];omega) ap az ay;rwa[AE,AU J,Ac J]at h1
    have Qm:=O (N.o D (by rw[<-z.o];exact d.o));have y:DS Z (D++k):=d.o.2.1.append T;clear d N L M S v;go_wp2_with(go_at_call 128;refine(LZ _ _ _ D _ Qc).mono ?_;rintro e w5 ⟨u,rfl,⟨F,ae⟩,ai⟩;rw[Qm.o]at F ai;obtain⟨ua,uc,rfl⟩:=UN.form F)
    go_ret;refine⟨_,rfl,⟨F,Ji s (J4 ae _)⟩,?_,D++k,f.below ae,y,by rw[Ai];omega⟩;rcases ai with⟨e,_⟩|e
    . exact Or.inl e
    . exact Or.inr ⟨_,e⟩
theorem FY.fing(h:FY f bs f.length D):Jy D=Jc Z (val Z f*val Z bs):=by
 obtain⟨_,b,a⟩:=h;rw[Ac (Aa _)]at a;rw[<-J9 Je b,a]
theorem WD(g rl rc:Nat)(f:List Nat)(a:Option Addr)(la ca:Nat)(b:Option Addr)(lb cb:Nat)(c d:List Nat)(w:World)(xa:DS Z c)(xb:DS Z d)
(m:DU w g f)(az:DS Z f)(hz:la+lb<=f.length)(an:la+lb<=rc)(ay:rc<=9223372036854775807)(aw:la+lb<=1099511627776)
(ra:Row C w (B a la ca) c)(F:Row C w (B b lb cb) d)(aj:∀p,a=some p->0<la->p.block≠g)(ak:∀p,b=some p->0<lb->p.block≠g):
 Calls Tryz.prog 141 #[B (some ⟨g,0,none⟩) rl rc,B a la ca,B b lb cb] w λe G=>∃u,e=.returned u/\(UN G u (val Z c*val Z d)/\w.grownBy G (some g))/\(u=B none 0 0\/∃l,u=B (some ⟨g,0,none⟩) l rc)/\∃H,DU G g H/\DS Z H/\H.length=f.length:=by
 obtain⟨y,bc,bj,bi,af⟩:=Jw ra;have t:=(Jw F).1;have L:=O λD (h:FY c d c.length D)=>h.fing;have K:=O F;obtain⟨W1,ap,hA1,W⟩:=Pt 0 g (la+lb) rc f w m hz;have r:=O (FY.start c d);rw[<-y,<-t]at r;have R:DS Z (f.drop (la+lb)):=az.drop _;have Qn:(f.drop (la+lb)).length=f.length-(la+lb):=AV;obtain⟨U,X⟩:∃U,U=f.length:=⟨_,rfl⟩;rw[<-X]at Qn hz ⊢;generalize f.drop (la+lb)=n at *;obtain⟨I,x,N,Q,s⟩:=GY af y t aj ak;clear af y t ra F X m aj ak;go_enter Tryz.func141,Tryz.ntmps141
 go_wp2;go_loopw [19] (λA wr=>∃(i:Nat) (D:List Nat),A=E .i64 i/\i<=la/\Hid (FY c d i D)/\DU wr g (D++n)/\w.grownBy wr (some g))
  (λA _=>la-(intOf A).toNat)
 case atStart=>exact⟨0,_,rfl,AK _,r.o,hA1,W⟩
 case round=>
  clear r hA1 W ap;obtain⟨i,D,rfl,hi,k,m,o⟩:=hrel;have Ql:=k.o.1;rw[<-x.o,<-N.o]at Ql;by_cases ai:i<la
  . obtain⟨V,ao,rfl,am,ae⟩:=I.o i ai;have bg:wr.cell? ⟨V,ao+i,none⟩=some (E C (c[i]?.getD 0:Nat)):=(BO (w:=w) (o.block V am λe=>Q.o _ rfl J (by cases e;rfl))).trans ae;have hw:=xa.getD uo i;have T:=O λover q (h:XH D d i (c[i]?.getD 0) d.length over q)=>k.o.step xa xb (by rw[<-x.o];exact ai) rfl h;have Qo:Row C wr (B b lb cb) d:=Row.grown K.o o s.o;have v:DS Z (D++n):=k.o.2.1.append R;rw[<-N.o]at T;generalize c[i]?.getD 0=wd at *;clear ae;go_wp2_with(go_at_call 163;refine(Nh g i lb _ (D++n) b cb d wd _ m v (by rw[Ai];omega) J Qo xb s.o hw).mono ?_;rintro e w5 ⟨over,q,rfl,hq,hA5,aq⟩;have S:=JW hq.1 (xs:=D++n) (ro:=i) (by rw[Ai];omega);have bf:=hA5.cell (j:=i+lb) (by rw[S,Ai];omega);have bh:=hA5.frozen (i+lb);have M:=O hq;clear hq S)
    have P:=hA5.set (i+lb) over;rw[Px J,FM _ _ (by rw[JW M.o.1 J];omega)]at P;exact⟨⟨i+1,(DZ D i lb q).set (i+lb) over,Y,J,T.o over q (M.o.tail J),P,Ji (Ji o aq) (JE _ _ _ _)⟩,by simp[intOf];omega⟩
  . obtain rfl:i=la:=J
    have Qc:Row C wr (B (some ⟨g,0,none⟩) (i+lb) rc) D:=by
     have h1:=m.row 0 (i+lb) rc (by rw[Ai];omega) an ay aw;rwa[AE,AU J,Ac J]at h1
    have Qm:=O (L.o D (by rw[<-x.o];exact k.o));have v:DS Z (D++n):=k.o.2.1.append R;clear k L I K Q s;go_wp2_with(go_at_call 128;refine(LZ _ _ _ D _ Qc).mono ?_;rintro e w5 ⟨u,rfl,⟨z,ad⟩,ah⟩;rw[Qm.o]at z ah;obtain⟨ua,uc,rfl⟩:=UN.form z)
    go_ret;refine⟨_,rfl,⟨z,Ji o (J4 ad _)⟩,?_,D++n,m.below ad,v,by rw[Ai];omega⟩;rcases ah with⟨e,_⟩|e
    . exact Or.inl e
    . exact Or.inr ⟨_,e⟩
theorem IK:Z=2^64:=by unfold Z;rfl
def Hq(xs bs:List Nat)(ro wd i over c:Nat)(q:List Nat):Prop:=
 q.length=i/\DS Z q/\over<Z/\c<=1/\val Z q+val Z (bs.take i)*wd=val Z ((xs.drop ro).take i)+Z^i*(over+c)
theorem Hq.start(xs bs:List Nat)(ro wd:Nat):Hq xs bs ro wd 0 0 0 []:=⟨rfl,DS.nil _,by unfold Z;omega,J,by simp[val]⟩
theorem Hq.step(h:Hq xs bs ro wd i over c q)(d a c':Nat)(g:d<Z)(k:a<Z)(f:c'<=1)(j:d+bs[i]?.getD 0*wd+over+c=xs[ro+i]?.getD 0+Z*(a+c')):Hq xs bs ro wd (i+1) a c' (q++[d]):=by
 obtain⟨b,e,m,n,o⟩:=h;refine⟨by simp;omega,e.append (DS.cons g (DS.nil _)),k,f,?_⟩;rw[YL,b,Jr,Jr,CM,Ay,AQ,Az,Az];have l:Z^i*d+Z^i*(bs[i]?.getD 0*wd)+Z^i*(over+c)=Z^i*(xs[ro+i]?.getD 0)+Z^i*(Z*(a+c')):=by
  rw[<-Ax,<-Ax,<-CO,j,Ax]
 omega
theorem WE{y r:Nat}(a:x<Z)(b:y<Z)(f:r<Z)(e:over<Z)(d:c<=1):
 XS x y+Xb (Yu x y) over 0<Z/\Gk r (YC (Yu x y) over 0) c<Z/\GX r (YC (Yu x y) over 0) c<=1/\YC (Yu x y) over 0<Z/\
 Gk r (YC (Yu x y) over 0) c+x*y+over+c=r+Z*(XS x y+Xb (Yu x y) over 0+GX r (YC (Yu x y) over 0) c):=by
 have hp:=Pj a b;unfold XS Yu Xb YC Gk GX;generalize x*y=p at *;unfold Z at *;split<;>omega
theorem Hq.last(h:Hq xs bs ro wd n over c q)(l:bs.length=n)(f:d<Z)(g:d+over+c=xs[ro+n]?.getD 0+Z*c'):
 (q++[d]).length=n+1/\DS Z (q++[d])/\val Z (q++[d])+val Z bs*wd=val Z ((xs.drop ro).take (n+1))+Z^(n+1)*c':=by
 obtain⟨a,b,j,k,e⟩:=h;refine⟨by simp;omega,b.append (DS.cons f (DS.nil _)),?_⟩;rw[Ac J]at e;rw[YL,a,Jr,CM,AQ,Az];have i:Z^n*d+Z^n*(over+c)=Z^n*(xs[ro+n]?.getD 0)+Z^n*(Z*c'):=by
  rw[<-Ax,<-CO,g,Ax]
 omega
def EO(x s:Nat):Nat:=x*2^s%Z
def EG(x s:Nat):Nat:=x/2^s
theorem Ku(hs:s<=64):2^s*2^(64-s)=Z:=by rw[<-CI,show s+(64-s)=64 from by omega];rfl
theorem Kv(hs:s<=64):EO x s=x%2^(64-s)*2^s:=by
 unfold EO;rw[<-Ku hs,As (2^s),Nat.mul_mod_mul_right]
theorem WF(hs:s<=63)(j:x<Z)(g:c<2^s):c ||| EO x s=c+EO x s/\c+EO x s<Z/\EG x (64-s)<2^s/\c+EO x s+Z*EG x (64-s)=c+x*2^s:=by
 rw[Kv J];have hp:=Ku (s:=s) J;have i:=Cb x (2^(64-s));have d:=A7 x (Cc (64-s));unfold EG;have e:c ||| x%2^(64-s)*2^s=c+x%2^(64-s)*2^s:=by
  rw[Nat.or_comm,As,<-Fj g,C1]
 refine⟨e,?_,?_,?_⟩
 . have f:(x%2^(64-s)+1)*2^s<=2^(64-s)*2^s:=Ak _ d;rw[Ay,Cw,As (2^(64-s)),hp]at f;omega
 . rw[AX (Cc _),hp];exact j
 . rw[<-hp];generalize x/2^(64-s)=a at *;generalize x%2^(64-s)=b at *;generalize 2^(64-s)=E at *;generalize 2^s=F at *;rw[<-i];grind
def Is(a:List Nat)(s i:Nat)(q:List Nat)(c:Nat):Prop:=
 q.length=i/\DS Z q/\c<2^s/\val Z q+Z^i*c=val Z (a.take i)*2^s
theorem Is.start(a:List Nat)(s:Nat):Is a s 0 [] 0:=⟨rfl,DS.nil _,Cc s,by simp[val]⟩
theorem Is.step(h:Is f s i q c)(g:d<Z)(e:c'<2^s)(j:d+Z*c'=c+f[i]?.getD 0*2^s):Is f s (i+1) (q++[d]) c':=by
 obtain⟨a,b,l,m⟩:=h;refine⟨by simp;omega,b.append (DS.cons g (DS.nil _)),e,?_⟩;rw[YL,a,Jr,Ay,AQ,Az,Az];have k:Z^i*d+Z^i*(Z*c')=Z^i*c+Z^i*(f[i]?.getD 0*2^s):=by
  rw[<-Ax,j,Ax]
 omega
theorem WG{P:Nat}(hs:s<=63)(i:x<Z):
 EO (P%2^s) (64-s) ||| EG x s=EO (P%2^s) (64-s)+EG x s/\EO (P%2^s) (64-s)+EG x s<Z/\EO x (64-s)=EO ((x+Z*P)%2^s) (64-s)/\
 (x+Z*P)/2^s=EO (P%2^s) (64-s)+EG x s+Z*(P/2^s):=by
 have hp:=Ku (s:=s) J;rw[Kv J,Kv J,Kv J,show 64-(64-s)=s from by omega,Nat.mod_mod];have c:EG x s<2^(64-s):=by
  unfold EG;rw[AX (Cc _),As,hp];exact i
 have d:=A7 P (Cc s);have g:=Cb P (2^s);refine⟨?_,?_,?_,?_⟩
 . rw[As,<-Fj c]
 . have f:(P%2^s+1)*2^(64-s)<=2^s*2^(64-s):=Ak _ d;rw[Ay,Cw,hp]at f;omega
 . congr 1;rw[<-hp,Az,CR,Nat.mod_mod]
 . unfold EG;have e:x+Z*P=x+2^s*(P%2^s*2^(64-s)+Z*(P/2^s)):=by
    rw[<-hp];generalize P/2^s=a at *;generalize P%2^s=b at *;generalize 2^(64-s)=E at *;generalize 2^s=F at *;rw[<-g];grind
   rw[e,Ff _ _ (Cc _)];omega
theorem WH(B:Nat)(ds:List Nat)(k:Nat)(h:k<ds.length):val B (ds.drop k)=ds[k]?.getD 0+B*val B (ds.drop (k+1)):=by
 rw[A0 h,J5,Ag h];rfl
def GZ(R0 V n K k:Nat)(D Q:List Nat):Prop:=
 D.length=K+n/\DS Z D/\Q.length=K/\DS Z Q/\val Z D<V*Z^k/\R0=val Z D+V*val Z Q/\∀j,j<k->Q[j]?.getD 0=0
theorem GZ.win(h:GZ R0 V n K (k+1) D Q)(q:k<K)(p:V<Z^n):
 val Z ((D.drop k).take (n+1))<V*Z/\val Z D=val Z (D.take k)+Z^k*val Z ((D.drop k).take (n+1))/\val Z (D.drop (k+(n+1)))=0:=by
 obtain⟨g,i,j,l,f,m,o⟩:=h;have d:val Z D<Z^(k+(n+1)):=by
  have e:Z^(k+(n+1))=Z^n*Z^(k+1):=by rw[<-CI];congr 1;omega
  rw[e];exact AB f (Ak _ J)
 have c:=Np J d;have a:=val_append Z (D.take k) (D.drop k);rw[Cn,Am,CF J]at a;have b:=val_append Z ((D.drop k).take (n+1)) ((D.drop k).drop (n+1));rw[Cn,FK,c,Cv,Ch]at b;rw[b]at a;refine⟨?_,a,c⟩;rcases AO (val Z ((D.drop k).take (n+1))) (V*Z)with h|h
 . exact h
 . exfalso
   have:=Av (Z^k) h;have e:Z^k*(V*Z)=V*Z^(k+1):=by rw[AQ];grind
   omega
theorem GZ.step(h:GZ R0 V n K (k+1) D Q)(u:k<K)(s:V<Z^n)(v:q.length=n+1)(hq:DS Z q)
(g:val Z q=val Z ((D.drop k).take (n+1))%V)(f:0<V):
 GZ R0 V n K k (DZ D k (n+1) q) (Q.set k (val Z ((D.drop k).take (n+1))/V)):=by
 obtain⟨w,y,z⟩:=h.win u s;obtain⟨m,b,o,p,A,r,e⟩:=h;generalize F:val Z ((D.drop k).take (n+1))=W at *;have t:=Cb W V;have l:=A7 W f;have i:W/V<Z:=by rw[AX f,As];exact w
 have c:val Z (DZ D k (n+1) q)=val Z (D.take k)+Z^k*val Z q:=by
  rw[DZ,val_append,val_append,Am,CF J,z];simp
 have d:=Nn Z Q k (W/V) J;rw[e k J,Cv,Ch]at d;have H:val Z (D.take k)<Z^k:=by
  have:=Yl (b.take k);rwa[Am,CF J]at this
 refine⟨by rw[JW v J];exact m,?_,by rw[Cs];exact o,?_,?_,?_,?_⟩
 . intro x a;rw[DZ]at a;rcases C9.1 a with a|a
   . exact(b.take k) x a
   . rcases C9.1 a with a|a
     . exact hq x a
     . exact(b.drop _) x a
 . intro x a;rcases List.mem_or_eq_of_mem_set a with a|a
   . exact p x a
   . rw[a];exact i
 . rw[c,g];have:=Av (Z^k) (show W%V+1<=V from l);rw[Ax,Fz,As _ V]at this;omega
 . rw[c,d,g,r,y,Ax]
   have:Z^k*W=Z^k*(W%V)+V*(Z^k*(W/V)):=by
    conv=>lhs;rw[<-t]
    grind
   omega
 . intro j G;rw[AW J];exact e j J
theorem GZ.start(b:D.length=K+n)(c:DS Z D)(a:val Z D=R0)(d:R0<V*Z^K):GZ R0 V n K K D (List.replicate K 0):=
 ⟨b,c,Au,λx f=>by rw[CH f];unfold Z;omega,by rw[a];exact d,by rw[Pv,Cv,a,Ch],λj _=>by
  by_cases e:j<K
  . rw[List.getElem?_replicate_of_lt e];rfl
  . rw[At (by rw[Au];omega)];rfl⟩
theorem GZ.fin{b:Nat}(h:GZ R0 V n K 0 D Q)(f:R0=m*2^s)(g:V=b*2^s):Jy Q=Jc Z (m/b)/\val Z D=m%b*2^s:=by
 obtain⟨j,k,l,i,a,e,o⟩:=h;rw[Nat.pow_zero,Fz]at a;have c:R0/V=val Z Q:=by rw[e,Ff _ _ J,Ca a,A8]
 have d:R0%V=val Z D:=by rw[e,CR,Cm a]
 rw[f,g,Nat.mul_div_mul_right _ _ (Cc s)]at c;rw[f,g,Nat.mul_mod_mul_right]at d;exact⟨by rw[<-J9 Je i,<-c],d.symm⟩
theorem WI(f ro len cap:Nat)(xs:List Nat)(a:Option Addr)(cb:Nat)(bs:List Nat)(wd:Nat)(w:World)
(U:DU w f xs)(I:DS Z xs)(aj:ro+(len+1)<=xs.length)(af:len+1<=cap)(D:Row C w (B a len cb) bs)(W:DS Z bs)(F:∀p,a=some p->0<len->p.block≠f)(H:wd<Z):
 Calls Tryz.prog 187 #[B (some ⟨f,ro,none⟩) (len+1) cap,B a len cb,E C (wd:Nat)] w λe z=>
  ∃c q,e=.returned (E C (c:Nat))/\(c<=1/\q.length=len+1/\DS Z q/\val Z q+val Z bs*wd=val Z ((xs.drop ro).take (len+1))+Z^(len+1)*c)/\DU z f (DZ xs ro (len+1) q)/\w.grownBy z (some f):=by
 obtain⟨hl,ah,ae,ai,k⟩:=Jw D;obtain⟨M,L,N⟩:=Dg hl k F;clear k hl F D;go_enter Tryz.func187,Tryz.ntmps187
 go_wp2;go_loopw [7,8,16] (λov T v wr=>∃(i over c:Nat) (q:List Nat),v=E .i64 i/\ov=E C (over:Nat)/\T=E C (c:Nat)/\i<=len/\over<Z/\c<=1/\Hid (Hq xs bs ro wd i over c q)/\DU wr f (DZ xs ro i q)/\w.grownBy wr (some f))
  (λ_ _ v _=>len-(intOf v).toNat)
 case atStart=>exact⟨0,0,0,[],rfl,rfl,rfl,AK _,by unfold Z;omega,J,Hq.start _ _ _ _,by rw[mid_zero];exact U,YM _ _⟩
 case round=>
  obtain⟨i,over,c,q,rfl,rfl,rfl,hi,G,m,l,g,u⟩:=hrel;by_cases X:i<len
  . obtain⟨b,off,rfl,V,k⟩:=L.o i X;have R:=N.o _ rfl J;have hq:=l.o.1;have ad:wr.cell? ⟨b,off+i,none⟩=some (E C (bs[i]?.getD 0:Nat)):=(BO (w:=w) (u.block b V λe=>R (by cases e;rfl))).trans k;have P:wr.cell? ⟨f,ro+i,none⟩=some (E C (xs[ro+i]?.getD 0:Nat)):=by rw[<-IH hq J];exact g.cell (by rw[JW hq J];omega)
    have Q:=g.frozen (ro+i);have A:=W.getD uo i;have t:=I.getD uo (ro+i);obtain⟨n,y,o,s4,K⟩:=WE A H t G m;have j:=O (l.o.step _ _ _ y n o K);have s:=O (show ∀d,(DZ xs ro i q).set (ro+i) d=DZ xs ro (i+1) (q++[d])from λd=>Io hq J d);clear k hq K;generalize bs[i]?.getD 0=x at *;generalize xs[ro+i]?.getD 0=r at *;have a1:=Li (Yu x wd) over;have S:=Lj r (YC (Yu x wd) over 0) c m;unfold Z at n;go_wp2_with(first
     |(go_at_call 183;refine(II _ _ A H _).mono ?_;rintro e z ⟨rfl,rfl⟩))
    exact⟨⟨i+1,XS x wd+Xb (Yu x wd) over 0,GX r (YC (Yu x wd) over 0) c,q++[Gk r (YC (Yu x wd) over 0) c],Y,Y,rfl,J,j.o.2.2.1,j.o.2.2.2.1,j,by rw[<-s.o];exact g.set _ _,Ji u (JE _ _ _ _)⟩,by simp[intOf];omega⟩
  . obtain rfl:i=len:=J
    have hq:=l.o.1;have P:wr.cell? ⟨f,ro+i,none⟩=some (E C (xs[ro+i]?.getD 0:Nat)):=by rw[<-IH hq J];exact g.cell (by rw[JW hq J];omega)
    have Q:=g.frozen (ro+i);have t:=I.getD uo (ro+i);obtain⟨n,y,o⟩:=Na t G m;have j:=O (l.o.last M.o.symm n o);have s:=O (show ∀d,(DZ xs ro i q).set (ro+i) d=DZ xs ro (i+1) (q++[d])from λd=>Io hq J d);clear hq o;generalize xs[ro+i]?.getD 0=r at *;have S:=Lj r over c m;go_wp2;go_ret;exact⟨GX r over c,_,rfl,⟨y,j.o⟩,by rw[<-s.o];exact g.set _ _,Ji u (JE _ _ _ _)⟩
