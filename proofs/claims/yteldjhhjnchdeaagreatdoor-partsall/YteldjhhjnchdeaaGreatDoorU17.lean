import Derived.Test.YteldjhhjnchdeaaGreatDoorU10
import Derived.Test.YteldjhhjnchdeaaGreatDoorU09
open Go.Value renaming slice->B,int->E
open Go.IntKind renaming u64->C
set_option maxRecDepth 100000
set_option maxHeartbeats 16000000
namespace Go.Proofs.YteldjhhjnchdeaaGreatDoor
open Go.RowKit Go.Shelf
variable{D Q bs f q xs:List Nat}{K R0 V c c' d i k len m n over ro s wd x:Nat}
theorem ZW{o v:Nat}(h:o<f.length):(f.set o v).take (o+1)=f.take o++[v]:=by
 rw[Cl (by rw[Cx];exact h),List.getElem_set_self,List.take_set,C6 (by rw[Am];omega)]
theorem RE{b:Nat}:∀(c:List Nat) (o:Nat) (W:World) (a:List Nat),DU W b a->o+c.length<=a.length->DU (W.setCells b o (cellsOf C c)) b (a.take o++(c++a.drop (o+c.length)))
 |[],o,W,a,h,_=>by
  have e:a.take o++([]++a.drop (o+([]:List Nat).length))=a:=Y
  rw[e];exact h
 |v::r,o,W,a,h,hl=>by
  rw[An]at hl;have d:=RE r (o+1) (W.setCell ⟨b,o,none⟩ (E C (v:Nat))) (a.set o v) (h.set o v) (by rw[Cx];omega);rw[ZW O,List.drop_set_of_lt O,Cj]at d;have e:o+1+r.length=o+(v::r).length:=by rw[An];omega
  rw[e]at d;exact d
theorem RF{b:Nat}:∀(a:List Value) (o:Nat) (W:World),W.grownBy (W.setCells b o a) (some b)
 |[],_,W=>YW W _
 |v::r,o,W=>Ji (JI W b o v) (RF r (o+1) _)
theorem RG(ty:TypeId)(g n c:Nat)(a:List Nat)(W:World)(h:DU W g a)(k:n<=a.length):
 ∃W',(Builtin.clear_ #[61] ty #[B (some ⟨g,0,none⟩) n c]).run Tryz.prog W=.ok (.tuple #[]) W'/\DU W' g (List.replicate n 0++a.drop n)/\W.grownBy W' (some g):=by
 rcases A0 n with b|b
 . subst b;refine⟨W,?_,?_,YW W _⟩
   . simp[Builtin.clear_,run_underlying Tryz.underlying61]
   . rw[List.replicate_zero,Ap,AJ];exact h
 . have d:=Lib.run_clear_slice (P:=Tryz.prog) W 61 156 ty (E C 0) Tryz.underlying61 (λw=>by kernel_rfl) rfl rfl g 0 n c b
    (λj i=>by rw[Cc,h.cell O];rfl) λj _=>h.frozen _
   have e:(List.replicate n (Value.int C 0))=cellsOf C (List.replicate n 0):=by simp[cellsOf]
   rw[e]at d;have f:=RE (List.replicate n 0) 0 W a h (by rw[Av];omega);rw[C5,Ap,Av,Cc]at f;exact⟨_,d,f,RF _ _ _⟩
theorem Oc(B:Nat):∀(D:List Nat) (j d:Nat),j<D.length->val B (D.set j d)+B^j*D[j]?.getD 0=val B D+B^j*d
 |[],_,_,h=>by cases h
 |x::D,0,d,_=>by simp[val];omega
 |x::D,j+1,d,h=>by
  have a:=Oc B D j d (by simpa using h);simp only[List.set_cons_succ,val,Ae,AO];have e:B*val B (D.set j d)+B*(B^j*D[j]?.getD 0)=B*val B D+B*(B^j*d):=by rw[<-Az,a,Az]
  have b:B^j*B*D[j]?.getD 0=B*(B^j*D[j]?.getD 0):=by rw[Au (B^j) B,Ay]
  have c:B^j*B*d=B*(B^j*d):=by rw[Au (B^j) B,Ay]
  omega
theorem RH(B n:Nat):val B (List.replicate n 0)=0:=by
 induction n with
 |zero=>rfl
 |succ n a=>rw[Fc,val,a];simp
def GE(a bs:List Nat)(i:Nat)(D:List Nat):Prop:=
 D.length=a.length+bs.length/\DR Z D/\val Z D=val Z (a.take i)*val Z bs
theorem GE.start(a bs:List Nat):GE a bs 0 (List.replicate (a.length+bs.length) 0):=
 ⟨Av,λx b=>by rw[CL b];unfold Z;omega,by rw[RH];simp[val]⟩
theorem RI{B:Nat}(c:0<B):∀ {D:List Nat},val B D=0->∀j:Nat,D[j]?.getD 0=0
 |[],_,j=>by simp
 |d::D,h,0=>by
  rw[Yc]at h;show d=0;omega
 |d::D,h,j+1=>by
  rw[Yc]at h;have a:B*val B D=0:=O
  have b:val B D=0:=by
   rcases Nat.mul_eq_zero.1 a with h|h
   . omega
   . exact h
  rw[Ae];exact RI c b j
theorem Od{B:Nat}(c:k<=D.length)(h:val B D<B^k):val B (D.drop k)=0:=by
 have e:val B D=val B (D.take k)+B^k*val B (D.drop k):=by
  have b:=val_append B (D.take k) (D.drop k);rw[Cv,Am,CK c]at b;exact b
 rcases A0 (val B (D.drop k))with a|a
 . exact a
 . have:=Aq (B^k) a;omega
theorem GE.step(h:GE f bs i D)(u:DR Z f)(t:DR Z bs)(w:i<f.length)(v:wd=f[i]?.getD 0)(hq:XW D bs i wd bs.length over q):
 GE f bs (i+1) ((Db D i bs.length q).set (i+bs.length) over):=by
 obtain⟨s,l,m⟩:=h;obtain⟨q1,q2,q3,n⟩:=hq;have o:val Z D<Z^(i+bs.length):=by
  rw[m,CG];have b:=Yu (u.take i);rw[Am,CK O]at b;have c:=Yu t;rcases A0 (val Z bs)with k|k
  . rw[k,CA];exact FY (CN uo) (CN uo)
  . exact Nat.mul_lt_mul'' b c
 have d:=Od O o;have e:(Db D i bs.length q).length=D.length:=J6 q1 O;refine⟨by rw[Cx,e];exact s,?_,?_⟩
 . intro x a;rcases List.mem_or_eq_of_mem_set a with a|a
   . rw[Db]at a;rcases C7.1 a with a|a
     . exact(l.take i) x a
     . rcases C7.1 a with a|a
       . exact q2 x a
       . exact(l.drop _) x a
   . rw[a];exact q3
 . have b:=Oc Z (Db D i bs.length q) (i+bs.length) over (by rw[e];omega);have c:(Db D i bs.length q)[i+bs.length]?.getD 0=0:=by
    rw[Ik q1 O];have:=RI uo d 0;rw[CT,Cq]at this;exact this
   rw[c,CA,Cq]at b;rw[b];have p:val Z (Db D i bs.length q)=val Z (D.take i)+Z^i*val Z q:=by
    rw[Db,val_append,val_append,Am,CK O,d];simp
   have r:val Z D=val Z (D.take i)+Z^i*val Z ((D.drop i).take bs.length):=by
    have g:=val_append Z (D.take i) (D.drop i);rw[Cv,Am,CK O]at g;have j:=val_append Z ((D.drop i).take bs.length) ((D.drop i).drop bs.length);rw[Cv,FR,d,CA,Cq]at j;rw[g,j]
   rw[Ad (Aa _)]at n;rw[p,CG,Ay,CW,<-Az,n,Az,<-CW,<-r,m,Jr,AA,v,Ay,Au (f[i]?.getD 0)]
theorem GE.fin(h:GE f bs f.length D)(c:f=Jd Z m)(d:bs=Jd Z n):JA D=Jd Z (m*n):=by
 obtain⟨_,b,a⟩:=h;rw[Ad (Aa _)]at a;rw[<-Yh Jg b,a,c,d,Jp Jg,Jp Jg]
theorem XW.tail(h:XW (D++f) bs i wd len over q)(e:i+len<=D.length):XW D bs i wd len over q:=by
 obtain⟨b,c,d,a⟩:=h;refine⟨b,c,d,?_⟩;rw[List.drop_append_of_le_length O,AW (by rw[AX];omega)]at a;exact a
theorem RJ(a:i+len<=D.length):Db (D++f) i len q=Db D i len q++f:=by
 rw[Db,Db,AW O,List.drop_append_of_le_length a];simp
theorem ZX(g rl rc:Nat)(c:List Nat)(a:Option Addr)(la ca:Nat)(b:Option Addr)(lb cb m n:Nat)(w:World)
(f:DU w g c)(bc:DR Z c)(hz:la+lb<=c.length)(ap:la+lb<=rc)(az:rc<=9223372036854775807)(ay:la+lb<=1099511627776)
(ra:Row C w (B a la ca) (Jd Z m))(H:Row C w (B b lb cb) (Jd Z n))(ak:∀p,a=some p->0<la->p.block≠g)(am:∀p,b=some p->0<lb->p.block≠g):
 Calls Tryz.prog 141 #[B (some ⟨g,0,none⟩) rl rc,B a la ca,B b lb cb] w λe I=>∃u,e=.returned u/\(UN I u (m*n)/\w.grownBy I (some g))/\(u=B none 0 0\/∃l,u=B (some ⟨g,0,none⟩) l rc)/\∃K,DU I g K/\DR Z K/\K.length=c.length:=by
 obtain⟨A,bf,bk,bj,ah⟩:=Jy ra;have x:=(Jy H).1;have xa:=Jq Jg m;have xb:=Jq Jg n;have N:=J λD (h:GE (Jd Z m) (Jd Z n) (Jd Z m).length D)=>h.fin (m:=m) (n:=n) rfl rfl;have M:=J H;generalize Jd Z m=r at *;generalize Jd Z n=o at *;obtain⟨W1,aq,hA1,ad⟩:=RG 0 g (la+lb) rc c w f hz;have t:=J (GE.start r o);rw[<-A,<-x]at t;have T:DR Z (c.drop (la+lb)):=bc.drop _;have Qn:(c.drop (la+lb)).length=c.length-(la+lb):=AX;obtain⟨W,hZ⟩:∃W,W=c.length:=⟨_,rfl⟩;rw[<-hZ]at Qn hz ⊢;generalize c.drop (la+lb)=k at *;obtain⟨L,z,Q,S,v⟩:=Gp ah A x ak am;clear ah A x ra H hZ f ak am;go_enter Tryz.func141,Tryz.ntmps141
 go_wp2;go_loopw [19] (λG wr=>∃(i:Nat) (D:List Nat),G=E .i64 i/\i<=la/\Hid (GE r o i D)/\DU wr g (D++k)/\w.grownBy wr (some g))
  (λG _=>la-(intOf G).toNat)
 case atStart=>exact⟨0,_,rfl,AC _,t.o,hA1,ad⟩
 case round=>
  clear t hA1 ad aq;obtain⟨i,D,rfl,hi,d,f,s⟩:=hrel;have Ql:=d.o.1;rw[<-z.o,<-Q.o]at Ql;by_cases aj:i<la
  . obtain⟨X,ao,rfl,an,af⟩:=L.o i aj;have bh:wr.cell? ⟨X,ao+i,none⟩=some (E C (r[i]?.getD 0:Nat)):=(BO (w:=w) (s.block X an λe=>S.o _ rfl O (by cases e;rfl))).trans af;have hw:=xa.getD uo i;have V:=J λover q (h:XW D o i (r[i]?.getD 0) o.length over q)=>d.o.step xa xb (by rw[<-z.o];exact aj) rfl h;have Qo:Row C wr (B b lb cb) o:=Row.grown M.o s v.o;have y:DR Z (D++k):=d.o.2.1.append T;rw[<-Q.o]at V;generalize r[i]?.getD 0=wd at *;clear af;go_wp2_with(go_at_call 163;refine(OW g i lb _ (D++k) b cb o wd _ f y (by rw[Aj];omega) O Qo xb v.o hw).mono ?_;rintro e w5 ⟨over,q,rfl,hq,hA5,aw⟩;have U:=J6 hq.1 (xs:=D++k) (ro:=i) (by rw[Aj];omega);have bg:=hA5.cell (j:=i+lb) (by rw[U,Aj];omega);have bi:=hA5.frozen (i+lb);have P:=J hq;clear hq U)
    have R:=hA5.set (i+lb) over;rw[RJ O,FS _ _ (by rw[J6 P.o.1 O];omega)]at R;exact⟨⟨i+1,(Db D i lb q).set (i+lb) over,Y,O,V.o over q (P.o.tail O),R,Ji (Ji s aw) (JI _ _ _ _)⟩,by simp[intOf];omega⟩
  . obtain rfl:i=la:=O
    have Qc:Row C wr (B (some ⟨g,0,none⟩) (i+lb) rc) D:=by
     have h1:=f.row 0 (i+lb) rc (by rw[Aj];omega) ap az ay;rwa[AJ,AW O,Ad O]at h1
    have Qm:=J (N.o D (by rw[<-z.o];exact d.o));have y:DR Z (D++k):=d.o.2.1.append T;clear d N L M S v;go_wp2_with(go_at_call 128;refine(MH _ _ _ D _ Qc).mono ?_;rintro e w5 ⟨u,rfl,⟨F,ae⟩,ai⟩;rw[Qm.o]at F ai;obtain⟨ua,uc,rfl⟩:=UN.form F)
    go_ret;refine⟨_,rfl,⟨F,Ji s (Yb ae _)⟩,?_,D++k,f.below ae,y,by rw[Aj];omega⟩;rcases ai with⟨e,_⟩|e
    . exact Or.inl e
    . exact Or.inr ⟨_,e⟩
theorem GE.fing(h:GE f bs f.length D):JA D=Jd Z (val Z f*val Z bs):=by
 obtain⟨_,b,a⟩:=h;rw[Ad (Aa _)]at a;rw[<-Yh Jg b,a]
theorem ZY(g rl rc:Nat)(f:List Nat)(a:Option Addr)(la ca:Nat)(b:Option Addr)(lb cb:Nat)(c d:List Nat)(w:World)(xa:DR Z c)(xb:DR Z d)
(m:DU w g f)(az:DR Z f)(hz:la+lb<=f.length)(an:la+lb<=rc)(ay:rc<=9223372036854775807)(aw:la+lb<=1099511627776)
(ra:Row C w (B a la ca) c)(F:Row C w (B b lb cb) d)(aj:∀p,a=some p->0<la->p.block≠g)(ak:∀p,b=some p->0<lb->p.block≠g):
 Calls Tryz.prog 141 #[B (some ⟨g,0,none⟩) rl rc,B a la ca,B b lb cb] w λe G=>∃u,e=.returned u/\(UN G u (val Z c*val Z d)/\w.grownBy G (some g))/\(u=B none 0 0\/∃l,u=B (some ⟨g,0,none⟩) l rc)/\∃H,DU G g H/\DR Z H/\H.length=f.length:=by
 obtain⟨y,bc,bj,bi,af⟩:=Jy ra;have t:=(Jy F).1;have L:=J λD (h:GE c d c.length D)=>h.fing;have K:=J F;obtain⟨W1,ap,hA1,W⟩:=RG 0 g (la+lb) rc f w m hz;have r:=J (GE.start c d);rw[<-y,<-t]at r;have R:DR Z (f.drop (la+lb)):=az.drop _;have Qn:(f.drop (la+lb)).length=f.length-(la+lb):=AX;obtain⟨U,X⟩:∃U,U=f.length:=⟨_,rfl⟩;rw[<-X]at Qn hz ⊢;generalize f.drop (la+lb)=n at *;obtain⟨I,x,N,Q,s⟩:=Gp af y t aj ak;clear af y t ra F X m aj ak;go_enter Tryz.func141,Tryz.ntmps141
 go_wp2;go_loopw [19] (λA wr=>∃(i:Nat) (D:List Nat),A=E .i64 i/\i<=la/\Hid (GE c d i D)/\DU wr g (D++n)/\w.grownBy wr (some g))
  (λA _=>la-(intOf A).toNat)
 case atStart=>exact⟨0,_,rfl,AC _,r.o,hA1,W⟩
 case round=>
  clear r hA1 W ap;obtain⟨i,D,rfl,hi,k,m,o⟩:=hrel;have Ql:=k.o.1;rw[<-x.o,<-N.o]at Ql;by_cases ai:i<la
  . obtain⟨V,ao,rfl,am,ae⟩:=I.o i ai;have bg:wr.cell? ⟨V,ao+i,none⟩=some (E C (c[i]?.getD 0:Nat)):=(BO (w:=w) (o.block V am λe=>Q.o _ rfl O (by cases e;rfl))).trans ae;have hw:=xa.getD uo i;have T:=J λover q (h:XW D d i (c[i]?.getD 0) d.length over q)=>k.o.step xa xb (by rw[<-x.o];exact ai) rfl h;have Qo:Row C wr (B b lb cb) d:=Row.grown K.o o s.o;have v:DR Z (D++n):=k.o.2.1.append R;rw[<-N.o]at T;generalize c[i]?.getD 0=wd at *;clear ae;go_wp2_with(go_at_call 163;refine(OW g i lb _ (D++n) b cb d wd _ m v (by rw[Aj];omega) O Qo xb s.o hw).mono ?_;rintro e w5 ⟨over,q,rfl,hq,hA5,aq⟩;have S:=J6 hq.1 (xs:=D++n) (ro:=i) (by rw[Aj];omega);have bf:=hA5.cell (j:=i+lb) (by rw[S,Aj];omega);have bh:=hA5.frozen (i+lb);have M:=J hq;clear hq S)
    have P:=hA5.set (i+lb) over;rw[RJ O,FS _ _ (by rw[J6 M.o.1 O];omega)]at P;exact⟨⟨i+1,(Db D i lb q).set (i+lb) over,Y,O,T.o over q (M.o.tail O),P,Ji (Ji o aq) (JI _ _ _ _)⟩,by simp[intOf];omega⟩
  . obtain rfl:i=la:=O
    have Qc:Row C wr (B (some ⟨g,0,none⟩) (i+lb) rc) D:=by
     have h1:=m.row 0 (i+lb) rc (by rw[Aj];omega) an ay aw;rwa[AJ,AW O,Ad O]at h1
    have Qm:=J (L.o D (by rw[<-x.o];exact k.o));have v:DR Z (D++n):=k.o.2.1.append R;clear k L I K Q s;go_wp2_with(go_at_call 128;refine(MH _ _ _ D _ Qc).mono ?_;rintro e w5 ⟨u,rfl,⟨z,ad⟩,ah⟩;rw[Qm.o]at z ah;obtain⟨ua,uc,rfl⟩:=UN.form z)
    go_ret;refine⟨_,rfl,⟨z,Ji o (Yb ad _)⟩,?_,D++n,m.below ad,v,by rw[Aj];omega⟩;rcases ah with⟨e,_⟩|e
    . exact Or.inl e
    . exact Or.inr ⟨_,e⟩
theorem Io:Z=2^64:=by unfold Z;rfl
def IL(xs bs:List Nat)(ro wd i over c:Nat)(q:List Nat):Prop:=
 q.length=i/\DR Z q/\over<Z/\c<=1/\val Z q+val Z (bs.take i)*wd=val Z ((xs.drop ro).take i)+Z^i*(over+c)
theorem IL.start(xs bs:List Nat)(ro wd:Nat):IL xs bs ro wd 0 0 0 []:=⟨rfl,DR.nil _,by unfold Z;omega,O,by simp[val]⟩
theorem IL.step(h:IL xs bs ro wd i over c q)(d a c':Nat)(g:d<Z)(k:a<Z)(f:c'<=1)(j:d+bs[i]?.getD 0*wd+over+c=xs[ro+i]?.getD 0+Z*(a+c')):IL xs bs ro wd (i+1) a c' (q++[d]):=by
 obtain⟨b,e,m,n,o⟩:=h;refine⟨by simp;omega,e.append (DR.cons g (DR.nil _)),k,f,?_⟩;rw[YV,b,Jr,Jr,CT,AA,AO,Ay,Ay];have l:Z^i*d+Z^i*(bs[i]?.getD 0*wd)+Z^i*(over+c)=Z^i*(xs[ro+i]?.getD 0)+Z^i*(Z*(a+c')):=by
  rw[<-Az,<-Az,<-CW,j,Az]
 omega
theorem ZZ{y r:Nat}(a:x<Z)(b:y<Z)(f:r<Z)(e:over<Z)(d:c<=1):
 X7 x y+Xn (YD x y) over 0<Z/\Hc r (YP (YD x y) over 0) c<Z/\Gn r (YP (YD x y) over 0) c<=1/\YP (YD x y) over 0<Z/\
 Hc r (YP (YD x y) over 0) c+x*y+over+c=r+Z*(X7 x y+Xn (YD x y) over 0+Gn r (YP (YD x y) over 0) c):=by
 have hp:=Q6 a b;unfold X7 YD Xn YP Hc Gn;generalize x*y=p at *;unfold Z at *;split<;>omega
theorem IL.last(h:IL xs bs ro wd n over c q)(l:bs.length=n)(f:d<Z)(g:d+over+c=xs[ro+n]?.getD 0+Z*c'):
 (q++[d]).length=n+1/\DR Z (q++[d])/\val Z (q++[d])+val Z bs*wd=val Z ((xs.drop ro).take (n+1))+Z^(n+1)*c':=by
 obtain⟨a,b,j,k,e⟩:=h;refine⟨by simp;omega,b.append (DR.cons f (DR.nil _)),?_⟩;rw[Ad O]at e;rw[YV,a,Jr,CT,AO,Ay];have i:Z^n*d+Z^n*(over+c)=Z^n*(xs[ro+n]?.getD 0)+Z^n*(Z*c'):=by
  rw[<-Az,<-CW,g,Az]
 omega
def EX(x s:Nat):Nat:=x*2^s%Z
def EN(x s:Nat):Nat:=x/2^s
theorem LS(hs:s<=64):2^s*2^(64-s)=Z:=by rw[<-CG,show s+(64-s)=64 from by omega];rfl
theorem LT(hs:s<=64):EX x s=x%2^(64-s)*2^s:=by
 unfold EX;rw[<-LS hs,Au (2^s),Nat.mul_mod_mul_right]
theorem Zd(hs:s<=63)(j:x<Z)(g:c<2^s):c ||| EX x s=c+EX x s/\c+EX x s<Z/\EN x (64-s)<2^s/\c+EX x s+Z*EN x (64-s)=c+x*2^s:=by
 rw[LT O];have hp:=LS (s:=s) O;have i:=Ch x (2^(64-s));have d:=Ca x (Ci (64-s));unfold EN;have e:c ||| x%2^(64-s)*2^s=c+x%2^(64-s)*2^s:=by
  rw[Nat.or_comm,Au,<-Fo g,C9]
 refine⟨e,?_,?_,?_⟩
 . have f:(x%2^(64-s)+1)*2^s<=2^(64-s)*2^s:=Ak _ d;rw[AA,CB,Au (2^(64-s)),hp]at f;omega
 . rw[AZ (Ci _),hp];exact j
 . rw[<-hp];generalize x/2^(64-s)=a at *;generalize x%2^(64-s)=b at *;generalize 2^(64-s)=E at *;generalize 2^s=F at *;rw[<-i];grind
def KL(a:List Nat)(s i:Nat)(q:List Nat)(c:Nat):Prop:=
 q.length=i/\DR Z q/\c<2^s/\val Z q+Z^i*c=val Z (a.take i)*2^s
theorem KL.start(a:List Nat)(s:Nat):KL a s 0 [] 0:=⟨rfl,DR.nil _,Ci s,by simp[val]⟩
theorem KL.step(h:KL f s i q c)(g:d<Z)(e:c'<2^s)(j:d+Z*c'=c+f[i]?.getD 0*2^s):KL f s (i+1) (q++[d]) c':=by
 obtain⟨a,b,l,m⟩:=h;refine⟨by simp;omega,b.append (DR.cons g (DR.nil _)),e,?_⟩;rw[YV,a,Jr,AA,AO,Ay,Ay];have k:Z^i*d+Z^i*(Z*c')=Z^i*c+Z^i*(f[i]?.getD 0*2^s):=by
  rw[<-Az,j,Az]
 omega
theorem Ze{P:Nat}(hs:s<=63)(i:x<Z):
 EX (P%2^s) (64-s) ||| EN x s=EX (P%2^s) (64-s)+EN x s/\EX (P%2^s) (64-s)+EN x s<Z/\EX x (64-s)=EX ((x+Z*P)%2^s) (64-s)/\
 (x+Z*P)/2^s=EX (P%2^s) (64-s)+EN x s+Z*(P/2^s):=by
 have hp:=LS (s:=s) O;rw[LT O,LT O,LT O,show 64-(64-s)=s from by omega,Nat.mod_mod];have c:EN x s<2^(64-s):=by
  unfold EN;rw[AZ (Ci _),Au,hp];exact i
 have d:=Ca P (Ci s);have g:=Ch P (2^s);refine⟨?_,?_,?_,?_⟩
 . rw[Au,<-Fo c]
 . have f:(P%2^s+1)*2^(64-s)<=2^s*2^(64-s):=Ak _ d;rw[AA,CB,hp]at f;omega
 . congr 1;rw[<-hp,Ay,CY,Nat.mod_mod]
 . unfold EN;have e:x+Z*P=x+2^s*(P%2^s*2^(64-s)+Z*(P/2^s)):=by
    rw[<-hp];generalize P/2^s=a at *;generalize P%2^s=b at *;generalize 2^(64-s)=E at *;generalize 2^s=F at *;rw[<-g];grind
   rw[e,Fh _ _ (Ci _)];omega
theorem Zf(B:Nat)(ds:List Nat)(k:Nat)(h:k<ds.length):val B (ds.drop k)=ds[k]?.getD 0+B*val B (ds.drop (k+1)):=by
 rw[A4 h,Yc,Ai h];rfl
def Gq(R0 V n K k:Nat)(D Q:List Nat):Prop:=
 D.length=K+n/\DR Z D/\Q.length=K/\DR Z Q/\val Z D<V*Z^k/\R0=val Z D+V*val Z Q/\∀j,j<k->Q[j]?.getD 0=0
theorem Gq.win(h:Gq R0 V n K (k+1) D Q)(q:k<K)(p:V<Z^n):
 val Z ((D.drop k).take (n+1))<V*Z/\val Z D=val Z (D.take k)+Z^k*val Z ((D.drop k).take (n+1))/\val Z (D.drop (k+(n+1)))=0:=by
 obtain⟨g,i,j,l,f,m,o⟩:=h;have d:val Z D<Z^(k+(n+1)):=by
  have e:Z^(k+(n+1))=Z^n*Z^(k+1):=by rw[<-CG];congr 1;omega
  rw[e];exact AH f (Ak _ O)
 have c:=Od O d;have a:=val_append Z (D.take k) (D.drop k);rw[Cv,Am,CK O]at a;have b:=val_append Z ((D.drop k).take (n+1)) ((D.drop k).drop (n+1));rw[Cv,FR,c,CA,Cq]at b;rw[b]at a;refine⟨?_,a,c⟩;rcases AR (val Z ((D.drop k).take (n+1))) (V*Z)with h|h
 . exact h
 . exfalso
   have:=Aq (Z^k) h;have e:Z^k*(V*Z)=V*Z^(k+1):=by rw[AO];grind
   omega
theorem Gq.step(h:Gq R0 V n K (k+1) D Q)(u:k<K)(s:V<Z^n)(v:q.length=n+1)(hq:DR Z q)
(g:val Z q=val Z ((D.drop k).take (n+1))%V)(f:0<V):
 Gq R0 V n K k (Db D k (n+1) q) (Q.set k (val Z ((D.drop k).take (n+1))/V)):=by
 obtain⟨w,y,z⟩:=h.win u s;obtain⟨m,b,o,p,A,r,e⟩:=h;generalize F:val Z ((D.drop k).take (n+1))=W at *;have t:=Ch W V;have l:=Ca W f;have i:W/V<Z:=by rw[AZ f,Au];exact w
 have c:val Z (Db D k (n+1) q)=val Z (D.take k)+Z^k*val Z q:=by
  rw[Db,val_append,val_append,Am,CK O,z];simp
 have d:=Oc Z Q k (W/V) O;rw[e k O,CA,Cq]at d;have H:val Z (D.take k)<Z^k:=by
  have:=Yu (b.take k);rwa[Am,CK O]at this
 refine⟨by rw[J6 v O];exact m,?_,by rw[Cx];exact o,?_,?_,?_,?_⟩
 . intro x a;rw[Db]at a;rcases C7.1 a with a|a
   . exact(b.take k) x a
   . rcases C7.1 a with a|a
     . exact hq x a
     . exact(b.drop _) x a
 . intro x a;rcases List.mem_or_eq_of_mem_set a with a|a
   . exact p x a
   . rw[a];exact i
 . rw[c,g];have:=Aq (Z^k) (show W%V+1<=V from l);rw[Az,FC,Au _ V]at this;omega
 . rw[c,d,g,r,y,Az];have:Z^k*W=Z^k*(W%V)+V*(Z^k*(W/V)):=by
    conv=>lhs;rw[<-t]
    grind
   omega
 . intro j G;rw[AY O];exact e j O
theorem Gq.start(b:D.length=K+n)(c:DR Z D)(a:val Z D=R0)(d:R0<V*Z^K):Gq R0 V n K K D (List.replicate K 0):=
 ⟨b,c,Av,λx f=>by rw[CL f];unfold Z;omega,by rw[a];exact d,by rw[RH,CA,a,Cq],λj _=>by
  by_cases e:j<K
  . rw[List.getElem?_replicate_of_lt e];rfl
  . rw[At (by rw[Av];omega)];rfl⟩
theorem Gq.fin{b:Nat}(h:Gq R0 V n K 0 D Q)(f:R0=m*2^s)(g:V=b*2^s):JA Q=Jd Z (m/b)/\val Z D=m%b*2^s:=by
 obtain⟨j,k,l,i,a,e,o⟩:=h;rw[Nat.pow_zero,FC]at a;have c:R0/V=val Z Q:=by rw[e,Fh _ _ O,Cg a,Cc]
 have d:R0%V=val Z D:=by rw[e,CY,Ct a]
 rw[f,g,Nat.mul_div_mul_right _ _ (Ci s)]at c;rw[f,g,Nat.mul_mod_mul_right]at d;exact⟨by rw[<-Yh Jg i,<-c],d.symm⟩
theorem Zg(f ro len cap:Nat)(xs:List Nat)(a:Option Addr)(cb:Nat)(bs:List Nat)(wd:Nat)(w:World)
(U:DU w f xs)(I:DR Z xs)(aj:ro+(len+1)<=xs.length)(af:len+1<=cap)(D:Row C w (B a len cb) bs)(W:DR Z bs)(F:∀p,a=some p->0<len->p.block≠f)(H:wd<Z):
 Calls Tryz.prog 187 #[B (some ⟨f,ro,none⟩) (len+1) cap,B a len cb,E C (wd:Nat)] w λe z=>
  ∃c q,e=.returned (E C (c:Nat))/\(c<=1/\q.length=len+1/\DR Z q/\val Z q+val Z bs*wd=val Z ((xs.drop ro).take (len+1))+Z^(len+1)*c)/\DU z f (Db xs ro (len+1) q)/\w.grownBy z (some f):=by
 obtain⟨hl,ah,ae,ai,k⟩:=Jy D;obtain⟨M,L,N⟩:=Di hl k F;clear k hl F D;go_enter Tryz.func187,Tryz.ntmps187
 go_wp2;go_loopw [7,8,16] (λov T v wr=>∃(i over c:Nat) (q:List Nat),v=E .i64 i/\ov=E C (over:Nat)/\T=E C (c:Nat)/\i<=len/\over<Z/\c<=1/\Hid (IL xs bs ro wd i over c q)/\DU wr f (Db xs ro i q)/\w.grownBy wr (some f))
  (λ_ _ v _=>len-(intOf v).toNat)
 case atStart=>exact⟨0,0,0,[],rfl,rfl,rfl,AC _,by unfold Z;omega,O,IL.start _ _ _ _,by rw[mid_zero];exact U,YW _ _⟩
 case round=>
  obtain⟨i,over,c,q,rfl,rfl,rfl,hi,G,m,l,g,u⟩:=hrel;by_cases X:i<len
  . obtain⟨b,off,rfl,V,k⟩:=L.o i X;have R:=N.o _ rfl O;have hq:=l.o.1;have ad:wr.cell? ⟨b,off+i,none⟩=some (E C (bs[i]?.getD 0:Nat)):=(BO (w:=w) (u.block b V λe=>R (by cases e;rfl))).trans k;have P:wr.cell? ⟨f,ro+i,none⟩=some (E C (xs[ro+i]?.getD 0:Nat)):=by rw[<-Ik hq O];exact g.cell (by rw[J6 hq O];omega)
    have Q:=g.frozen (ro+i);have A:=W.getD uo i;have t:=I.getD uo (ro+i);obtain⟨n,y,o,s4,K⟩:=ZZ A H t G m;have j:=J (l.o.step _ _ _ y n o K);have s:=J (show ∀d,(Db xs ro i q).set (ro+i) d=Db xs ro (i+1) (q++[d])from λd=>KH hq O d);clear k hq K;generalize bs[i]?.getD 0=x at *;generalize xs[ro+i]?.getD 0=r at *;have a1:=MT (YD x wd) over;have S:=MU r (YP (YD x wd) over 0) c m;unfold Z at n;go_wp2_with(first
     |(go_at_call 183;refine(Il _ _ A H _).mono ?_;rintro e z ⟨rfl,rfl⟩))
    exact⟨⟨i+1,X7 x wd+Xn (YD x wd) over 0,Gn r (YP (YD x wd) over 0) c,q++[Hc r (YP (YD x wd) over 0) c],Y,Y,rfl,O,j.o.2.2.1,j.o.2.2.2.1,j,by rw[<-s.o];exact g.set _ _,Ji u (JI _ _ _ _)⟩,by simp[intOf];omega⟩
  . obtain rfl:i=len:=O
    have hq:=l.o.1;have P:wr.cell? ⟨f,ro+i,none⟩=some (E C (xs[ro+i]?.getD 0:Nat)):=by rw[<-Ik hq O];exact g.cell (by rw[J6 hq O];omega)
    have Q:=g.frozen (ro+i);have t:=I.getD uo (ro+i);obtain⟨n,y,o⟩:=OQ t G m;have j:=J (l.o.last M.o.symm n o);have s:=J (show ∀d,(Db xs ro i q).set (ro+i) d=Db xs ro (i+1) (q++[d])from λd=>KH hq O d);clear hq o;generalize xs[ro+i]?.getD 0=r at *;have S:=MU r over c m;go_wp2;go_ret;exact⟨Gn r over c,_,rfl,⟨y,j.o⟩,by rw[<-s.o];exact g.set _ _,Ji u (JI _ _ _ _)⟩
