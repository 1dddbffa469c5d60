import Derived.Test.YtakpoihdghihmaaGreatDoorC10
import Derived.Test.YtakpoihdghihmaaGreatDoorC09
open Go.Value renaming slice->B,int->E
open Go.IntKind renaming u64->C
set_option maxRecDepth 100000
set_option maxHeartbeats 16000000
namespace Go.Proofs.YtakpoihdghihmaaGreatDoor
open Go.RowKit Go.Shelf
variable{D Q bs f q xs:List Nat}{K R0 V c c' d i k len m n over ro s wd x:Nat}
theorem aE{o v:Nat}(h:o<f.length):(f.set o v).take (o+1)=f.take o++[v]:=by
 rw[Cg (by rw[CB];exact h),List.getElem_set_self,List.take_set,Fc (by rw[Ak];omega)]
theorem R3{b:Nat}:∀(c:List Nat) (o:Nat) (W:World) (a:List Nat),DV W b a->o+c.length<=a.length->DV (W.setCells b o (cellsOf C c)) b (a.take o++(c++a.drop (o+c.length)))
 |[],o,W,a,h,_=>by
  have e:a.take o++([]++a.drop (o+([]:List Nat).length))=a:=Z
  rw[e];exact h
 |v::r,o,W,a,h,hl=>by
  rw[Ai]at hl;have d:=R3 r (o+1) (W.setCell ⟨b,o,none⟩ (E C (v:Nat))) (a.set o v) (h.set o v) (by rw[CB];omega);rw[aE O,List.drop_set_of_lt O,Fi]at d;have e:o+1+r.length=o+(v::r).length:=by rw[Ai];omega
  rw[e]at d;exact d
theorem R4{b:Nat}:∀(a:List Value) (o:Nat) (W:World),W.grownBy (W.setCells b o a) (some b)
 |[],_,W=>Y3 W _
 |v::r,o,W=>Ji (JI W b o v) (R4 r (o+1) _)
theorem R5(ty:TypeId)(g n c:Nat)(a:List Nat)(W:World)(h:DV W g a)(k:n<=a.length):
 ∃W',(Builtin.clear_ #[33] ty #[B (some ⟨g,0,none⟩) n c]).run Tryz.prog W=.ok (.tuple #[]) W'/\DV W' g (List.replicate n 0++a.drop n)/\W.grownBy W' (some g):=by
 rcases A9 n with b|b
 . subst b;refine⟨W,?_,?_,Y3 W _⟩
   . simp[Builtin.clear_,run_underlying Tryz.underlying33]
   . rw[List.replicate_zero,Au,AW];exact h
 . have d:=Lib.run_clear_slice (P:=Tryz.prog) W 33 115 ty (E C 0) Tryz.underlying33 (λw=>by kernel_rfl) rfl rfl g 0 n c b
    (λj i=>by rw[Ch,h.cell O];rfl) λj _=>h.frozen _
   have e:(List.replicate n (Value.int C 0))=cellsOf C (List.replicate n 0):=by simp[cellsOf]
   rw[e]at d;have f:=R3 (List.replicate n 0) 0 W a h (by rw[Ay];omega);rw[FF,Au,Ay,Ch]at f;exact⟨_,d,f,R4 _ _ _⟩
theorem O2(B:Nat):∀(D:List Nat) (j d:Nat),j<D.length->val B (D.set j d)+B^j*D[j]?.getD 0=val B D+B^j*d
 |[],_,_,h=>by cases h
 |x::D,0,d,_=>by simp[val];omega
 |x::D,j+1,d,h=>by
  have a:=O2 B D j d (by simpa using h);simp only[List.set_cons_succ,val,Ag,AZ];have e:B*val B (D.set j d)+B*(B^j*D[j]?.getD 0)=B*val B D+B*(B^j*d):=by rw[<-AB,a,AB]
  have b:B^j*B*D[j]?.getD 0=B*(B^j*D[j]?.getD 0):=by rw[At (B^j) B,AA]
  have c:B^j*B*d=B*(B^j*d):=by rw[At (B^j) B,AA]
  omega
theorem R8(B n:Nat):val B (List.replicate n 0)=0:=by
 induction n with
 |zero=>rfl
 |succ n a=>rw[Fx,val,a];simp
def GN(a bs:List Nat)(i:Nat)(D:List Nat):Prop:=
 D.length=a.length+bs.length/\DQ DN D/\val DN D=val DN (a.take i)*val DN bs
theorem GN.start(a bs:List Nat):GN a bs 0 (List.replicate (a.length+bs.length) 0):=
 ⟨Ay,λx b=>by rw[CS b];unfold DN;omega,by rw[R8];simp[val]⟩
theorem R9{B:Nat}(c:0<B):∀ {D:List Nat},val B D=0->∀j:Nat,D[j]?.getD 0=0
 |[],_,j=>by simp
 |d::D,h,0=>by
  rw[Yi]at h;show d=0;omega
 |d::D,h,j+1=>by
  rw[Yi]at h;have a:B*val B D=0:=O
  have b:val B D=0:=by
   rcases Nat.mul_eq_zero.1 a with h|h
   . omega
   . exact h
  rw[Ag];exact R9 c b j
theorem O3{B:Nat}(c:k<=D.length)(h:val B D<B^k):val B (D.drop k)=0:=by
 have e:val B D=val B (D.take k)+B^k*val B (D.drop k):=by
  have b:=val_append B (D.take k) (D.drop k);rw[Cw,Ak,CR c]at b;exact b
 rcases A9 (val B (D.drop k))with a|a
 . exact a
 . have:=Ap (B^k) a;omega
theorem GN.step(h:GN f bs i D)(v:DQ DN f)(u:DQ DN bs)(z:i<f.length)(w:wd=f[i]?.getD 0)(hq:X9 D bs i wd bs.length over q):
 GN f bs (i+1) ((Dd D i bs.length q).set (i+bs.length) over):=by
 obtain⟨t,l,m⟩:=h;obtain⟨n,q2,y,o⟩:=hq;have p:val DN D<DN^(i+bs.length):=by
  rw[m,CV];have b:=YB (v.take i);rw[Ak,CR O]at b;have c:=YB u;rcases A9 (val DN bs)with k|k
  . rw[k,CF];exact DM (C6 uo) (C6 uo)
  . exact Nat.mul_lt_mul'' b c
 have d:=O3 O p;have e:(Dd D i bs.length q).length=D.length:=J7 n O;refine⟨by rw[CB,e];exact t,?_,?_⟩
 . intro x a;rcases List.mem_or_eq_of_mem_set a with a|a
   . rw[Dd]at a;rcases Fm.1 a with a|a
     . exact(l.take i) x a
     . rcases Fm.1 a with a|a
       . exact q2 x a
       . exact(l.drop _) x a
   . rw[a];exact y
 . have b:=O2 DN (Dd D i bs.length q) (i+bs.length) over (by rw[e];omega);have c:(Dd D i bs.length q)[i+bs.length]?.getD 0=0:=by
    rw[Im n O];have:=R9 uo d 0;rw[CZ,Ct]at this;exact this
   rw[c,CF,Ct]at b;rw[b];have r:val DN (Dd D i bs.length q)=val DN (D.take i)+DN^i*val DN q:=by
    rw[Dd,val_append,val_append,Ak,CR O,d];simp
   have s:val DN D=val DN (D.take i)+DN^i*val DN ((D.drop i).take bs.length):=by
    have g:=val_append DN (D.take i) (D.drop i);rw[Cw,Ak,CR O]at g;have j:=val_append DN ((D.drop i).take bs.length) ((D.drop i).drop bs.length);rw[Cw,FY,d,CF,Ct]at j;rw[g,j]
   rw[Ac (Aa _)]at o;rw[r,CV,AA,Fh,<-AB,o,AB,<-Fh,<-s,m,Jt,AC,w,AA,At (f[i]?.getD 0)]
theorem GN.fin(h:GN f bs f.length D)(c:f=Je DN m)(d:bs=Je DN n):JA D=Je DN (m*n):=by
 obtain⟨_,b,a⟩:=h;rw[Ac (Aa _)]at a;rw[<-Yg Jg b,a,c,d,Jq Jg,Jq Jg]
theorem X9.tail(h:X9 (D++f) bs i wd len over q)(e:i+len<=D.length):X9 D bs i wd len over q:=by
 obtain⟨b,c,d,a⟩:=h;refine⟨b,c,d,?_⟩;rw[C9 O,Cc (by rw[AR];omega)]at a;exact a
theorem SA(a:i+len<=D.length):Dd (D++f) i len q=Dd D i len q++f:=by
 rw[Dd,Dd,Cc O,C9 a];simp
theorem aF(g rl rc:Nat)(c:List Nat)(a:Option Addr)(la ca:Nat)(b:Option Addr)(lb cb m n:Nat)(w:World)
(f:DV w g c)(az:DQ DN c)(hz:la+lb<=c.length)(ap:la+lb<=rc)(ay:rc<=9223372036854775807)(ax:la+lb<=1099511627776)
(ra:Row C w (B a la ca) (Je DN m))(H:Row C w (B b lb cb) (Je DN n))(ak:∀p,a=some p->0<la->p.block≠g)(am:∀p,b=some p->0<lb->p.block≠g):
 Calls Tryz.prog 168 #[B (some ⟨g,0,none⟩) rl rc,B a la ca,B b lb cb] w λe I=>∃u,e=.returned u/\(UN I u (m*n)/\w.grownBy I (some g))/\(u=B none 0 0\/∃l,u=B (some ⟨g,0,none⟩) l rc)/\∃K,DV I g K/\DQ DN K/\K.length=c.length:=by
 obtain⟨A,bc,bj,bi,ah⟩:=Jw ra;have x:=(Jw H).1;have xa:=Ju Jg m;have xb:=Ju Jg n;have N:=Y λD (h:GN (Je DN m) (Je DN n) (Je DN m).length D)=>h.fin (m:=m) (n:=n) rfl rfl;have M:=Y H;generalize Je DN m=r at *;generalize Je DN n=o at *;obtain⟨W1,aq,hA1,ad⟩:=R5 0 g (la+lb) rc c w f hz;have t:=Y (GN.start r o);rw[<-A,<-x]at t;have T:DQ DN (c.drop (la+lb)):=az.drop _;have Qn:(c.drop (la+lb)).length=c.length-(la+lb):=AR;obtain⟨W,hZ⟩:∃W,W=c.length:=⟨_,rfl⟩;rw[<-hZ]at Qn hz ⊢;generalize c.drop (la+lb)=k at *;obtain⟨L,z,Q,S,v⟩:=He ah A x ak am;clear ah A x ra H hZ f ak am;go_enter Tryz.func168,Tryz.ntmps168
 go_wp2;go_loopw [19] (λG wr=>∃(i:Nat) (D:List Nat),G=E .i64 i/\i<=la/\Hid (GN r o i D)/\DV wr g (D++k)/\w.grownBy wr (some g))
  (λG _=>la-(intOf G).toNat)
 case atStart=>exact⟨0,_,rfl,Az _,t.o,hA1,ad⟩
 case round=>
  clear t hA1 ad aq;obtain⟨i,D,rfl,hi,d,f,s⟩:=hrel;have Ql:=d.o.1;rw[<-z.o,<-Q.o]at Ql;by_cases aj:i<la
  . obtain⟨X,ao,rfl,an,af⟩:=L.o i aj;have bg:wr.cell? ⟨X,ao+i,none⟩=some (E C (r[i]?.getD 0:Nat)):=(BO (w:=w) (s.block X an λe=>S.o _ rfl O (by cases e;rfl))).trans af;have hw:=xa.getD uo i;have V:=Y λover q (h:X9 D o i (r[i]?.getD 0) o.length over q)=>d.o.step xa xb (by rw[<-z.o];exact aj) rfl h;have Qo:Row C wr (B b lb cb) o:=Row.grown M.o s v.o;have y:DQ DN (D++k):=d.o.2.1.append T;rw[<-Q.o]at V;generalize r[i]?.getD 0=wd at *;clear af;go_wp2_with(go_at_call 167;refine(Ow g i lb _ (D++k) b cb o wd _ f y (by rw[Aq];omega) O Qo xb v.o hw).mono ?_;rintro e w5 ⟨over,q,rfl,hq,hA5,aw⟩;have U:=J7 hq.1 (xs:=D++k) (ro:=i) (by rw[Aq];omega);have bf:=hA5.cell (j:=i+lb) (by rw[U,Aq];omega);have bh:=hA5.frozen (i+lb);have P:=Y hq;clear hq U)
    have R:=hA5.set (i+lb) over;rw[SA O,FZ _ _ (by rw[J7 P.o.1 O];omega)]at R;exact⟨⟨i+1,(Dd D i lb q).set (i+lb) over,Z,O,V.o over q (P.o.tail O),R,Ji (Ji s aw) (JI _ _ _ _)⟩,by simp[intOf];omega⟩
  . obtain rfl:i=la:=O
    have Qc:Row C wr (B (some ⟨g,0,none⟩) (i+lb) rc) D:=by
     have h1:=f.row 0 (i+lb) rc (by rw[Aq];omega) ap ay ax;rwa[AW,Cc O,Ac O]at h1
    have Qm:=Y (N.o D (by rw[<-z.o];exact d.o));have y:DQ DN (D++k):=d.o.2.1.append T;clear d N L M S v;go_wp2_with(go_at_call 73;refine(Oe _ _ _ D _ Qc).mono ?_;rintro e w5 ⟨u,rfl,⟨F,ae⟩,ai⟩;rw[Qm.o]at F ai;obtain⟨ua,uc,rfl⟩:=UN.form F)
    go_ret;refine⟨_,rfl,⟨F,Ji s (Yb ae _)⟩,?_,D++k,f.below ae,y,by rw[Aq];omega⟩;rcases ai with⟨e,_⟩|e
    . exact Or.inl e
    . exact Or.inr ⟨_,e⟩
theorem GN.fing(h:GN f bs f.length D):JA D=Je DN (val DN f*val DN bs):=by
 obtain⟨_,b,a⟩:=h;rw[Ac (Aa _)]at a;rw[<-Yg Jg b,a]
theorem aG(g rl rc:Nat)(f:List Nat)(a:Option Addr)(la ca:Nat)(b:Option Addr)(lb cb:Nat)(c d:List Nat)(w:World)(xa:DQ DN c)(xb:DQ DN d)
(m:DV w g f)(ay:DQ DN f)(hz:la+lb<=f.length)(an:la+lb<=rc)(ax:rc<=9223372036854775807)(aw:la+lb<=1099511627776)
(ra:Row C w (B a la ca) c)(F:Row C w (B b lb cb) d)(aj:∀p,a=some p->0<la->p.block≠g)(ak:∀p,b=some p->0<lb->p.block≠g):
 Calls Tryz.prog 168 #[B (some ⟨g,0,none⟩) rl rc,B a la ca,B b lb cb] w λe G=>∃u,e=.returned u/\(UN G u (val DN c*val DN d)/\w.grownBy G (some g))/\(u=B none 0 0\/∃l,u=B (some ⟨g,0,none⟩) l rc)/\∃H,DV G g H/\DQ DN H/\H.length=f.length:=by
 obtain⟨y,az,bi,bh,af⟩:=Jw ra;have t:=(Jw F).1;have L:=Y λD (h:GN c d c.length D)=>h.fing;have K:=Y F;obtain⟨W1,ap,hA1,W⟩:=R5 0 g (la+lb) rc f w m hz;have r:=Y (GN.start c d);rw[<-y,<-t]at r;have R:DQ DN (f.drop (la+lb)):=ay.drop _;have Qn:(f.drop (la+lb)).length=f.length-(la+lb):=AR;obtain⟨U,X⟩:∃U,U=f.length:=⟨_,rfl⟩;rw[<-X]at Qn hz ⊢;generalize f.drop (la+lb)=n at *;obtain⟨I,x,N,Q,s⟩:=He af y t aj ak;clear af y t ra F X m aj ak;go_enter Tryz.func168,Tryz.ntmps168
 go_wp2;go_loopw [19] (λA wr=>∃(i:Nat) (D:List Nat),A=E .i64 i/\i<=la/\Hid (GN c d i D)/\DV wr g (D++n)/\w.grownBy wr (some g))
  (λA _=>la-(intOf A).toNat)
 case atStart=>exact⟨0,_,rfl,Az _,r.o,hA1,W⟩
 case round=>
  clear r hA1 W ap;obtain⟨i,D,rfl,hi,k,m,o⟩:=hrel;have Ql:=k.o.1;rw[<-x.o,<-N.o]at Ql;by_cases ai:i<la
  . obtain⟨V,ao,rfl,am,ae⟩:=I.o i ai;have bf:wr.cell? ⟨V,ao+i,none⟩=some (E C (c[i]?.getD 0:Nat)):=(BO (w:=w) (o.block V am λe=>Q.o _ rfl O (by cases e;rfl))).trans ae;have hw:=xa.getD uo i;have T:=Y λover q (h:X9 D d i (c[i]?.getD 0) d.length over q)=>k.o.step xa xb (by rw[<-x.o];exact ai) rfl h;have Qo:Row C wr (B b lb cb) d:=Row.grown K.o o s.o;have v:DQ DN (D++n):=k.o.2.1.append R;rw[<-N.o]at T;generalize c[i]?.getD 0=wd at *;clear ae;go_wp2_with(go_at_call 167;refine(Ow g i lb _ (D++n) b cb d wd _ m v (by rw[Aq];omega) O Qo xb s.o hw).mono ?_;rintro e w5 ⟨over,q,rfl,hq,hA5,aq⟩;have S:=J7 hq.1 (xs:=D++n) (ro:=i) (by rw[Aq];omega);have bc:=hA5.cell (j:=i+lb) (by rw[S,Aq];omega);have bg:=hA5.frozen (i+lb);have M:=Y hq;clear hq S)
    have P:=hA5.set (i+lb) over;rw[SA O,FZ _ _ (by rw[J7 M.o.1 O];omega)]at P;exact⟨⟨i+1,(Dd D i lb q).set (i+lb) over,Z,O,T.o over q (M.o.tail O),P,Ji (Ji o aq) (JI _ _ _ _)⟩,by simp[intOf];omega⟩
  . obtain rfl:i=la:=O
    have Qc:Row C wr (B (some ⟨g,0,none⟩) (i+lb) rc) D:=by
     have h1:=m.row 0 (i+lb) rc (by rw[Aq];omega) an ax aw;rwa[AW,Cc O,Ac O]at h1
    have Qm:=Y (L.o D (by rw[<-x.o];exact k.o));have v:DQ DN (D++n):=k.o.2.1.append R;clear k L I K Q s;go_wp2_with(go_at_call 73;refine(Oe _ _ _ D _ Qc).mono ?_;rintro e w5 ⟨u,rfl,⟨z,ad⟩,ah⟩;rw[Qm.o]at z ah;obtain⟨ua,uc,rfl⟩:=UN.form z)
    go_ret;refine⟨_,rfl,⟨z,Ji o (Yb ad _)⟩,?_,D++n,m.below ad,v,by rw[Aq];omega⟩;rcases ah with⟨e,_⟩|e
    . exact Or.inl e
    . exact Or.inr ⟨_,e⟩
theorem Iq:DN=2^64:=by unfold DN;rfl
def IY(xs bs:List Nat)(ro wd i over c:Nat)(q:List Nat):Prop:=
 q.length=i/\DQ DN q/\over<DN/\c<=1/\val DN q+val DN (bs.take i)*wd=val DN ((xs.drop ro).take i)+DN^i*(over+c)
theorem IY.start(xs bs:List Nat)(ro wd:Nat):IY xs bs ro wd 0 0 0 []:=⟨rfl,DQ.nil _,by unfold DN;omega,O,by simp[val]⟩
theorem IY.step(h:IY xs bs ro wd i over c q)(d a c':Nat)(g:d<DN)(k:a<DN)(f:c'<=1)(j:d+bs[i]?.getD 0*wd+over+c=xs[ro+i]?.getD 0+DN*(a+c')):IY xs bs ro wd (i+1) a c' (q++[d]):=by
 obtain⟨b,e,m,n,o⟩:=h;refine⟨by simp;omega,e.append (DQ.cons g (DQ.nil _)),k,f,?_⟩;rw[Y1,b,Jt,Jt,CZ,AC,AZ,AA,AA];have l:DN^i*d+DN^i*(bs[i]?.getD 0*wd)+DN^i*(over+c)=DN^i*(xs[ro+i]?.getD 0)+DN^i*(DN*(a+c')):=by
  rw[<-AB,<-AB,<-Fh,j,AB]
 omega
theorem aH{y r:Nat}(a:x<DN)(b:y<DN)(f:r<DN)(e:over<DN)(d:c<=1):
 Ep x y+Xv (YK x y) over 0<DN/\Hv r (YU (YK x y) over 0) c<DN/\Hd r (YU (YK x y) over 0) c<=1/\YU (YK x y) over 0<DN/\
 Hv r (YU (YK x y) over 0) c+x*y+over+c=r+DN*(Ep x y+Xv (YK x y) over 0+Hd r (YU (YK x y) over 0) c):=by
 have hp:=Ru a b;unfold Ep YK Xv YU Hv Hd;generalize x*y=p at *;unfold DN at *;split<;>omega
theorem IY.last(h:IY xs bs ro wd n over c q)(l:bs.length=n)(f:d<DN)(g:d+over+c=xs[ro+n]?.getD 0+DN*c'):
 (q++[d]).length=n+1/\DQ DN (q++[d])/\val DN (q++[d])+val DN bs*wd=val DN ((xs.drop ro).take (n+1))+DN^(n+1)*c':=by
 obtain⟨a,b,j,k,e⟩:=h;refine⟨by simp;omega,b.append (DQ.cons f (DQ.nil _)),?_⟩;rw[Ac O]at e;rw[Y1,a,Jt,CZ,AZ,AA];have i:DN^n*d+DN^n*(over+c)=DN^n*(xs[ro+n]?.getD 0)+DN^n*(DN*c'):=by
  rw[<-AB,<-Fh,g,AB]
 omega
def EU(x s:Nat):Nat:=x*2^s%DN
def EK(x s:Nat):Nat:=x/2^s
theorem Ls(a:s<=64):2^s*2^(64-s)=DN:=by rw[<-CV,show s+(64-s)=64 from by omega];rfl
theorem Lt(a:s<=64):EU x s=x%2^(64-s)*2^s:=by
 unfold EU;rw[<-Ls a,At (2^s),Nat.mul_mod_mul_right]
theorem aI(k:s<=63)(j:x<DN)(g:c<2^s):c ||| EU x s=c+EU x s/\c+EU x s<DN/\EK x (64-s)<2^s/\c+EU x s+DN*EK x (64-s)=c+x*2^s:=by
 rw[Lt O];have hp:=Ls (s:=s) O;have i:=Cl x (2^(64-s));have d:=Ci x (Cm (64-s));unfold EK;have e:c ||| x%2^(64-s)*2^s=c+x%2^(64-s)*2^s:=by
  rw[Nat.or_comm,At,<-Fz g,Fy]
 refine⟨e,?_,?_,?_⟩
 . have f:(x%2^(64-s)+1)*2^s<=2^(64-s)*2^s:=Ah _ d;rw[AC,CG,At (2^(64-s)),hp]at f;omega
 . rw[Ca (Cm _),hp];exact j
 . rw[<-hp];generalize x/2^(64-s)=a at *;generalize x%2^(64-s)=b at *;generalize 2^(64-s)=E at *;generalize 2^s=F at *;rw[<-i];grind
def KS(a:List Nat)(s i:Nat)(q:List Nat)(c:Nat):Prop:=
 q.length=i/\DQ DN q/\c<2^s/\val DN q+DN^i*c=val DN (a.take i)*2^s
theorem KS.start(a:List Nat)(s:Nat):KS a s 0 [] 0:=⟨rfl,DQ.nil _,Cm s,by simp[val]⟩
theorem KS.step(h:KS f s i q c)(g:d<DN)(e:c'<2^s)(j:d+DN*c'=c+f[i]?.getD 0*2^s):KS f s (i+1) (q++[d]) c':=by
 obtain⟨a,b,l,m⟩:=h;refine⟨by simp;omega,b.append (DQ.cons g (DQ.nil _)),e,?_⟩;rw[Y1,a,Jt,AC,AZ,AA,AA];have k:DN^i*d+DN^i*(DN*c')=DN^i*c+DN^i*(f[i]?.getD 0*2^s):=by
  rw[<-AB,j,AB]
 omega
theorem aJ{P:Nat}(j:s<=63)(i:x<DN):
 EU (P%2^s) (64-s) ||| EK x s=EU (P%2^s) (64-s)+EK x s/\EU (P%2^s) (64-s)+EK x s<DN/\EU x (64-s)=EU ((x+DN*P)%2^s) (64-s)/\
 (x+DN*P)/2^s=EU (P%2^s) (64-s)+EK x s+DN*(P/2^s):=by
 have hp:=Ls (s:=s) O;rw[Lt O,Lt O,Lt O,show 64-(64-s)=s from by omega,Nat.mod_mod];have c:EK x s<2^(64-s):=by
  unfold EK;rw[Ca (Cm _),At,hp];exact i
 have d:=Ci P (Cm s);have g:=Cl P (2^s);refine⟨?_,?_,?_,?_⟩
 . rw[At,<-Fz c]
 . have f:(P%2^s+1)*2^(64-s)<=2^s*2^(64-s):=Ah _ d;rw[AC,CG,hp]at f;omega
 . congr 1;rw[<-hp,AA,C5,Nat.mod_mod]
 . unfold EK;have e:x+DN*P=x+2^s*(P%2^s*2^(64-s)+DN*(P/2^s)):=by
    rw[<-hp];generalize P/2^s=a at *;generalize P%2^s=b at *;generalize 2^(64-s)=E at *;generalize 2^s=F at *;rw[<-g];grind
   rw[e,Fp _ _ (Cm _)];omega
theorem aK(B:Nat)(ds:List Nat)(k:Nat)(h:k<ds.length):val B (ds.drop k)=ds[k]?.getD 0+B*val B (ds.drop (k+1)):=by
 rw[Cp h,Yi,Af h];rfl
def Hf(R0 V n K k:Nat)(D Q:List Nat):Prop:=
 D.length=K+n/\DQ DN D/\Q.length=K/\DQ DN Q/\val DN D<V*DN^k/\R0=val DN D+V*val DN Q/\∀j,j<k->Q[j]?.getD 0=0
theorem Hf.win(h:Hf R0 V n K (k+1) D Q)(q:k<K)(p:V<DN^n):
 val DN ((D.drop k).take (n+1))<V*DN/\val DN D=val DN (D.take k)+DN^k*val DN ((D.drop k).take (n+1))/\val DN (D.drop (k+(n+1)))=0:=by
 obtain⟨g,i,j,l,f,m,o⟩:=h;have d:val DN D<DN^(k+(n+1)):=by
  have e:DN^(k+(n+1))=DN^n*DN^(k+1):=by rw[<-CV];congr 1;omega
  rw[e];exact AP f (Ah _ O)
 have c:=O3 O d;have a:=val_append DN (D.take k) (D.drop k);rw[Cw,Ak,CR O]at a;have b:=val_append DN ((D.drop k).take (n+1)) ((D.drop k).drop (n+1));rw[Cw,FY,c,CF,Ct]at b;rw[b]at a;refine⟨?_,a,c⟩;rcases AQ (val DN ((D.drop k).take (n+1))) (V*DN)with h|h
 . exact h
 . exfalso
   have:=Ap (DN^k) h;have e:DN^k*(V*DN)=V*DN^(k+1):=by rw[AZ];grind
   omega
theorem Hf.step(h:Hf R0 V n K (k+1) D Q)(u:k<K)(s:V<DN^n)(v:q.length=n+1)(hq:DQ DN q)
(g:val DN q=val DN ((D.drop k).take (n+1))%V)(f:0<V):
 Hf R0 V n K k (Dd D k (n+1) q) (Q.set k (val DN ((D.drop k).take (n+1))/V)):=by
 obtain⟨w,y,z⟩:=h.win u s;obtain⟨m,b,o,p,A,r,e⟩:=h;generalize F:val DN ((D.drop k).take (n+1))=W at *;have t:=Cl W V;have l:=Ci W f;have i:W/V<DN:=by rw[Ca f,At];exact w
 have c:val DN (Dd D k (n+1) q)=val DN (D.take k)+DN^k*val DN q:=by
  rw[Dd,val_append,val_append,Ak,CR O,z];simp
 have d:=O2 DN Q k (W/V) O;rw[e k O,CF,Ct]at d;have H:val DN (D.take k)<DN^k:=by
  have:=YB (b.take k);rwa[Ak,CR O]at this
 refine⟨by rw[J7 v O];exact m,?_,by rw[CB];exact o,?_,?_,?_,?_⟩
 . intro x a;rw[Dd]at a;rcases Fm.1 a with a|a
   . exact(b.take k) x a
   . rcases Fm.1 a with a|a
     . exact hq x a
     . exact(b.drop _) x a
 . intro x a;rcases List.mem_or_eq_of_mem_set a with a|a
   . exact p x a
   . rw[a];exact i
 . rw[c,g];have:=Ap (DN^k) (show W%V+1<=V from l);rw[AB,FC,At _ V]at this;omega
 . rw[c,d,g,r,y,AB]
   have:DN^k*W=DN^k*(W%V)+V*(DN^k*(W/V)):=by
    conv=>lhs;rw[<-t]
    grind
   omega
 . intro j G;rw[A6 O];exact e j O
theorem Hf.start(b:D.length=K+n)(c:DQ DN D)(a:val DN D=R0)(d:R0<V*DN^K):Hf R0 V n K K D (List.replicate K 0):=
 ⟨b,c,Ay,λx f=>by rw[CS f];unfold DN;omega,by rw[a];exact d,by rw[R8,CF,a,Ct],λj _=>by
  by_cases e:j<K
  . rw[List.getElem?_replicate_of_lt e];rfl
  . rw[As (by rw[Ay];omega)];rfl⟩
theorem Hf.fin{b:Nat}(h:Hf R0 V n K 0 D Q)(f:R0=m*2^s)(g:V=b*2^s):JA Q=Je DN (m/b)/\val DN D=m%b*2^s:=by
 obtain⟨j,k,l,i,a,e,o⟩:=h;rw[Nat.pow_zero,FC]at a;have c:R0/V=val DN Q:=by rw[e,Fp _ _ O,Cv a,Ch]
 have d:R0%V=val DN D:=by rw[e,C5,CA a]
 rw[f,g,Nat.mul_div_mul_right _ _ (Cm s)]at c;rw[f,g,Nat.mul_mod_mul_right]at d;exact⟨by rw[<-Yg Jg i,<-c],d.symm⟩
theorem aL(f ro len cap:Nat)(xs:List Nat)(a:Option Addr)(cb:Nat)(bs:List Nat)(wd:Nat)(w:World)
(U:DV w f xs)(I:DQ DN xs)(aj:ro+(len+1)<=xs.length)(af:len+1<=cap)(D:Row C w (B a len cb) bs)(W:DQ DN bs)(F:∀p,a=some p->0<len->p.block≠f)(H:wd<DN):
 Calls Tryz.prog 221 #[B (some ⟨f,ro,none⟩) (len+1) cap,B a len cb,E C (wd:Nat)] w λe z=>
  ∃c q,e=.returned (E C (c:Nat))/\(c<=1/\q.length=len+1/\DQ DN q/\val DN q+val DN bs*wd=val DN ((xs.drop ro).take (len+1))+DN^(len+1)*c)/\DV z f (Dd xs ro (len+1) q)/\w.grownBy z (some f):=by
 obtain⟨hl,ah,ae,ai,k⟩:=Jw D;obtain⟨M,L,N⟩:=Df hl k F;clear k hl F D;go_enter Tryz.func221,Tryz.ntmps221
 go_wp2;go_loopw [7,8,16] (λov T v wr=>∃(i over c:Nat) (q:List Nat),v=E .i64 i/\ov=E C (over:Nat)/\T=E C (c:Nat)/\i<=len/\over<DN/\c<=1/\Hid (IY xs bs ro wd i over c q)/\DV wr f (Dd xs ro i q)/\w.grownBy wr (some f))
  (λ_ _ v _=>len-(intOf v).toNat)
 case atStart=>exact⟨0,0,0,[],rfl,rfl,rfl,Az _,by unfold DN;omega,O,IY.start _ _ _ _,by rw[mid_zero];exact U,Y3 _ _⟩
 case round=>
  obtain⟨i,over,c,q,rfl,rfl,rfl,hi,G,m,l,g,u⟩:=hrel;by_cases X:i<len
  . obtain⟨b,off,rfl,V,k⟩:=L.o i X;have R:=N.o _ rfl O;have hq:=l.o.1;have ad:wr.cell? ⟨b,off+i,none⟩=some (E C (bs[i]?.getD 0:Nat)):=(BO (w:=w) (u.block b V λe=>R (by cases e;rfl))).trans k;have P:wr.cell? ⟨f,ro+i,none⟩=some (E C (xs[ro+i]?.getD 0:Nat)):=by rw[<-Im hq O];exact g.cell (by rw[J7 hq O];omega)
    have Q:=g.frozen (ro+i);have A:=W.getD uo i;have t:=I.getD uo (ro+i);obtain⟨n,y,o,s4,K⟩:=aH A H t G m;have j:=Y (l.o.step _ _ _ y n o K);have s:=Y (show ∀d,(Dd xs ro i q).set (ro+i) d=Dd xs ro (i+1) (q++[d])from λd=>KO hq O d);clear k hq K;generalize bs[i]?.getD 0=x at *;generalize xs[ro+i]?.getD 0=r at *;have a1:=Ml (YK x wd) over;have S:=Mm r (YU (YK x wd) over 0) c m;unfold DN at n;go_wp2_with(first
     |(go_at_call 197;refine(Io _ _ A H _).mono ?_;rintro e z ⟨rfl,rfl⟩))
    exact⟨⟨i+1,Ep x wd+Xv (YK x wd) over 0,Hd r (YU (YK x wd) over 0) c,q++[Hv r (YU (YK x wd) over 0) c],Z,Z,rfl,O,j.o.2.2.1,j.o.2.2.2.1,j,by rw[<-s.o];exact g.set _ _,Ji u (JI _ _ _ _)⟩,by simp[intOf];omega⟩
  . obtain rfl:i=len:=O
    have hq:=l.o.1;have P:wr.cell? ⟨f,ro+i,none⟩=some (E C (xs[ro+i]?.getD 0:Nat)):=by rw[<-Im hq O];exact g.cell (by rw[J7 hq O];omega)
    have Q:=g.frozen (ro+i);have t:=I.getD uo (ro+i);obtain⟨n,y,o⟩:=Oo t G m;have j:=Y (l.o.last M.o.symm n o);have s:=Y (show ∀d,(Dd xs ro i q).set (ro+i) d=Dd xs ro (i+1) (q++[d])from λd=>KO hq O d);clear hq o;generalize xs[ro+i]?.getD 0=r at *;have S:=Mm r over c m;go_wp2;go_ret;exact⟨Hd r over c,_,rfl,⟨y,j.o⟩,by rw[<-s.o];exact g.set _ _,Ji u (JI _ _ _ _)⟩
