import Derived.Test.YtakpoihdghihmaaGreatDoorQ10
import Derived.Test.YtakpoihdghihmaaGreatDoorQ09
open Go.Value renaming slice->B,int->E
open Go.IntKind renaming u64->C
set_option maxRecDepth 100000
set_option maxHeartbeats 16000000
namespace Go.Proofs.YtakpoihdghihmaaGreatDoor
open Go.RowKit Go.Shelf
variable{D Q bs f q xs:List Nat}{K R0 V c c' d g i k len m n ro s wd x:Nat}
theorem Tq{o v:Nat}(h:o<f.length):(f.set o v).take (o+1)=f.take o++[v]:=by
 rw[Cy (by rw[CK];exact h),List.getElem_set_self,List.take_set,C7 (by rw[Al];omega)]
theorem Oo{b:Nat}:∀(c:List Nat) (o:Nat) (W:World) (a:List Nat),DL W b a->o+c.length<=a.length->DL (W.setCells b o (cellsOf C c)) b (a.take o++(c++a.drop (o+c.length)))
 |[],o,W,a,h,_=>by
  have e:a.take o++([]++a.drop (o+([]:List Nat).length))=a:=Z
  rw[e];exact h
 |v::r,o,W,a,h,hl=>by
  rw[Ae]at hl;have d:=Oo r (o+1) (W.setCell ⟨b,o,none⟩ (E C (v:Nat))) (a.set o v) (h.set o v) (by rw[CK];omega);rw[Tq Y,List.drop_set_of_lt Y,C1]at d;have e:o+1+r.length=o+(v::r).length:=by rw[Ae];omega
  rw[e]at d;exact d
theorem Oq{b:Nat}:∀(a:List Value) (o:Nat) (W:World),W.grownBy (W.setCells b o a) (some b)
 |[],_,W=>Y7 W _
 |v::r,o,W=>Jl (JQ W b o v) (Oq r (o+1) _)
theorem Ot(ty:TypeId)(g n c:Nat)(a:List Nat)(W:World)(h:DL W g a)(k:n<=a.length):
 ∃W',(Builtin.clear_ #[33] ty #[B (some ⟨g,0,none⟩) n c]).run Tryz.prog W=.ok (.tuple #[]) W'/\DL W' g (List.replicate n 0++a.drop n)/\W.grownBy W' (some g):=by
 rcases Ch n with b|b
 . subst b;refine⟨W,?_,?_,Y7 W _⟩
   . simp[Builtin.clear_,run_underlying Tryz.underlying33]
   . rw[List.replicate_zero,Aq,A2];exact h
 . have d:=Lib.run_clear_slice (P:=Tryz.prog) W 33 115 ty (E C 0) Tryz.underlying33 (λw=>by kernel_rfl) rfl rfl g 0 n c b
    (λj i=>by rw[Ce,h.cell Y];rfl) λj _=>h.frozen _
   have e:(List.replicate n (Value.int C 0))=cellsOf C (List.replicate n 0):=by simp[cellsOf]
   rw[e]at d;have f:=Oo (List.replicate n 0) 0 W a h (by rw[Aw];omega);rw[Fl,Aq,Aw,Ce]at f;exact⟨_,d,f,Oq _ _ _⟩
theorem MY(B:Nat):∀(D:List Nat) (j d:Nat),j<D.length->val B (D.set j d)+B^j*D[j]?.getD 0=val B D+B^j*d
 |[],_,_,h=>by cases h
 |x::D,0,d,_=>by simp[val];omega
 |x::D,j+1,d,h=>by
  have a:=MY B D j d (by simpa using h);simp only[List.set_cons_succ,val,Ai,A4];have e:B*val B (D.set j d)+B*(B^j*D[j]?.getD 0)=B*val B D+B*(B^j*d):=by rw[<-AN,a,AN]
  have b:B^j*B*D[j]?.getD 0=B*(B^j*D[j]?.getD 0):=by rw[As (B^j) B,AJ]
  have c:B^j*B*d=B*(B^j*d):=by rw[As (B^j) B,AJ]
  omega
theorem Ou(B n:Nat):val B (List.replicate n 0)=0:=by
 induction n with
 |zero=>rfl
 |succ n a=>rw[Fz,val,a];simp
def Eh(a bs:List Nat)(i:Nat)(D:List Nat):Prop:=
 D.length=a.length+bs.length/\DJ O D/\val O D=val O (a.take i)*val O bs
theorem Eh.start(a bs:List Nat):Eh a bs 0 (List.replicate (a.length+bs.length) 0):=
 ⟨Aw,λx b=>by rw[C6 b];unfold O;omega,by rw[Ou];simp[val]⟩
theorem Ov{B:Nat}(c:0<B):∀ {D:List Nat},val B D=0->∀j:Nat,D[j]?.getD 0=0
 |[],_,j=>by simp
 |d::D,h,0=>by
  rw[Yb]at h;show d=0;omega
 |d::D,h,j+1=>by
  rw[Yb]at h;have a:B*val B D=0:=Y
  have b:val B D=0:=by
   rcases Nat.mul_eq_zero.1 a with h|h
   . omega
   . exact h
  rw[Ai];exact Ov c b j
theorem MZ{B:Nat}(c:k<=D.length)(h:val B D<B^k):val B (D.drop k)=0:=by
 have e:val B D=val B (D.take k)+B^k*val B (D.drop k):=by
  have b:=val_append B (D.take k) (D.drop k);rw[Cr,Al,CN c]at b;exact b
 rcases Ch (val B (D.drop k))with a|a
 . exact a
 . have:=Ao (B^k) a;omega
theorem Eh.step(h:Eh f bs i D)(w:DJ O f)(v:DJ O bs)(A:i<f.length)(y:wd=f[i]?.getD 0)(hq:Xl D bs i wd bs.length g q):
 Eh f bs (i+1) ((DR D i bs.length q).set (i+bs.length) g):=by
 obtain⟨u,m,n⟩:=h;obtain⟨o,q2,z,p⟩:=hq;have r:val O D<O^(i+bs.length):=by
  rw[n,CQ];have b:=YH (w.take i);rw[Al,CN Y]at b;have c:=YH v;rcases Ch (val O bs)with l|l
  . rw[l,CO];exact DH (CU uo) (CU uo)
  . exact Nat.mul_lt_mul'' b c
 have d:=MZ Y r;have e:(DR D i bs.length q).length=D.length:=JV o Y;refine⟨by rw[CK,e];exact u,?_,?_⟩
 . intro x a;rcases List.mem_or_eq_of_mem_set a with a|a
   . rw[DR]at a;rcases Fq.1 a with a|a
     . exact(m.take i) x a
     . rcases Fq.1 a with a|a
       . exact q2 x a
       . exact(m.drop _) x a
   . rw[a];exact z
 . have b:=MY O (DR D i bs.length q) (i+bs.length) g (by rw[e];omega);have c:(DR D i bs.length q)[i+bs.length]?.getD 0=0:=by
    rw[Gh o Y];have:=Ov uo d 0;rw[CY,Cn]at this;exact this
   rw[c,CO,Cn]at b;rw[b];have s:val O (DR D i bs.length q)=val O (D.take i)+O^i*val O q:=by
    rw[DR,val_append,val_append,Al,CN Y,d];simp
   have t:val O D=val O (D.take i)+O^i*val O ((D.drop i).take bs.length):=by
    have j:=val_append O (D.take i) (D.drop i);rw[Cr,Al,CN Y]at j;have k:=val_append O ((D.drop i).take bs.length) ((D.drop i).drop bs.length);rw[Cr,FM,d,CO,Cn]at k;rw[j,k]
   rw[Ac (Aa _)]at p;rw[s,CQ,AJ,Fx,<-AN,p,AN,<-Fx,<-t,n,Jq,AD,y,AJ,As (f[i]?.getD 0)]
theorem Eh.fin(h:Eh f bs f.length D)(c:f=Ji O m)(d:bs=Ji O n):J4 D=Ji O (m*n):=by
 obtain⟨_,b,a⟩:=h;rw[Ac (Aa _)]at a;rw[<-Yx Jf b,a,c,d,Jw Jf,Jw Jf]
theorem Xl.tail(h:Xl (D++f) bs i wd len g q)(e:i+len<=D.length):Xl D bs i wd len g q:=by
 obtain⟨b,c,d,a⟩:=h;refine⟨b,c,d,?_⟩;rw[List.drop_append_of_le_length Y,A3 (by rw[AX];omega)]at a;exact a
theorem Ow(a:i+len<=D.length):DR (D++f) i len q=DR D i len q++f:=by
 rw[DR,DR,A3 Y,List.drop_append_of_le_length a];simp
theorem Tr(g rl rc:Nat)(c:List Nat)(a:Option Addr)(la ca:Nat)(b:Option Addr)(lb cb m n:Nat)(w:World)
(f:DL w g c)(az:DJ O c)(hz:la+lb<=c.length)(ap:la+lb<=rc)(ay:rc<=9223372036854775807)(ax:la+lb<=1099511627776)
(ra:Row C w (B a la ca) (Ji O m))(I:Row C w (B b lb cb) (Ji O n))(ak:∀p,a=some p->0<la->p.block≠g)(am:∀p,b=some p->0<lb->p.block≠g):
 Calls Tryz.prog 168 #[B (some ⟨g,0,none⟩) rl rc,B a la ca,B b lb cb] w λe K=>∃u,e=.returned u/\(UN K u (m*n)/\w.grownBy K (some g))/\(u=B none 0 0\/∃l,u=B (some ⟨g,0,none⟩) l rc)/\∃L,DL K g L/\DJ O L/\L.length=c.length:=by
 obtain⟨F,ba,bi,bh,ah⟩:=JD ra;have y:=(JD I).1;have xa:=JA Jf m;have xb:=JA Jf n;have P:=Ja λD (h:Eh (Ji O m) (Ji O n) (Ji O m).length D)=>h.fin (m:=m) (n:=n) rfl rfl;have N:=Ja I;generalize Ji O m=s at *;generalize Ji O n=o at *;obtain⟨W1,aq,hA1,ad⟩:=Ot 0 g (la+lb) rc c w f hz;have v:=Ja (Eh.start s o);rw[<-F,<-y]at v;have U:DJ O (c.drop (la+lb)):=az.drop _;have Qn:(c.drop (la+lb)).length=c.length-(la+lb):=AX;obtain⟨X,hZ⟩:∃X,X=c.length:=⟨_,rfl⟩;rw[<-hZ]at Qn hz ⊢;generalize c.drop (la+lb)=k at *;obtain⟨M,A,R,T,x⟩:=GQ ah F y ak am;clear ah F y ra I hZ f ak am;go_enter Tryz.func168,Tryz.ntmps168
 go_wp2;go_loopw [19] (λH wr=>∃(i:Nat) (D:List Nat),H=E .i64 i/\i<=la/\Hid (Eh s o i D)/\DL wr g (D++k)/\w.grownBy wr (some g))
  (λH _=>la-(intOf H).toNat)
 case atStart=>exact⟨0,_,rfl,AV _,v.o,hA1,ad⟩
 case round=>
  clear v hA1 ad aq;obtain⟨i,D,rfl,hi,d,f,t⟩:=hrel;have Ql:=d.o.1;rw[<-A.o,<-R.o]at Ql;by_cases aj:i<la
  . obtain⟨ab,ao,rfl,an,af⟩:=M.o i aj;have bf:wr.cell? ⟨ab,ao+i,none⟩=some (E C (s[i]?.getD 0:Nat)):=(BT (w:=w) (t.block ab an λe=>T.o _ rfl Y (by cases e;rfl))).trans af;have hw:=xa.getD uo i;have W:=Ja λr q (h:Xl D o i (s[i]?.getD 0) o.length r q)=>d.o.step xa xb (by rw[<-A.o];exact aj) rfl h;have Qo:Row C wr (B b lb cb) o:=Row.grown N.o t x.o;have z:DJ O (D++k):=d.o.2.1.append U;rw[<-R.o]at W;generalize s[i]?.getD 0=wd at *;clear af;go_wp2_with(go_at_call 167;refine(MS g i lb _ (D++k) b cb o wd _ f z (by rw[Av];omega) Y Qo xb x.o hw).mono ?_;rintro e w5 ⟨r,q,rfl,hq,hA5,aw⟩;have V:=JV hq.1 (xs:=D++k) (ro:=i) (by rw[Av];omega);have bc:=hA5.cell (j:=i+lb) (by rw[V,Av];omega);have bg:=hA5.frozen (i+lb);have Q:=Ja hq;clear hq V)
    have S:=hA5.set (i+lb) r;rw[Ow Y,List.set_append_left _ _ (by rw[JV Q.o.1 Y];omega)]at S;exact⟨⟨i+1,(DR D i lb q).set (i+lb) r,Z,Y,W.o r q (Q.o.tail Y),S,Jl (Jl t aw) (JQ _ _ _ _)⟩,by simp[intOf];omega⟩
  . obtain rfl:i=la:=Y
    have Qc:Row C wr (B (some ⟨g,0,none⟩) (i+lb) rc) D:=by
     have h1:=f.row 0 (i+lb) rc (by rw[Av];omega) ap ay ax;rwa[A2,A3 Y,Ac Y]at h1
    have Qm:=Ja (P.o D (by rw[<-A.o];exact d.o));have z:DJ O (D++k):=d.o.2.1.append U;clear d P M N T x;go_wp2_with(go_at_call 73;refine(MB _ _ _ D _ Qc).mono ?_;rintro e w5 ⟨u,rfl,⟨G,ae⟩,ai⟩;rw[Qm.o]at G ai;obtain⟨ua,uc,rfl⟩:=UN.form G)
    go_ret;refine⟨_,rfl,⟨G,Jl t (Yj ae _)⟩,?_,D++k,f.below ae,z,by rw[Av];omega⟩;rcases ai with⟨e,_⟩|e
    . exact Or.inl e
    . exact Or.inr ⟨_,e⟩
theorem Eh.fing(h:Eh f bs f.length D):J4 D=Ji O (val O f*val O bs):=by
 obtain⟨_,b,a⟩:=h;rw[Ac (Aa _)]at a;rw[<-Yx Jf b,a]
theorem Ts(g rl rc:Nat)(f:List Nat)(a:Option Addr)(la ca:Nat)(b:Option Addr)(lb cb:Nat)(c d:List Nat)(w:World)(xa:DJ O c)(xb:DJ O d)
(m:DL w g f)(ay:DJ O f)(hz:la+lb<=f.length)(an:la+lb<=rc)(ax:rc<=9223372036854775807)(aw:la+lb<=1099511627776)
(ra:Row C w (B a la ca) c)(G:Row C w (B b lb cb) d)(aj:∀p,a=some p->0<la->p.block≠g)(ak:∀p,b=some p->0<lb->p.block≠g):
 Calls Tryz.prog 168 #[B (some ⟨g,0,none⟩) rl rc,B a la ca,B b lb cb] w λe H=>∃u,e=.returned u/\(UN H u (val O c*val O d)/\w.grownBy H (some g))/\(u=B none 0 0\/∃l,u=B (some ⟨g,0,none⟩) l rc)/\∃I,DL H g I/\DJ O I/\I.length=f.length:=by
 obtain⟨z,az,bh,bg,af⟩:=JD ra;have v:=(JD G).1;have M:=Ja λD (h:Eh c d c.length D)=>h.fing;have L:=Ja G;obtain⟨W1,ap,hA1,X⟩:=Ot 0 g (la+lb) rc f w m hz;have s:=Ja (Eh.start c d);rw[<-z,<-v]at s;have S:DJ O (f.drop (la+lb)):=ay.drop _;have Qn:(f.drop (la+lb)).length=f.length-(la+lb):=AX;obtain⟨V,hZ⟩:∃V,V=f.length:=⟨_,rfl⟩;rw[<-hZ]at Qn hz ⊢;generalize f.drop (la+lb)=n at *;obtain⟨K,y,P,R,t⟩:=GQ af z v aj ak;clear af z v ra G hZ m aj ak;go_enter Tryz.func168,Tryz.ntmps168
 go_wp2;go_loopw [19] (λF wr=>∃(i:Nat) (D:List Nat),F=E .i64 i/\i<=la/\Hid (Eh c d i D)/\DL wr g (D++n)/\w.grownBy wr (some g))
  (λF _=>la-(intOf F).toNat)
 case atStart=>exact⟨0,_,rfl,AV _,s.o,hA1,X⟩
 case round=>
  clear s hA1 X ap;obtain⟨i,D,rfl,hi,k,m,r⟩:=hrel;have Ql:=k.o.1;rw[<-y.o,<-P.o]at Ql;by_cases ai:i<la
  . obtain⟨W,ao,rfl,am,ae⟩:=K.o i ai;have bc:wr.cell? ⟨W,ao+i,none⟩=some (E C (c[i]?.getD 0:Nat)):=(BT (w:=w) (r.block W am λe=>R.o _ rfl Y (by cases e;rfl))).trans ae;have hw:=xa.getD uo i;have U:=Ja λo q (h:Xl D d i (c[i]?.getD 0) d.length o q)=>k.o.step xa xb (by rw[<-y.o];exact ai) rfl h;have Qo:Row C wr (B b lb cb) d:=Row.grown L.o r t.o;have x:DJ O (D++n):=k.o.2.1.append S;rw[<-P.o]at U;generalize c[i]?.getD 0=wd at *;clear ae;go_wp2_with(go_at_call 167;refine(MS g i lb _ (D++n) b cb d wd _ m x (by rw[Av];omega) Y Qo xb t.o hw).mono ?_;rintro e w5 ⟨o,q,rfl,hq,hA5,aq⟩;have T:=JV hq.1 (xs:=D++n) (ro:=i) (by rw[Av];omega);have ba:=hA5.cell (j:=i+lb) (by rw[T,Av];omega);have bf:=hA5.frozen (i+lb);have N:=Ja hq;clear hq T)
    have Q:=hA5.set (i+lb) o;rw[Ow Y,List.set_append_left _ _ (by rw[JV N.o.1 Y];omega)]at Q;exact⟨⟨i+1,(DR D i lb q).set (i+lb) o,Z,Y,U.o o q (N.o.tail Y),Q,Jl (Jl r aq) (JQ _ _ _ _)⟩,by simp[intOf];omega⟩
  . obtain rfl:i=la:=Y
    have Qc:Row C wr (B (some ⟨g,0,none⟩) (i+lb) rc) D:=by
     have h1:=m.row 0 (i+lb) rc (by rw[Av];omega) an ax aw;rwa[A2,A3 Y,Ac Y]at h1
    have Qm:=Ja (M.o D (by rw[<-y.o];exact k.o));have x:DJ O (D++n):=k.o.2.1.append S;clear k M K L R t;go_wp2_with(go_at_call 73;refine(MB _ _ _ D _ Qc).mono ?_;rintro e w5 ⟨u,rfl,⟨A,ad⟩,ah⟩;rw[Qm.o]at A ah;obtain⟨ua,uc,rfl⟩:=UN.form A)
    go_ret;refine⟨_,rfl,⟨A,Jl r (Yj ad _)⟩,?_,D++n,m.below ad,x,by rw[Av];omega⟩;rcases ah with⟨e,_⟩|e
    . exact Or.inl e
    . exact Or.inr ⟨_,e⟩
theorem Gk:O=2^64:=by unfold O;rfl
def GS(xs bs:List Nat)(ro wd i a c:Nat)(q:List Nat):Prop:=
 q.length=i/\DJ O q/\a<O/\c<=1/\val O q+val O (bs.take i)*wd=val O ((xs.drop ro).take i)+O^i*(a+c)
theorem GS.start(xs bs:List Nat)(ro wd:Nat):GS xs bs ro wd 0 0 0 []:=⟨rfl,DJ.nil _,by unfold O;omega,Y,by simp[val]⟩
theorem GS.step(h:GS xs bs ro wd i g c q)(d a c':Nat)(j:d<O)(l:a<O)(f:c'<=1)(k:d+bs[i]?.getD 0*wd+g+c=xs[ro+i]?.getD 0+O*(a+c')):GS xs bs ro wd (i+1) a c' (q++[d]):=by
 obtain⟨b,e,n,o,p⟩:=h;refine⟨by simp;omega,e.append (DJ.cons j (DJ.nil _)),l,f,?_⟩;rw[XE,b,Jq,Jq,CY,AD,A4,AJ,AJ];have m:O^i*d+O^i*(bs[i]?.getD 0*wd)+O^i*(g+c)=O^i*(xs[ro+i]?.getD 0)+O^i*(O*(a+c')):=by
  rw[<-AN,<-AN,<-Fx,k,AN]
 omega
theorem Tt{y r:Nat}(a:x<O)(b:y<O)(f:r<O)(e:g<O)(d:c<=1):
 Xs x y+YZ (Yn x y) g 0<O/\F4 r (Yv (Yn x y) g 0) c<O/\FV r (Yv (Yn x y) g 0) c<=1/\Yv (Yn x y) g 0<O/\
 F4 r (Yv (Yn x y) g 0) c+x*y+g+c=r+O*(Xs x y+YZ (Yn x y) g 0+FV r (Yv (Yn x y) g 0) c):=by
 have hp:=Oi a b;unfold Xs Yn YZ Yv F4 FV;generalize x*y=p at *;unfold O at *;split<;>omega
theorem GS.last(h:GS xs bs ro wd n g c q)(m:bs.length=n)(f:d<O)(i:d+g+c=xs[ro+n]?.getD 0+O*c'):
 (q++[d]).length=n+1/\DJ O (q++[d])/\val O (q++[d])+val O bs*wd=val O ((xs.drop ro).take (n+1))+O^(n+1)*c':=by
 obtain⟨a,b,k,l,e⟩:=h;refine⟨by simp;omega,b.append (DJ.cons f (DJ.nil _)),?_⟩;rw[Ac Y]at e;rw[XE,a,Jq,CY,A4,AJ];have j:O^n*d+O^n*(g+c)=O^n*(xs[ro+n]?.getD 0)+O^n*(O*c'):=by
  rw[<-AN,<-Fx,i,AN]
 omega
def D3(x s:Nat):Nat:=x*2^s%O
def Dq(x s:Nat):Nat:=x/2^s
theorem I7(a:s<=64):2^s*2^(64-s)=O:=by rw[<-CQ,show s+(64-s)=64 from by omega];rfl
theorem I8(a:s<=64):D3 x s=x%2^(64-s)*2^s:=by
 unfold D3;rw[<-I7 a,As (2^s),Nat.mul_mod_mul_right]
theorem Tu(k:s<=63)(j:x<O)(g:c<2^s):c ||| D3 x s=c+D3 x s/\c+D3 x s<O/\Dq x (64-s)<2^s/\c+D3 x s+O*Dq x (64-s)=c+x*2^s:=by
 rw[I8 Y];have hp:=I7 (s:=s) Y;have i:=Ci x (2^(64-s));have d:=Cp x (Cc (64-s));unfold Dq;have e:c ||| x%2^(64-s)*2^s=c+x%2^(64-s)*2^s:=by
  rw[Nat.or_comm,As,<-Fg g,FB]
 refine⟨e,?_,?_,?_⟩
 . have f:(x%2^(64-s)+1)*2^s<=2^(64-s)*2^s:=Ah _ d;rw[AD,CA,As (2^(64-s)),hp]at f;omega
 . rw[A6 (Cc _),hp];exact j
 . rw[<-hp];generalize x/2^(64-s)=a at *;generalize x%2^(64-s)=b at *;generalize 2^(64-s)=E at *;generalize 2^s=F at *;rw[<-i];grind
def Hp(a:List Nat)(s i:Nat)(q:List Nat)(c:Nat):Prop:=
 q.length=i/\DJ O q/\c<2^s/\val O q+O^i*c=val O (a.take i)*2^s
theorem Hp.start(a:List Nat)(s:Nat):Hp a s 0 [] 0:=⟨rfl,DJ.nil _,Cc s,by simp[val]⟩
theorem Hp.step(h:Hp f s i q c)(g:d<O)(e:c'<2^s)(j:d+O*c'=c+f[i]?.getD 0*2^s):Hp f s (i+1) (q++[d]) c':=by
 obtain⟨a,b,l,m⟩:=h;refine⟨by simp;omega,b.append (DJ.cons g (DJ.nil _)),e,?_⟩;rw[XE,a,Jq,AD,A4,AJ,AJ];have k:O^i*d+O^i*(O*c')=O^i*c+O^i*(f[i]?.getD 0*2^s):=by
  rw[<-AN,j,AN]
 omega
theorem Tv{P:Nat}(j:s<=63)(i:x<O):
 D3 (P%2^s) (64-s) ||| Dq x s=D3 (P%2^s) (64-s)+Dq x s/\D3 (P%2^s) (64-s)+Dq x s<O/\D3 x (64-s)=D3 ((x+O*P)%2^s) (64-s)/\
 (x+O*P)/2^s=D3 (P%2^s) (64-s)+Dq x s+O*(P/2^s):=by
 have hp:=I7 (s:=s) Y;rw[I8 Y,I8 Y,I8 Y,show 64-(64-s)=s from by omega,Nat.mod_mod];have c:Dq x s<2^(64-s):=by
  unfold Dq;rw[A6 (Cc _),As,hp];exact i
 have d:=Cp P (Cc s);have g:=Ci P (2^s);refine⟨?_,?_,?_,?_⟩
 . rw[As,<-Fg c]
 . have f:(P%2^s+1)*2^(64-s)<=2^s*2^(64-s):=Ah _ d;rw[AD,CA,hp]at f;omega
 . congr 1;rw[<-hp,AJ,CP,Nat.mod_mod]
 . unfold Dq;have e:x+O*P=x+2^s*(P%2^s*2^(64-s)+O*(P/2^s)):=by
    rw[<-hp];generalize P/2^s=a at *;generalize P%2^s=b at *;generalize 2^(64-s)=E at *;generalize 2^s=F at *;rw[<-g];grind
   rw[e,C8 _ _ (Cc _)];omega
theorem Tw(B:Nat)(ds:List Nat)(k:Nat)(h:k<ds.length):val B (ds.drop k)=ds[k]?.getD 0+B*val B (ds.drop (k+1)):=by
 rw[Cl h,Yb,Am h];rfl
def X9(R0 V n K k:Nat)(D Q:List Nat):Prop:=
 D.length=K+n/\DJ O D/\Q.length=K/\DJ O Q/\val O D<V*O^k/\R0=val O D+V*val O Q/\∀j,j<k->Q[j]?.getD 0=0
theorem X9.win(h:X9 R0 V n K (k+1) D Q)(q:k<K)(p:V<O^n):
 val O ((D.drop k).take (n+1))<V*O/\val O D=val O (D.take k)+O^k*val O ((D.drop k).take (n+1))/\val O (D.drop (k+(n+1)))=0:=by
 obtain⟨g,i,j,l,f,m,o⟩:=h;have d:val O D<O^(k+(n+1)):=by
  have e:O^(k+(n+1))=O^n*O^(k+1):=by rw[<-CQ];congr 1;omega
  rw[e];exact AU f (Ah _ Y)
 have c:=MZ Y d;have a:=val_append O (D.take k) (D.drop k);rw[Cr,Al,CN Y]at a;have b:=val_append O ((D.drop k).take (n+1)) ((D.drop k).drop (n+1));rw[Cr,FM,c,CO,Cn]at b;rw[b]at a;refine⟨?_,a,c⟩;rcases A5 (val O ((D.drop k).take (n+1))) (V*O)with h|h
 . exact h
 . exfalso
   have:=Ao (O^k) h;have e:O^k*(V*O)=V*O^(k+1):=by rw[A4];grind
   omega
theorem X9.step(h:X9 R0 V n K (k+1) D Q)(u:k<K)(s:V<O^n)(v:q.length=n+1)(hq:DJ O q)
(g:val O q=val O ((D.drop k).take (n+1))%V)(f:0<V):
 X9 R0 V n K k (DR D k (n+1) q) (Q.set k (val O ((D.drop k).take (n+1))/V)):=by
 obtain⟨w,y,z⟩:=h.win u s;obtain⟨m,b,o,p,A,r,e⟩:=h;generalize F:val O ((D.drop k).take (n+1))=W at *;have t:=Ci W V;have l:=Cp W f;have i:W/V<O:=by rw[A6 f,As];exact w
 have c:val O (DR D k (n+1) q)=val O (D.take k)+O^k*val O q:=by
  rw[DR,val_append,val_append,Al,CN Y,z];simp
 have d:=MY O Q k (W/V) Y;rw[e k Y,CO,Cn]at d;have H:val O (D.take k)<O^k:=by
  have:=YH (b.take k);rwa[Al,CN Y]at this
 refine⟨by rw[JV v Y];exact m,?_,by rw[CK];exact o,?_,?_,?_,?_⟩
 . intro x a;rw[DR]at a;rcases Fq.1 a with a|a
   . exact(b.take k) x a
   . rcases Fq.1 a with a|a
     . exact hq x a
     . exact(b.drop _) x a
 . intro x a;rcases List.mem_or_eq_of_mem_set a with a|a
   . exact p x a
   . rw[a];exact i
 . rw[c,g];have:=Ao (O^k) (show W%V+1<=V from l);rw[AN,Fv,As _ V]at this;omega
 . rw[c,d,g,r,y,AN]
   have:O^k*W=O^k*(W%V)+V*(O^k*(W/V)):=by
    conv=>lhs;rw[<-t]
    grind
   omega
 . intro j G;rw[AR Y];exact e j Y
theorem X9.start(b:D.length=K+n)(c:DJ O D)(a:val O D=R0)(d:R0<V*O^K):X9 R0 V n K K D (List.replicate K 0):=
 ⟨b,c,Aw,λx f=>by rw[C6 f];unfold O;omega,by rw[a];exact d,by rw[Ou,CO,a,Cn],λj _=>by
  by_cases e:j<K
  . rw[List.getElem?_replicate_of_lt e];rfl
  . rw[AO (by rw[Aw];omega)];rfl⟩
theorem X9.fin{b:Nat}(h:X9 R0 V n K 0 D Q)(f:R0=m*2^s)(g:V=b*2^s):J4 Q=Ji O (m/b)/\val O D=m%b*2^s:=by
 obtain⟨j,k,l,i,a,e,o⟩:=h;rw[Nat.pow_zero,Fv]at a;have c:R0/V=val O Q:=by rw[e,C8 _ _ Y,Co a,Ce]
 have d:R0%V=val O D:=by rw[e,CP,Cv a]
 rw[f,g,Nat.mul_div_mul_right _ _ (Cc s)]at c;rw[f,g,Nat.mul_mod_mul_right]at d;exact⟨by rw[<-Yx Jf i,<-c],d.symm⟩
theorem Tx(g ro len cap:Nat)(xs:List Nat)(a:Option Addr)(cb:Nat)(bs:List Nat)(wd:Nat)(w:World)
(V:DL w g xs)(K:DJ O xs)(ak:ro+(len+1)<=xs.length)(ah:len+1<=cap)(F:Row C w (B a len cb) bs)(X:DJ O bs)(G:∀p,a=some p->0<len->p.block≠g)(I:wd<O):
 Calls Tryz.prog 221 #[B (some ⟨g,ro,none⟩) (len+1) cap,B a len cb,E C (wd:Nat)] w λe A=>
  ∃c q,e=.returned (E C (c:Nat))/\(c<=1/\q.length=len+1/\DJ O q/\val O q+val O bs*wd=val O ((xs.drop ro).take (len+1))+O^(len+1)*c)/\DL A g (DR xs ro (len+1) q)/\w.grownBy A (some g):=by
 obtain⟨hl,ai,af,aj,l⟩:=JD F;obtain⟨N,M,P⟩:=Dd hl l G;clear l hl G F;go_enter Tryz.func221,Tryz.ntmps221
 go_wp2;go_loopw [7,8,16] (λov U y wr=>∃(i f c:Nat) (q:List Nat),y=E .i64 i/\ov=E C (f:Nat)/\U=E C (c:Nat)/\i<=len/\f<O/\c<=1/\Hid (GS xs bs ro wd i f c q)/\DL wr g (DR xs ro i q)/\w.grownBy wr (some g))
  (λ_ _ y _=>len-(intOf y).toNat)
 case atStart=>exact⟨0,0,0,[],rfl,rfl,rfl,AV _,by unfold O;omega,Y,GS.start _ _ _ _,by rw[mid_zero];exact V,Y7 _ _⟩
 case round=>
  obtain⟨i,f,c,q,rfl,rfl,rfl,hi,H,n,m,j,v⟩:=hrel;by_cases ad:i<len
  . obtain⟨b,off,rfl,W,l⟩:=M.o i ad;have S:=P.o _ rfl Y;have hq:=m.o.1;have ae:wr.cell? ⟨b,off+i,none⟩=some (E C (bs[i]?.getD 0:Nat)):=(BT (w:=w) (v.block b W λe=>S (by cases e;rfl))).trans l;have Q:wr.cell? ⟨g,ro+i,none⟩=some (E C (xs[ro+i]?.getD 0:Nat)):=by rw[<-Gh hq Y];exact j.cell (by rw[JV hq Y];omega)
    have R:=j.frozen (ro+i);have D:=X.getD uo i;have u:=K.getD uo (ro+i);obtain⟨o,z,s,s4,L⟩:=Tt D I u H n;have k:=Ja (m.o.step _ _ _ z o s L);have t:=Ja (show ∀d,(DR xs ro i q).set (ro+i) d=DR xs ro (i+1) (q++[d])from λd=>Hm hq Y d);clear l hq L;generalize bs[i]?.getD 0=x at *;generalize xs[ro+i]?.getD 0=r at *;have a1:=Ko (Yn x wd) f;have T:=Kp r (Yv (Yn x wd) f 0) c n;unfold O at o;go_wp2_with(first
     |(go_at_call 197;refine(Gi _ _ D I _).mono ?_;rintro e A ⟨rfl,rfl⟩))
    exact⟨⟨i+1,Xs x wd+YZ (Yn x wd) f 0,FV r (Yv (Yn x wd) f 0) c,q++[F4 r (Yv (Yn x wd) f 0) c],Z,Z,rfl,Y,k.o.2.2.1,k.o.2.2.2.1,k,by rw[<-t.o];exact j.set _ _,Jl v (JQ _ _ _ _)⟩,by simp[intOf];omega⟩
  . obtain rfl:i=len:=Y
    have hq:=m.o.1;have Q:wr.cell? ⟨g,ro+i,none⟩=some (E C (xs[ro+i]?.getD 0:Nat)):=by rw[<-Gh hq Y];exact j.cell (by rw[JV hq Y];omega)
    have R:=j.frozen (ro+i);have u:=K.getD uo (ro+i);obtain⟨o,z,s⟩:=MN u H n;have k:=Ja (m.o.last N.o.symm o s);have t:=Ja (show ∀d,(DR xs ro i q).set (ro+i) d=DR xs ro (i+1) (q++[d])from λd=>Hm hq Y d);clear hq s;generalize xs[ro+i]?.getD 0=r at *;have T:=Kp r f c n;go_wp2;go_ret;exact⟨FV r f c,_,rfl,⟨z,k.o⟩,by rw[<-t.o];exact j.set _ _,Jl v (JQ _ _ _ _)⟩
