import Derived.Test.YtcahejkcdcjjgaaGreatDoorT10
import Derived.Test.YtcahejkcdcjjgaaGreatDoorT09
open Go.Value renaming slice->B,int->E
open Go.IntKind renaming u64->C
set_option maxRecDepth 100000
set_option maxHeartbeats 16000000
namespace Go.Proofs.YtcahejkcdcjjgaaGreatDoor
open Go.RowKit Go.Shelf
variable{D Q bs f q xs:List Nat}{K V c c' d g i k len m n over ro s wd x:Nat}
theorem Se{o v:Nat}(h:o<f.length):(f.set o v).take (o+1)=f.take o++[v]:=by
 rw[A7 (by rw[Ct];exact h),List.getElem_set_self,List.take_set,CX (by rw[Ai];omega)]
theorem N0{b:Nat}:∀(c:List Nat) (o:Nat) (W:World) (a:List Nat),DU W b a->o+c.length<=a.length->DU (W.setCells b o (cellsOf C c)) b (a.take o++(c++a.drop (o+c.length)))
 |[],o,W,a,h,_=>by
  have e:a.take o++([]++a.drop (o+([]:List Nat).length))=a:=DO
  rw[e];exact h
 |v::r,o,W,a,h,hl=>by
  rw[Aj]at hl;have d:=N0 r (o+1) (W.setCell ⟨b,o,none⟩ (E C (v:Nat))) (a.set o v) (h.set o v) (by rw[Ct];omega);rw[Se om,List.drop_set_of_lt om,Ch]at d;have e:o+1+r.length=o+(v::r).length:=by rw[Aj];omega
  rw[e]at d;exact d
theorem N1{b:Nat}:∀(a:List Value) (o:Nat) (W:World),W.grownBy (W.setCells b o a) (some b)
 |[],_,W=>Yw W _
 |v::r,o,W=>Jf (JD W b o v) (N1 r (o+1) _)
theorem N2(ty:TypeId)(g n c:Nat)(a:List Nat)(W:World)(h:DU W g a)(i:n<=a.length):
 ∃W',(Builtin.clear_ #[34] ty #[B (some ⟨g,0,none⟩) n c]).run Tryz.prog W=.ok (.tuple #[]) W'/\DU W' g (List.replicate n 0++a.drop n)/\W.grownBy W' (some g):=by
 rcases AQ n with b|b
 . subst b;refine⟨W,?_,?_,Yw W _⟩
   . simp[Builtin.clear_,run_underlying Tryz.underlying34]
   . rw[List.replicate_zero,Ap,Au];exact h
 . have d:=Lib.run_clear_slice (P:=Tryz.prog) W 34 163 ty (E C 0) Tryz.underlying34 (λw=>by kernel_rfl) rfl rfl g 0 n c b
    (λj k=>by rw[Ck,h.cell om];rfl) (λj _=>h.frozen _)
   have e:(List.replicate n (Value.int C 0))=cellsOf C (List.replicate n 0):=by simp[cellsOf]
   rw[e]at d;have f:=N0 (List.replicate n 0) 0 W a h (by rw[Ar];omega);rw[CK,Ap,Ar,Ck]at f;exact⟨_,d,f,N1 _ _ _⟩
theorem Ly(B:Nat):∀(D:List Nat) (j d:Nat),j<D.length->val B (D.set j d)+B^j*D[j]?.getD 0=val B D+B^j*d
 |[],_,_,h=>by cases h
 |x::D,0,d,_=>by simp[val];omega
 |x::D,j+1,d,h=>by
  have a:=Ly B D j d (by simpa using h);simp only[List.set_cons_succ,val,Ae,AR];have e:B*val B (D.set j d)+B*(B^j*D[j]?.getD 0)=B*val B D+B*(B^j*d):=by rw[<-Av,a,Av]
  have c:B^j*B*D[j]?.getD 0=B*(B^j*D[j]?.getD 0):=by rw[As (B^j) B,Aw]
  have b:B^j*B*d=B*(B^j*d):=by rw[As (B^j) B,Aw]
  omega
theorem N3(B n:Nat):val B (List.replicate n 0)=0:=by
 induction n with
 |zero=>rfl
 |succ n a=>rw[CS,val,a];simp
def Eh(a bs:List Nat)(i:Nat)(D:List Nat):Prop:=
 D.length=a.length+bs.length/\DP DN D/\val DN D=val DN (a.take i)*val DN bs
theorem Eh.start(a bs:List Nat):Eh a bs 0 (List.replicate (a.length+bs.length) 0):=
 ⟨Ar,λx b=>by rw[Cy b];unfold DN;omega,by rw[N3];simp[val]⟩
theorem N4{B:Nat}(a:0<B):∀ {D:List Nat},val B D=0->∀j:Nat,D[j]?.getD 0=0
 |[],_,j=>by simp
 |d::D,h,0=>by
  rw[JX]at h;show d=0;omega
 |d::D,h,j+1=>by
  rw[JX]at h;have c:B*val B D=0:=om
  have b:val B D=0:=by
   rcases Nat.mul_eq_zero.1 c with h|h
   . omega
   . exact h
  rw[Ae];exact N4 a b j
theorem Lz{B:Nat}(c:k<=D.length)(h:val B D<B^k):val B (D.drop k)=0:=by
 have e:val B D=val B (D.take k)+B^k*val B (D.drop k):=by
  have b:=val_append B (D.take k) (D.drop k);rw[Cg,Ai,Cx c]at b;exact b
 rcases AQ (val B (D.drop k))with a|a
 . exact a
 . have:=Az (B^k) a;omega
theorem Eh.step(h:Eh f bs i D)(r:DP DN f)(s:DP DN bs)(y:i<f.length)(v:wd=f[i]?.getD 0)(p:Xi D bs i wd bs.length over q):
 Eh f bs (i+1) ((Da D i bs.length q).set (i+bs.length) over):=by
 obtain⟨t,n,e⟩:=h;obtain⟨q1,q2,q3,g⟩:=p;have o:val DN D<DN^(i+bs.length):=by
  rw[e,CH];have b:=Yd (r.take i);rw[Ai,Cx om]at b;have c:=Yd s;rcases AQ (val DN bs)with j|j
  . rw[j,Cq];exact DL (Fv uo) (Fv uo)
  . exact Nat.mul_lt_mul'' b c
 have d:=Lz om o;have k:(Da D i bs.length q).length=D.length:=JP q1 om;refine⟨by rw[Ct,k];exact t,?_,?_⟩
 . intro x a;rcases List.mem_or_eq_of_mem_set a with a|a
   . rw[Da]at a;rcases CF.1 a with a|a
     . exact(n.take i) x a
     . rcases CF.1 a with a|a
       . exact q2 x a
       . exact(n.drop _) x a
   . rw[a];exact q3
 . have b:=Ly DN (Da D i bs.length q) (i+bs.length) over (by rw[k];omega);have c:(Da D i bs.length q)[i+bs.length]?.getD 0=0:=by
    rw[GD q1 om];have:=N4 uo d 0;rw[CC,Cd]at this;exact this
   rw[c,Cq,Cd]at b;rw[b];have w:val DN (Da D i bs.length q)=val DN (D.take i)+DN^i*val DN q:=by
    rw[Da,val_append,val_append,Ai,Cx om,d];simp
   have u:val DN D=val DN (D.take i)+DN^i*val DN ((D.drop i).take bs.length):=by
    have l:=val_append DN (D.take i) (D.drop i);rw[Cg,Ai,Cx om]at l;have m:=val_append DN ((D.drop i).take bs.length) ((D.drop i).drop bs.length);rw[Cg,Fl,d,Cq,Cd]at m;rw[l,m]
   rw[Ab (Aa _)]at g;rw[w,CH,Aw,CJ,<-Av,g,Av,<-CJ,<-u,e,Jq,AV,v,Aw,As (f[i]?.getD 0)]
theorem Eh.fin(h:Eh f bs f.length D)(b:f=Jc DN m)(d:bs=Jc DN n):Jt D=Jc DN (m*n):=by
 obtain⟨_,c,a⟩:=h;rw[Ab (Aa _)]at a;rw[<-JU Je c,a,b,d,Jm Je,Jm Je]
theorem Xi.tail(h:Xi (D++f) bs i wd len over q)(e:i+len<=D.length):Xi D bs i wd len over q:=by
 obtain⟨c,d,b,a⟩:=h;refine⟨c,d,b,?_⟩;rw[CI om,AL (by rw[Ay];omega)]at a;exact a
theorem N5(a:i+len<=D.length):Da (D++f) i len q=Da D i len q++f:=by
 rw[Da,Da,AL om,CI a];simp
theorem Sf(g rl rc:Nat)(d:List Nat)(a:Option Addr)(c X:Nat)(b:Option Addr)(lb v m n:Nat)(w:World)
(r:DU w g d)(aq:DP DN d)(W:c+lb<=d.length)(az:c+lb<=rc)(ap:rc<=9223372036854775807)(av:c+lb<=1099511627776)
(V:Row C w (B a c X) (Jc DN m))(t:Row C w (B b lb v) (Jc DN n))(ak:∀p,a=some p->0<c->p.block≠g)(ai:∀p,b=some p->0<lb->p.block≠g):
 Calls Tryz.prog 153 #[B (some ⟨g,0,none⟩) rl rc,B a c X,B b lb v] w λe M=>∃u,e=.returned u/\(UN M u (m*n)/\w.grownBy M (some g))/\(u=B none 0 0\/∃l,u=B (some ⟨g,0,none⟩) l rc)/\∃z,DU M g z/\DP DN z/\z.length=d.length:=by
 obtain⟨A,bd,bh,bk,R⟩:=Js V;have y:=(Js t).1;have bc:=(Js t).2.1;have bf:=(Js t).2.2.1;have N:=Jo Je m;have xb:=Jo Je n;have U:=Ja (λD (h:Eh (Jc DN m) (Jc DN n) (Jc DN m).length D)=>h.fin (m:=m) (n:=n) rfl rfl);have HB:=Ja t;generalize Jc DN m=s at *;generalize Jc DN n=f at *;obtain⟨W1,aw,hA1,ad⟩:=N2 0 g (c+lb) rc d w r W;have L:=Ja (Eh.start s f);rw[<-A,<-y]at L;have Z:DP DN (d.drop (c+lb)):=aq.drop _;have Qm:(d.drop (c+lb)).length=d.length-(c+lb):=Ay;obtain⟨aj,Q⟩:∃aj,aj=d.length:=⟨_,rfl⟩;rw[<-Q]at Qm W ⊢;generalize d.drop (c+lb)=o at *;obtain⟨P,F,T,Qk,H⟩:=GB R A y ak ai;clear R A y V t Q r ak ai;go_enter Tryz.func153,Tryz.ntmps153
 go_wp2;go_loopw [19] (λK wr=>∃(i:Nat) (D:List Nat),K=E .i64 i/\i<=c/\Hid (Eh s f i D)/\DU wr g (D++o)/\w.grownBy wr (some g))
  (λK _=>c-(intOf K).toNat)
 case atStart=>exact⟨0,_,rfl,AX _,L.o,hA1,ad⟩
 case round=>
  clear L hA1 ad aw;obtain⟨i,D,rfl,hi,k,r,x⟩:=hrel;have Qo:=k.o.1;rw[<-F.o,<-T.o]at Qo;by_cases ah:i<c
  . obtain⟨ab,ao,rfl,an,af⟩:=P.o i ah;have bj:wr.cell? ⟨ab,ao+i,none⟩=some (E C (s[i]?.getD 0:Nat)):=(BR (w:=w) (x.block ab an (λe=>Qk.o _ rfl om (by cases e;rfl)))).trans af;have hw:=N.getD uo i;have Qg:=Ja (λover q (h:Xi D f i (s[i]?.getD 0) f.length over q)=>k.o.step N xb (by rw[<-F.o];exact ah) rfl h);have Qn:Row C wr (B b lb v) f:=Row.grown HB.o x H.o;have I:DP DN (D++o):=k.o.2.1.append Z;rw[<-T.o]at Qg;generalize s[i]?.getD 0=wd at *;clear af;go_wp2_with(go_at_call 172;refine(Ls g i lb _ (D++o) b v f wd _ r I (by rw[Al];omega) om Qn xb H.o hw).mono ?_;rintro e w5 ⟨over,q,rfl,J,hA5,ay⟩;have Qh:=JP J.1 (xs:=D++o) (ro:=i) (by rw[Al];omega);have bi:=hA5.cell (j:=i+lb) (by rw[Qh,Al];omega);have bg:=hA5.frozen (i+lb);have S:=Ja J;clear J Qh)
    have Y:=hA5.set (i+lb) over;rw[N5 om,Fo _ _ (by rw[JP S.o.1 om];omega)]at Y;exact⟨⟨i+1,(Da D i lb q).set (i+lb) over,DO,om,Qg.o over q (S.o.tail om),Y,Jf (Jf x ay) (JD _ _ _ _)⟩,by simp[intOf];omega⟩
  . obtain rfl:i=c:=om
    have Qc:Row C wr (B (some ⟨g,0,none⟩) (i+lb) rc) D:=by
     have h1:=r.row 0 (i+lb) rc (by rw[Al];omega) az ap av;rwa[Au,AL om,Ab om]at h1
    have Ql:=Ja (U.o D (by rw[<-F.o];exact k.o));have I:DP DN (D++o):=k.o.2.1.append Z;clear k U P HB Qk H;go_wp2_with(go_at_call 132;refine(KH _ _ _ D _ Qc).mono ?_;rintro e w5 ⟨u,rfl,⟨G,ae⟩,O⟩;rw[Ql.o]at G O;obtain⟨ua,uc,rfl⟩:=UN.form G)
    go_ret;refine⟨_,rfl,⟨G,Jf x (JS ae _)⟩,?_,D++o,r.below ae,I,by rw[Al];omega⟩;rcases O with⟨e,_⟩|e
    . exact Or.inl e
    . exact Or.inr ⟨_,e⟩
theorem Eh.fing(h:Eh f bs f.length D):Jt D=Jc DN (val DN f*val DN bs):=by
 obtain⟨_,b,a⟩:=h;rw[Ab (Aa _)]at a;rw[<-JU Je b,a]
theorem Sg(g rl rc:Nat)(k:List Nat)(a:Option Addr)(c V:Nat)(b:Option Addr)(lb s:Nat)(f d:List Nat)(w:World)(L:DP DN f)(xb:DP DN d)
(o:DU w g k)(ap:DP DN k)(U:c+lb<=k.length)(ay:c+lb<=rc)(an:rc<=9223372036854775807)(aq:c+lb<=1099511627776)
(T:Row C w (B a c V) f)(r:Row C w (B b lb s) d)(aj:∀p,a=some p->0<c->p.block≠g)(ah:∀p,b=some p->0<lb->p.block≠g):
 Calls Tryz.prog 153 #[B (some ⟨g,0,none⟩) rl rc,B a c V,B b lb s] w λe K=>∃u,e=.returned u/\(UN K u (val DN f*val DN d)/\w.grownBy K (some g))/\(u=B none 0 0\/∃l,u=B (some ⟨g,0,none⟩) l rc)/\∃x,DU K g x/\DP DN x/\x.length=k.length:=by
 obtain⟨y,bc,bg,bj,P⟩:=Js T;have v:=(Js r).1;have az:=(Js r).2.1;have bd:=(Js r).2.2.1;have S:=Ja (λD (h:Eh f d f.length D)=>h.fing);have HB:=Ja r;obtain⟨W1,av,hA1,Y⟩:=N2 0 g (c+lb) rc k w o U;have J:=Ja (Eh.start f d);rw[<-y,<-v]at J;have X:DP DN (k.drop (c+lb)):=ap.drop _;have Qm:(k.drop (c+lb)).length=k.length-(c+lb):=Ay;obtain⟨ai,O⟩:∃ai,ai=k.length:=⟨_,rfl⟩;rw[<-O]at Qm U ⊢;generalize k.drop (c+lb)=n at *;obtain⟨N,z,R,Qk,F⟩:=GB P y v aj ah;clear P y v T r O o aj ah;go_enter Tryz.func153,Tryz.ntmps153
 go_wp2;go_loopw [19] (λI wr=>∃(i:Nat) (D:List Nat),I=E .i64 i/\i<=c/\Hid (Eh f d i D)/\DU wr g (D++n)/\w.grownBy wr (some g))
  (λI _=>c-(intOf I).toNat)
 case atStart=>exact⟨0,_,rfl,AX _,J.o,hA1,Y⟩
 case round=>
  clear J hA1 Y av;obtain⟨i,D,rfl,hi,m,o,t⟩:=hrel;have Qo:=m.o.1;rw[<-z.o,<-R.o]at Qo;by_cases af:i<c
  . obtain⟨Z,ao,rfl,ak,ae⟩:=N.o i af;have bi:wr.cell? ⟨Z,ao+i,none⟩=some (E C (f[i]?.getD 0:Nat)):=(BR (w:=w) (t.block Z ak (λe=>Qk.o _ rfl om (by cases e;rfl)))).trans ae;have hw:=L.getD uo i;have Qg:=Ja (λover q (h:Xi D d i (f[i]?.getD 0) d.length over q)=>m.o.step L xb (by rw[<-z.o];exact af) rfl h);have Qn:Row C wr (B b lb s) d:=Row.grown HB.o t F.o;have G:DP DN (D++n):=m.o.2.1.append X;rw[<-R.o]at Qg;generalize f[i]?.getD 0=wd at *;clear ae;go_wp2_with(go_at_call 172;refine(Ls g i lb _ (D++n) b s d wd _ o G (by rw[Al];omega) om Qn xb F.o hw).mono ?_;rintro e w5 ⟨over,q,rfl,H,hA5,aw⟩;have Qh:=JP H.1 (xs:=D++n) (ro:=i) (by rw[Al];omega);have bh:=hA5.cell (j:=i+lb) (by rw[Qh,Al];omega);have bf:=hA5.frozen (i+lb);have Q:=Ja H;clear H Qh)
    have W:=hA5.set (i+lb) over;rw[N5 om,Fo _ _ (by rw[JP Q.o.1 om];omega)]at W;exact⟨⟨i+1,(Da D i lb q).set (i+lb) over,DO,om,Qg.o over q (Q.o.tail om),W,Jf (Jf t aw) (JD _ _ _ _)⟩,by simp[intOf];omega⟩
  . obtain rfl:i=c:=om
    have Qc:Row C wr (B (some ⟨g,0,none⟩) (i+lb) rc) D:=by
     have h1:=o.row 0 (i+lb) rc (by rw[Al];omega) ay an aq;rwa[Au,AL om,Ab om]at h1
    have Ql:=Ja (S.o D (by rw[<-z.o];exact m.o));have G:DP DN (D++n):=m.o.2.1.append X;clear m S N HB Qk F;go_wp2_with(go_at_call 132;refine(KH _ _ _ D _ Qc).mono ?_;rintro e w5 ⟨u,rfl,⟨A,ad⟩,M⟩;rw[Ql.o]at A M;obtain⟨ua,uc,rfl⟩:=UN.form A)
    go_ret;refine⟨_,rfl,⟨A,Jf t (JS ad _)⟩,?_,D++n,o.below ad,G,by rw[Al];omega⟩;rcases M with⟨e,_⟩|e
    . exact Or.inl e
    . exact Or.inr ⟨_,e⟩
theorem GG:DN=2^64:=by unfold DN;rfl
def F5(xs bs:List Nat)(ro wd i over c:Nat)(q:List Nat):Prop:=
 q.length=i/\DP DN q/\over<DN/\c<=1/\val DN q+val DN (bs.take i)*wd=val DN ((xs.drop ro).take i)+DN^i*(over+c)
theorem F5.start(xs bs:List Nat)(ro wd:Nat):F5 xs bs ro wd 0 0 0 []:=⟨rfl,DP.nil _,by unfold DN;omega,om,by simp[val]⟩
theorem F5.step(h:F5 xs bs ro wd i over c q)(d a c':Nat)(b:d<DN)(e:a<DN)(f:c'<=1)(j:d+bs[i]?.getD 0*wd+over+c=xs[ro+i]?.getD 0+DN*(a+c')):F5 xs bs ro wd (i+1) a c' (q++[d]):=by
 obtain⟨g,k,l,n,m⟩:=h;refine⟨by simp;omega,k.append (DP.cons b (DP.nil _)),e,f,?_⟩;rw[Yl,g,Jq,Jq,CC,AV,AR,Aw,Aw];have o:DN^i*d+DN^i*(bs[i]?.getD 0*wd)+DN^i*(over+c)=DN^i*(xs[ro+i]?.getD 0)+DN^i*(DN*(a+c')):=by
  rw[<-Av,<-Av,<-CJ,j,Av]
 omega
theorem Sh{y r:Nat}(a:x<DN)(b:y<DN)(d:r<DN)(g:over<DN)(f:c<=1):
 Xq x y+YP (Yk x y) over 0<DN/\FL r (Yt (Yk x y) over 0) c<DN/\FH r (Yt (Yk x y) over 0) c<=1/\Yt (Yk x y) over 0<DN/\
 FL r (Yt (Yk x y) over 0) c+x*y+over+c=r+DN*(Xq x y+YP (Yk x y) over 0+FH r (Yt (Yk x y) over 0) c):=by
 have e:=Ns a b;unfold Xq Yk YP Yt FL FH;generalize x*y=p at *;unfold DN at *;split<;>omega
theorem F5.last(h:F5 xs bs ro wd n over c q)(l:bs.length=n)(a:d<DN)(f:d+over+c=xs[ro+n]?.getD 0+DN*c'):
 (q++[d]).length=n+1/\DP DN (q++[d])/\val DN (q++[d])+val DN bs*wd=val DN ((xs.drop ro).take (n+1))+DN^(n+1)*c':=by
 obtain⟨e,g,i,j,b⟩:=h;refine⟨by simp;omega,g.append (DP.cons a (DP.nil _)),?_⟩;rw[Ab om]at b;rw[Yl,e,Jq,CC,AR,Aw];have k:DN^n*d+DN^n*(over+c)=DN^n*(xs[ro+n]?.getD 0)+DN^n*(DN*c'):=by
  rw[<-Av,<-CJ,f,Av]
 omega
def EC(x s:Nat):Nat:=x*2^s%DN
def D5(x s:Nat):Nat:=x/2^s
theorem IY(hs:s<=64):2^s*2^(64-s)=DN:=by rw[<-CH,show s+(64-s)=64 from by omega];rfl
theorem IZ(hs:s<=64):EC x s=x%2^(64-s)*2^s:=by
 unfold EC;rw[<-IY hs,As (2^s),Nat.mul_mod_mul_right]
theorem Si(hs:s<=63)(e:x<DN)(j:c<2^s):c ||| EC x s=c+EC x s/\c+EC x s<DN/\D5 x (64-s)<2^s/\c+EC x s+DN*D5 x (64-s)=c+x*2^s:=by
 rw[IZ om];have d:=IY (s:=s) om;have k:=Cb x (2^(64-s));have g:=A9 x (Cc (64-s));unfold D5;have f:c ||| x%2^(64-s)*2^s=c+x%2^(64-s)*2^s:=by
  rw[Nat.or_comm,As,<-C2 j,CW]
 refine⟨f,?_,?_,?_⟩
 . have i:(x%2^(64-s)+1)*2^s<=2^(64-s)*2^s:=Ao _ g;rw[AV,CN,As (2^(64-s)),d]at i;omega
 . rw[AO (Cc _),d];exact e
 . rw[<-d];generalize x/2^(64-s)=a at *;generalize x%2^(64-s)=b at *;generalize 2^(64-s)=E at *;generalize 2^s=F at *;rw[<-k];grind
def Ge(a:List Nat)(s i:Nat)(q:List Nat)(c:Nat):Prop:=
 q.length=i/\DP DN q/\c<2^s/\val DN q+DN^i*c=val DN (a.take i)*2^s
theorem Ge.start(a:List Nat)(s:Nat):Ge a s 0 [] 0:=⟨rfl,DP.nil _,Cc s,by simp[val]⟩
theorem Ge.step(h:Ge f s i q c)(a:d<DN)(b:c'<2^s)(g:d+DN*c'=c+f[i]?.getD 0*2^s):Ge f s (i+1) (q++[d]) c':=by
 obtain⟨e,j,k,l⟩:=h;refine⟨by simp;omega,j.append (DP.cons a (DP.nil _)),b,?_⟩;rw[Yl,e,Jq,AV,AR,Aw,Aw];have m:DN^i*d+DN^i*(DN*c')=DN^i*c+DN^i*(f[i]?.getD 0*2^s):=by
  rw[<-Av,g,Av]
 omega
theorem Sj{P:Nat}(hs:s<=63)(f:x<DN):
 EC (P%2^s) (64-s) ||| D5 x s=EC (P%2^s) (64-s)+D5 x s/\EC (P%2^s) (64-s)+D5 x s<DN/\EC x (64-s)=EC ((x+DN*P)%2^s) (64-s)/\
 (x+DN*P)/2^s=EC (P%2^s) (64-s)+D5 x s+DN*(P/2^s):=by
 have c:=IY (s:=s) om;rw[IZ om,IZ om,IZ om,show 64-(64-s)=s from by omega,Nat.mod_mod];have g:D5 x s<2^(64-s):=by
  unfold D5;rw[AO (Cc _),As,c];exact f
 have d:=A9 P (Cc s);have j:=Cb P (2^s);refine⟨?_,?_,?_,?_⟩
 . rw[As,<-C2 g]
 . have i:(P%2^s+1)*2^(64-s)<=2^s*2^(64-s):=Ao _ d;rw[AV,CN,c]at i;omega
 . congr 1;rw[<-c,Aw,CG,Nat.mod_mod]
 . unfold D5;have e:x+DN*P=x+2^s*(P%2^s*2^(64-s)+DN*(P/2^s)):=by
    rw[<-c];generalize P/2^s=a at *;generalize P%2^s=b at *;generalize 2^(64-s)=E at *;generalize 2^s=F at *;rw[<-j];grind
   rw[e,CY _ _ (Cc _)];omega
theorem Sk(B:Nat)(ds:List Nat)(k:Nat)(h:k<ds.length):val B (ds.drop k)=ds[k]?.getD 0+B*val B (ds.drop (k+1)):=by
 rw[AM h,JX,Af h];rfl
def X2(a V n K k:Nat)(D Q:List Nat):Prop:=
 D.length=K+n/\DP DN D/\Q.length=K/\DP DN Q/\val DN D<V*DN^k/\a=val DN D+V*val DN Q/\∀j,j<k->Q[j]?.getD 0=0
theorem X2.win(h:X2 g V n K (k+1) D Q)(q:k<K)(s:V<DN^n):
 val DN ((D.drop k).take (n+1))<V*DN/\val DN D=val DN (D.take k)+DN^k*val DN ((D.drop k).take (n+1))/\val DN (D.drop (k+(n+1)))=0:=by
 obtain⟨m,r,i,l,f,p,j⟩:=h;have o:0<DN:=by unfold DN;omega
 have d:val DN D<DN^(k+(n+1)):=by
  have e:DN^(k+(n+1))=DN^n*DN^(k+1):=by rw[<-CH];congr 1;omega
  rw[e];exact AC f (Ao _ om)
 have b:=Lz om d;have a:=val_append DN (D.take k) (D.drop k);rw[Cg,Ai,Cx om]at a;have c:=val_append DN ((D.drop k).take (n+1)) ((D.drop k).drop (n+1));rw[Cg,Fl,b,Cq,Cd]at c;rw[c]at a;refine⟨?_,a,b⟩;rcases AB (val DN ((D.drop k).take (n+1))) (V*DN)with h|h
 . exact h
 . exfalso
   have:=Az (DN^k) h;have e:DN^k*(V*DN)=V*DN^(k+1):=by rw[AR];grind
   omega
theorem X2.step(h:X2 g V n K (k+1) D Q)(t:k<K)(F:V<DN^n)(y:q.length=n+1)(m:DP DN q)
(c:val DN q=val DN ((D.drop k).take (n+1))%V)(d:0<V):
 X2 g V n K k (Da D k (n+1) q) (Q.set k (val DN ((D.drop k).take (n+1))/V)):=by
 obtain⟨z,u,s⟩:=h.win t F;obtain⟨r,b,o,p,I,A,f⟩:=h;have J:0<DN:=by unfold DN;omega
 generalize L:val DN ((D.drop k).take (n+1))=W at *;have v:=Cb W V;have w:=A9 W d;have l:W/V<DN:=by rw[AO d,As];exact z
 have i:val DN (Da D k (n+1) q)=val DN (D.take k)+DN^k*val DN q:=by
  rw[Da,val_append,val_append,Ai,Cx om,s];simp
 have e:=Ly DN Q k (W/V) om;rw[f k om,Cq,Cd]at e;have H:val DN (D.take k)<DN^k:=by
  have:=Yd (b.take k);rwa[Ai,Cx om]at this
 refine⟨by rw[JP y om];exact r,?_,by rw[Ct];exact o,?_,?_,?_,?_⟩
 . intro x a;rw[Da]at a;rcases CF.1 a with a|a
   . exact(b.take k) x a
   . rcases CF.1 a with a|a
     . exact m x a
     . exact(b.drop _) x a
 . intro x a;rcases List.mem_or_eq_of_mem_set a with a|a
   . exact p x a
   . rw[a];exact l
 . rw[i,c];have:=Az (DN^k) (show W%V+1<=V from w);rw[Av,Fk,As _ V]at this;omega
 . rw[i,e,c,A,u,Av];have:DN^k*W=DN^k*(W%V)+V*(DN^k*(W/V)):=by
    conv=>lhs;rw[<-v]
    grind
   omega
 . intro j G;rw[AN om];exact f j om
theorem X2.start(e:D.length=K+n)(f:DP DN D)(a:val DN D=g)(c:g<V*DN^K):X2 g V n K K D (List.replicate K 0):=
 ⟨e,f,Ar,λx d=>by rw[Cy d];unfold DN;omega,by rw[a];exact c,by rw[N3,Cq,a,Cd],λj _=>by
  by_cases b:j<K
  . rw[List.getElem?_replicate_of_lt b];rfl
  . rw[Aq (by rw[Ar];omega)];rfl⟩
theorem X2.fin{b:Nat}(h:X2 g V n K 0 D Q)(d:g=m*2^s)(i:V=b*2^s):Jt Q=Jc DN (m/b)/\val DN D=m%b*2^s:=by
 obtain⟨o,p,k,j,a,f,l⟩:=h;rw[Nat.pow_zero,Fk]at a;have c:g/V=val DN Q:=by rw[f,CY _ _ om,Cj a,Ck]
 have e:g%V=val DN D:=by rw[f,CG,Cp a]
 rw[d,i,Nat.mul_div_mul_right _ _ (Cc s)]at c;rw[d,i,Nat.mul_mod_mul_right]at e;exact⟨by rw[<-JU Je j,<-c],e.symm⟩
theorem Sl(g ro len cap:Nat)(xs:List Nat)(a:Option Addr)(I:Nat)(bs:List Nat)(wd:Nat)(w:World)
(T:DU w g xs)(L:DP DN xs)(Z:ro+(len+1)<=xs.length)(af:len+1<=cap)(F:Row C w (B a len I) bs)(O:DP DN bs)(G:∀p,a=some p->0<len->p.block≠g)(K:wd<DN):
 Calls Tryz.prog 199 #[B (some ⟨g,ro,none⟩) (len+1) cap,B a len I,E C (wd:Nat)] w λe A=>
  ∃c q,e=.returned (E C (c:Nat))/\(c<=1/\q.length=len+1/\DP DN q/\val DN q+val DN bs*wd=val DN ((xs.drop ro).take (len+1))+DN^(len+1)*c)/\DU A g (Da xs ro (len+1) q)/\w.grownBy A (some g):=by
 obtain⟨hl,ae,ad,ah,k⟩:=Js F;obtain⟨N,V,Q⟩:=Dm hl k G;clear k hl G F;go_enter Tryz.func199,Tryz.ntmps199
 go_wp2;go_loopw [7,8,16] (λX U y wr=>∃(i over c:Nat) (q:List Nat),y=E .i64 i/\X=E C (over:Nat)/\U=E C (c:Nat)/\i<=len/\over<DN/\c<=1/\Hid (F5 xs bs ro wd i over c q)/\DU wr g (Da xs ro i q)/\w.grownBy wr (some g))
  (λ_ _ y _=>len-(intOf y).toNat)
 case atStart=>exact⟨0,0,0,[],rfl,rfl,rfl,AX _,by unfold DN;omega,om,F5.start _ _ _ _,by rw[mid_zero];exact T,Yw _ _⟩
 case round=>
  obtain⟨i,over,c,q,rfl,rfl,rfl,hi,J,m,n,j,v⟩:=hrel;by_cases W:i<len
  . obtain⟨b,off,rfl,R,k⟩:=V.o i W;have P:=Q.o _ rfl om;have f:=n.o.1;have ai:wr.cell? ⟨b,off+i,none⟩=some (E C (bs[i]?.getD 0:Nat)):=(BR (w:=w) (v.block b R (λe=>P (by cases e;rfl)))).trans k;have Y:wr.cell? ⟨g,ro+i,none⟩=some (E C (xs[ro+i]?.getD 0:Nat)):=by rw[<-GD f om];exact j.cell (by rw[JP f om];omega)
    have M:=j.frozen (ro+i);have H:=O.getD uo i;have t:=L.getD uo (ro+i);obtain⟨o,u,s,s4,D⟩:=Sh H K t J m;have l:=Ja (n.o.step _ _ _ u o s D);have z:=Ja (show ∀d,(Da xs ro i q).set (ro+i) d=Da xs ro (i+1) (q++[d])from λd=>Gb f om d);clear k f D;generalize bs[i]?.getD 0=x at *;generalize xs[ro+i]?.getD 0=r at *;have a1:=KR (Yk x wd) over;have S:=KS r (Yt (Yk x wd) over 0) c m;unfold DN at o;go_wp2_with(first
     |(go_at_call 190;refine(GE _ _ H K _).mono ?_;rintro e A ⟨rfl,rfl⟩))
    exact⟨⟨i+1,Xq x wd+YP (Yk x wd) over 0,FH r (Yt (Yk x wd) over 0) c,q++[FL r (Yt (Yk x wd) over 0) c],DO,DO,rfl,om,l.o.2.2.1,l.o.2.2.2.1,l,by rw[<-z.o];exact j.set _ _,Jf v (JD _ _ _ _)⟩,by simp[intOf];omega⟩
  . obtain rfl:i=len:=om
    have f:=n.o.1;have Y:wr.cell? ⟨g,ro+i,none⟩=some (E C (xs[ro+i]?.getD 0:Nat)):=by rw[<-GD f om];exact j.cell (by rw[JP f om];omega)
    have M:=j.frozen (ro+i);have t:=L.getD uo (ro+i);obtain⟨o,u,s⟩:=Lm t J m;have l:=Ja (n.o.last N.o.symm o s);have z:=Ja (show ∀d,(Da xs ro i q).set (ro+i) d=Da xs ro (i+1) (q++[d])from λd=>Gb f om d);clear f s;generalize xs[ro+i]?.getD 0=r at *;have S:=KS r over c m;go_wp2;go_ret;exact⟨FH r over c,_,rfl,⟨u,l.o⟩,by rw[<-z.o];exact j.set _ _,Jf v (JD _ _ _ _)⟩
