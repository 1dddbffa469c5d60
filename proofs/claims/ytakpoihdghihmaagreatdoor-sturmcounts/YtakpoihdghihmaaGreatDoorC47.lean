import Derived.Test.YtakpoihdghihmaaGreatDoorC46
open Go.Value renaming slice->C,bool->B
open Go renaming World->G,Value->I
open Go.Proofs.Tryz renaming prog->F
set_option maxRecDepth 100000
set_option maxHeartbeats 16000000
namespace Go.Proofs.YtakpoihdghihmaaGreatDoor
attribute [local go_sem] Oper.semAt_some
section
variable {a b c d p q r w y R:List Rat}
theorem Dx.shift(h:Dx a b)(f:∀x,ev b x=ev c x+ev a x*ev d x):Dx a c:=by
 obtain⟨u,v,e⟩:=h;refine⟨XR u (JB v d),v,λx=>?_⟩;rw[Xl,Jk];have:=e x;rw[f]at this;grind
theorem Dx.left(h:Dx a (JB b c)):Dx a b:=(h.symm.of_dv ((Dv.refl b).mul c)).symm
theorem Dx.right(h:Dx a (JB b c)):Dx a c:=(h.symm.of_dv ((Dv.refl c).mul' b)).symm
theorem Yun.part(h:Yun R w y):Dx (JQ w (YA y (Jc w))) (Jc (JQ w (YA y (Jc w))))/\Dx (JQ w (YA y (Jc w))) (Jz w (JQ w (YA y (Jc w)))):=by
 obtain⟨b,c,_⟩:=XU h.tw (Xy y (Jc w));have a:=h.step.2.2.2.2.2;obtain⟨P,f⟩:=ex (JQ w (YA y (Jc w)));rw[f]at b c a ⊢;obtain⟨e,i⟩:=ex (Jz w P);rw[i]at a ⊢;have c1:Dx P y:=h.cop.of_dv b;obtain⟨t,g⟩:=c;have c2:Dx P (Jc w):=c1.shift (d:=t) λx=>by
  have:=g x;rw[Xp]at this;grind
 have c3:Dx P (JB (Jc P) e):=c2.shift (d:=Jc e) λx=>by
  have:=congrArg (λr=>ev (Jc r) x) a;simp only[Xg]at this;rw[Jk];exact this
 exact⟨c3.left,c3.right⟩
end
section
variable {q w y:List Rat}
end
section
variable{a b p:List Rat}{c:Rat}
theorem N3(h:c≠0):0<Y7 c:=by
 unfold Y7;split<;>grind
theorem kW(h:0<c):∀n:Nat,0<c^n:=by
 intro n;induction n with
 |zero=>rw[Rat.pow_zero];decide
 |succ n a=>rw[Rat.pow_succ];exact Rat.mul_pos a h
theorem kX{q:List Rat}(hq:Jd q=q)(a:q≠[]):0<Ee p q:=kW (N3 (Js hq a)) _
theorem U6(tb:Jd b=b)(b0:b≠[]):∃(q:List Rat) (c:Rat),0<c/\∀x,Ee a b*ev a x=ev q x*ev b x-c*ev (Xo a b) x:=by
 obtain⟨k,f,e⟩:=Hn (p:=JE (Xk a b) b) (Yf _);refine⟨Jz (Xk a b) b,1/k,Xq DO f,λx=>?_⟩;have g:=(Yh (Xk a b) b tb b0).1 x;have i:ev (Xk a b) x=ev a x*Ee a b:=JW _ _ _;have d:ev (Xo a b) x=-(ev (JE (Xk a b) b) x*k):=by
  unfold Xo;rw[Xp,e,JW];simp[ev];grind
 have j:1/k*k=1:=Ar (by grind);rw[d];grind
theorem chnL_head(a b:List Rat):∃t,GG a b=a::t:=by
 unfold GG;cases b.length with
 |zero=>exact⟨_,rfl⟩
 |succ n=>
  unfold El;split
  . exact⟨_,rfl⟩
  . exact⟨_,rfl⟩
theorem U7(ta:Jd a=a)(b:a≠[])(x:Rat):ev (Jz a a) x=1:=by
 have h:=Xd (u:=Jz a a) (v:=[1]) ta b (λx=>by
  rw[<-(JZ ta b (Dv.refl a)).2 x,JS];grind) x
 rwa[JS]at h
theorem QI:∀(n:Nat) (a b:List Rat),b.length<=n->Jd a=a->Jd b=b->a≠[]->∃g,(GG a b).getLast?=some g/\Jd g=g/\g≠[]/\Dv g a/\Dv g b/\(∀d,Dv d a->Dv d b->Dv d g)/\StC ((GG a b).map λp=>Jz p g):=by
 intro n;induction n with
 |zero=>
  intro a b M ta _ e
  have:b=[]:=AM.1 O
  subst this;exact⟨a,rfl,ta,e,Dv.refl a,Dv.zero a,λ_ h _=>h,StC.one (c:=1) DO λx=>U7 ta e x⟩
 |succ n T=>
  intro a b M ta tb e;by_cases b0:b=[]
  . subst b0;exact⟨a,rfl,ta,e,Dv.refl a,Dv.zero a,λ_ h _=>h,StC.one (c:=1) DO λx=>U7 ta e x⟩
  . have hl:=XO (a:=a) tb b0;obtain⟨g,E,i,f,k,r,H,j⟩:=T b (Xo a b) O tb (Kg _ _) b0;obtain⟨q,c,c0,l⟩:=U6 (a:=a) tb b0;have w0:=kX (p:=a) tb b0;have w:1/Ee a b*Ee a b=1:=Ar (by grind);have y:1/c*c=1:=Ar (by grind);have m:Dv g a:=k.comb r (JB [1/Ee a b] q) [-(1/Ee a b*c)] λx=>by
     rw[Jk,JS,JS];have:=l x
     have:ev a x=1/Ee a b*(Ee a b*ev a x):=by rw[<-Rat.mul_assoc,w,CW]
     grind
    refine⟨g,?_,i,f,m,k,λd d1 o=>H d o (o.comb d1 (JB [1/c] q) [-(1/c*Ee a b)] λx=>?_),?_⟩
    . rw[Kh tb b0,List.getLast?_cons,E];rfl
    . rw[Jk,JS,JS];have:=l x
      have:ev (Xo a b) x=1/c*(c*ev (Xo a b) x):=by rw[<-Rat.mul_assoc,y,CW]
      grind
    . rw[Kh tb b0];by_cases s:Xo a b=[]
      . rw[s,LR]at j ⊢;cases j with
        |one K L=>exact StC.two K L
      . obtain⟨t,N⟩:=chnL_head (Xo a b) (Xo b (Xo a b));rw[Kh (Kg _ _) s,N]at j ⊢;have z:=(JZ i f m).2;have A:=(JZ i f k).2;have D:=(JZ i f r).2;refine StC.more (q:=q) w0 c0 (λx=>?_) j;have:=Xd (u:=JB [Ee a b] (Jz a g)) (v:=YA (JB q (Jz b g)) (JB [c] (Jz (Xo a b) g))) i f (λx=>by
         rw[Jk,Xp,Jk,Jk,JS,JS];have P:=z x;have Q:=A x;have R:=D x;have S:=l x;rw[P,Q,R]at S;grind) x
        rwa[Jk,Xp,Jk,Jk,JS,JS]at this
theorem kY:∀(n:Nat) (R w y:List Rat),R.length<=n->Yun R w y->Dx w (Jc w):=by
 intro n;induction n with
 |zero=>intro R w y p h;exact absurd (AM.1 O) h.R0
 |succ n r=>
  intro R w y p h;by_cases hl:w.length<=1
  . obtain⟨c,o⟩:=Nw h.tw h.w0 hl;refine⟨c,[],λx=>?_⟩;have:=o x;rw[JS]at this;simp[ev];grind
  . obtain⟨j,g⟩:=h.part;obtain⟨_,_,b,k,_,f⟩:=h.step;obtain⟨a,m⟩:=ex (JQ w (YA y (Jc w)));rw[m]at j g b f;obtain⟨e,q⟩:=ex (Jz w a);rw[q]at g b f;have s:(Jz R w).length<=n:=by
     have:=JX h.tw b.tR h.w0 b.R0;rw[<-k]at this;omega
    have l:=r _ _ _ s b;have i:∀x,ev (Jc w) x=ev (Jc a) x*ev e x+ev a x*ev (Jc e) x:=λx=>by
     have:=Xg a e x;rwa[<-f]at this
    have c1:Dx a (Jc w):=(j.mul g).shift (d:=JB [-1] (Jc e)) λx=>by
     rw[Jk,Jk,JS,i];grind
    have c2:Dx e (Jc w):=(g.symm.mul l).shift (d:=JB [-1] (Jc a)) λx=>by
     rw[Jk,Jk,JS,i];grind
    have c3:=(c1.symm.mul c2.symm).symm;rwa[<-f]at c3
theorem kZ(c:Rat)(p:List Rat)(x:Rat):ev (Jc (DU c p)) x=c*ev (Jc p) x:=by
 rw[Ko,Ko];unfold DU;rw[QX (J1 _),QZ,CL]
def Yd(p:List Rat):List (List Rat):=(ER p (Jc p)).map λa=>Jz a ((ER p (Jc p)).getLast?.getD [])
def DS(p:List Rat):List Rat:=Jz (Jy p) (JQ (Jy p) (Jc (Jy p)))
def Ki(p:List Rat):List Rat:=Jz (Jc (Jy p)) (JQ (Jy p) (Jc (Jy p)))
theorem kd(tp:Jd p=p)(p0:p≠[]):StC (Yd p)/\∃f l k,Yd p=f::l/\k≠0/\(∀x,ev f x=k*ev (DS p) x)/\∀f1 l1,l=f1::l1->∃U,0<k*U/\∀x,ev f1 x=U*ev (Ki p) x:=by
 have ts:=JP p;obtain⟨α,α0,hα⟩:=Hn tp;obtain⟨β,β0,hβ⟩:=Hn ts;obtain⟨y,s⟩:=QH tp p0;obtain⟨b,hl⟩:=ex (cf p (p.length-1));rw[hl]at y s;have tR:=YD p;have R0:=LN tp p0;obtain⟨R,S⟩:=ex (Jy p);rw[S]at s tR R0;have z:=JP R;have X:JK p≠[]:=λe=>p0 (AM.1 (by rw[<-Yc tp,e];rfl));have A:∀x,ev (JK p) x=α*b*ev R x:=λx=>by
  rw[hα,JW];conv=>lhs;rw[s]
  rw[JW];grind
 have D:∀x,ev (JK (Jc p)) x=β*b*ev (Jc R) x:=λx=>by
  rw[hβ,JW];have:=kZ b R x;rw[<-s]at this;rw[this];grind
 obtain⟨g,h1,E,N,P,Q,h4,h5⟩:=QI _ (JK p) (JK (Jc p)) (Aa _) (YI _) (YI _) X;obtain⟨H,K,_⟩:=XU tR z;have q:=YE R (Jc R);have r:=I5 tR z (Or.inl R0);have fW:=(JZ q r H).2;have fY:=(JZ q r K).2;have V:Dv (JQ R (Jc R)) g:=h4 _ (by
  obtain⟨c,j⟩:=H;exact⟨DU (α*b) c,λx=>by rw[A,j,JW];grind⟩) (by obtain⟨c,j⟩:=K;exact⟨DU (β*b) c,λx=>by rw[D,j,JW];grind⟩)
 have T:∀ {k:Rat},0<k->1/(k*b)*(k*b)=1:=λhk=>Ar (by
  intro e;rcases CP.1 e with e|e
  . grind
  . exact y e)
 have W:Dv g (JQ R (Jc R)):=P5 tR z (by
  obtain⟨c,j⟩:=P;refine⟨DU (1/(α*b)) c,λx=>?_⟩;have i:=j x;rw[A]at i
  have:ev R x=1/(α*b)*(α*b*ev R x):=by rw[<-Rat.mul_assoc,T α0,CW]
  rw[this,i,JW];grind) (by
  obtain⟨c,j⟩:=Q;refine⟨DU (1/(β*b)) c,λx=>?_⟩;have i:=j x;rw[D]at i
  have:ev (Jc R) x=1/(β*b)*(β*b*ev (Jc R) x):=by rw[<-Rat.mul_assoc,T β0,CW]
  rw[this,i,JW];grind)
 obtain⟨m,m0,hm⟩:=Dv.anti q E V W;have L:∀x,ev g x=m*ev (JQ R (Jc R)) x:=λx=>by rw[hm,JW];grind
 have w:1/m*m=1:=Ar m0;have qa:=(JZ E N P).2;have qb:=(JZ E N Q).2;have M:Yd p=(GG (JK p) (JK (Jc p))).map λa=>Jz a g:=by
  unfold Yd ER;rw[h1];rfl
 refine⟨by rw[M];exact h5,?_⟩;obtain⟨t,d⟩:=chnL_head (JK p) (JK (Jc p));unfold DS Ki;rw[S];refine⟨Jz (JK p) g,t.map λa=>Jz a g,1/m*(α*b),by rw[M,d];rfl,?_,λx=>?_,λf1 l1 n=>⟨1/m*(β*b),?_,λx=>?_⟩⟩
 . intro e;rcases CP.1 e with e|e
   . rw[e]at w;grind
   . rcases CP.1 e with e|e
     . grind
     . exact y e
 . have:=Xd (u:=Jz (JK p) g) (v:=DU (1/m*(α*b)) (Jz R (JQ R (Jc R)))) q r (λx=>by
    have o:=qa x;rw[L,A,fW]at o;rw[JW]
    have:ev (JQ R (Jc R)) x*ev (Jz (JK p) g) x=1/m*(m*ev (JQ R (Jc R)) x*ev (Jz (JK p) g) x):=by
     rw[<-Rat.mul_assoc,<-Rat.mul_assoc,w,CW]
    rw[this,<-o];grind) x
   rw[this,JW];grind
 . have i:1/m*(α*b)*(1/m*(β*b))=(1/m*b)*(1/m*b)*(α*β):=by grind
   rw[i];refine Rat.mul_pos ?_ (Rat.mul_pos α0 β0);have c0:1/m*b≠0:=λe=>by
    rcases CP.1 e with e|e
    . rw[e]at w;grind
    . exact y e
   have:=Lg (f:=[1/m*b]) c0 (λx=>JS _ x) 0 0;unfold EG at this;rwa[JS]at this
 . have hb:f1=Jz (JK (Jc p)) g:=by
    by_cases b0:JK (Jc p)=[]
    . rw[b0,LR]at d;injection d with _ d
      rw[<-d]at n;cases n
    . rw[Kh (YI _) b0]at d;injection d with _ d
      obtain⟨t2,ad⟩:=chnL_head (JK (Jc p)) (Xo (JK p) (JK (Jc p)));rw[<-d,ad]at n;injection n with n _
      exact n.symm
   rw[hb];have:=Xd (u:=Jz (JK (Jc p)) g) (v:=DU (1/m*(β*b)) (Jz (Jc R) (JQ R (Jc R)))) q r (λx=>by
    have o:=qb x;rw[L,D,fY]at o;rw[JW]
    have:ev (JQ R (Jc R)) x*ev (Jz (JK (Jc p)) g) x=1/m*(m*ev (JQ R (Jc R)) x*ev (Jz (JK (Jc p)) g) x):=by
     rw[<-Rat.mul_assoc,<-Rat.mul_assoc,w,CW]
    rw[this,<-o];grind) x
   rw[this,JW];grind
def JN(b:List Rat):List Rat:=DU (1/Y7 (cf b (b.length-1))) b
def EO:Nat->List Rat->List Rat->List (List Rat)
 |0,a,_=>[a]
 |n+1,a,b=>if b=[]then [a]else a::EO n (JN b) (DU (-1) (JE a (JN b)))
theorem QJ(n:Nat)(a b:List Rat):∃t,EO n a b=a::t:=by
 cases n with
 |zero=>exact⟨_,rfl⟩
 |succ n=>
  unfold EO;split
  . exact⟨_,rfl⟩
  . exact⟨_,rfl⟩
theorem LT(tb:Jd b=b)(b0:b≠[]):0<1/Y7 (cf b (b.length-1)):=Xq DO (N3 (Js tb b0))
theorem LU(g:c≠0)(tb:Jd b=b):(DU c b).length=b.length:=by
 have e:DU (1/c) (DU c b)=b:=by rw[Kf,CL,Ar g,Ie tb]
 have a:∀(d:Rat) (q:List Rat),(DU d q).length<=q.length:=λd q=>by
  unfold DU;refine Am (JY _) ?_;unfold Yr;simp
 have i:=a c b;have f:=a (1/c) (DU c b);rw[e]at f;omega
theorem U8(ta:Jd a=a)(h:Dx a []):∃c,c≠0/\∀x,ev a x=c:=by
 obtain⟨u,v,b⟩:=h;have f:Dv a [1]:=⟨u,λx=>by rw[JS,<-b x];simp[ev];grind⟩;have g:=(f.len ta DO DO).1;have d:a≠[]:=λe=>by
  have:=b 0;rw[e]at this;simp[ev]at this;grind
 match a,d,g with
 |[c],_,_=>
  refine⟨c,λe=>?_,λx=>JS c x⟩;have:=b 0;rw[e]at this;simp[ev]at this;grind
theorem ke:∀(n:Nat) (a b:List Rat),b.length<=n->Jd a=a->Jd b=b->Dx a b->StC (EO n a b):=by
 intro n;induction n with
 |zero=>
  intro a b p ta _ d
  have:b=[]:=AM.1 O
  subst this;obtain⟨c,c0,f⟩:=U8 ta d;exact StC.one c0 f
 |succ n w=>
  intro a b p ta tb d;by_cases b0:b=[]
  . subst b0;obtain⟨c,c0,f⟩:=U8 ta d;rw[EO,BC rfl];exact StC.one c0 f
  . rw[EO,BB b0];have Q:=LT tb b0;have lb:(JN b).length=b.length:=LU (by grind) tb;have j:Jd (JN b)=JN b:=JM _ _;have l:JN b≠[]:=λe=>b0 (AM.1 (by rw[<-lb,e];rfl));obtain⟨k,sl⟩:=Yh a (JN b) j l;have tr:Jd (JE a (JN b))=JE a (JN b):=Yf _;have o:∀x,ev (JN b) x=ev b x*(1/Y7 (cf b (b.length-1))):=λx=>JW _ _ _;have m:Dx (JN b) (DU (-1) (JE a (JN b))):=by
     obtain⟨u,v,s⟩:=d;have y:Y7 (cf b (b.length-1))*(1/Y7 (cf b (b.length-1)))=1:=by
      rw[CL];exact Ar (by have:=N3 (Js tb b0);grind)
     refine⟨XR (JB u (Jz a (JN b))) (JB [Y7 (cf b (b.length-1))] v),JB [-1] u,λx=>?_⟩;rw[Xl,Jk,Jk,Jk,JS,JS,JW];have z:=s x;have i:=k x;have A:=o x;have D:ev b x=Y7 (cf b (b.length-1))*ev (JN b) x:=by
      rw[A,CL,Rat.mul_assoc,CL (1/_),y,Rat.mul_one]
     rw[D,i]at z;grind
    have g:=w (JN b) (DU (-1) (JE a (JN b))) (by rw[LU DO tr];omega) j (JM _ _) m;by_cases r0:DU (-1) (JE a (JN b))=[]
    . rw[r0]at g ⊢;have e:EO n (JN b) []=[JN b]:=by cases n<;>rfl
      rw[e]at g ⊢;cases g with
      |one d f=>exact StC.two d f
    . have P:=JM (-1) (JE a (JN b));cases n with
      |zero=>
       exact absurd (AM.1 (by have:=LU (c:=-1) DO tr;omega)) r0
      |succ n=>
       obtain⟨t,r⟩:=QJ n (JN (DU (-1) (JE a (JN b)))) (DU (-1) (JE (JN b) (JN (DU (-1) (JE a (JN b))))));rw[EO,BB r0,r]at g ⊢;have N:=N3 (Js P r0);refine StC.more (q:=Jz a (JN b)) (a:=1) (c:=Y7 (cf (DU (-1) (JE a (JN b))) ((DU (-1) (JE a (JN b))).length-1))) DO N (λx=>?_) g;have i:=k x;have E:ev (JN (DU (-1) (JE a (JN b)))) x=ev (DU (-1) (JE a (JN b))) x*(1/Y7 (cf (DU (-1) (JE a (JN b))) ((DU (-1) (JE a (JN b))).length-1))):=JW _ _ _;have H:ev (DU (-1) (JE a (JN b))) x=ev (JE a (JN b)) x*(-1):=JW _ _ _;have L:1/Y7 (cf (DU (-1) (JE a (JN b))) ((DU (-1) (JE a (JN b))).length-1))*Y7 (cf (DU (-1) (JE a (JN b))) ((DU (-1) (JE a (JN b))).length-1))=1:=Ar (by grind);rw[E,H];generalize Y7 (cf (DU (-1) (JE a (JN b))) ((DU (-1) (JE a (JN b))).length-1))=K at *;have M:K*(ev (JE a (JN b)) x*(-1)*(1/K))=- ev (JE a (JN b)) x:=by
        have:K*(ev (JE a (JN b)) x*(-1)*(1/K))=(1/K*K)*(- ev (JE a (JN b)) x):=by grind
        rw[this,L];grind
       rw[M,CW,i];grind
def Yp(p:List Rat):List (List Rat):=EO (Jc (DS p)).length (DS p) (Jc (DS p))
theorem U9(tp:Jd p=p)(p0:p≠[]){a b:Rat}(w:a<=b):Dl (XB (Yd p) a)+Dl (XB (Yp p) b)=Dl (XB (Yd p) b)+Dl (XB (Yp p) a):=by
 obtain⟨P,f,l,k,E,S,D,s⟩:=kd tp p0;have d:=Yun.start (YD p) (LN tp p0) (I1 tp);have d:Yun (Jy p) (DS p) (Ki p):=d;have R:=kY _ _ _ _ (Aa _) d;have N:=ke _ (DS p) (Jc (DS p)) (Aa _) d.tw (JP _) R;obtain⟨A,X,u⟩:=Lf a;obtain⟨C,C0,v⟩:=Lf b;have g:0<=A+C:=by grind
 obtain⟨e,e0,sg⟩:=kA _ _ _ _ (Aa _) d g;refine glue (B:=A+C) (F:=λx=>Dl (XB (Yd p) x)) (G:=λx=>Dl (XB (Yp p) x)) ?_ (u.mono (by grind)) (v.mono (by grind)) w;refine(((P.gd g).and (N.gd g)).and sg).mono λx y _ _ _ ⟨⟨d1,i⟩,r⟩=>?_;obtain⟨m,c⟩:=QJ (Jc (DS p)).length (DS p) (Jc (DS p));show Dl (XB (Yd p) x)+Dl (XB (Yp p) y)=Dl (XB (Yd p) y)+Dl (XB (Yp p) x);unfold Yp;rw[E]at d1 ⊢;rw[c]at i ⊢;refine d1.both i S D λL f1 l1 j m1 hl o=>?_;obtain⟨k1,T,H⟩:=s f1 l1 hl;obtain⟨U,V⟩:=r L;by_cases w0:Jc (DS p)=[]
 . exfalso
   rw[w0]at c;rw[o]at c;simp[EO]at c
 . obtain⟨n,M⟩:∃n,(Jc (DS p)).length=n+1:=⟨_,(Nat.succ_pred_eq_of_pos (Ae.2 w0)).symm⟩;rw[M,EO,BB w0]at c;injection c with _ c
   obtain⟨t,Q⟩:=QJ n (JN (Jc (DS p))) (DU (-1) (JE (DS p) (JN (Jc (DS p)))));rw[Q,o]at c;injection c with K _
   have W:=LT (JP (DS p)) w0;have q:∀z,ev j z=ev (Jc (DS p)) z*(1/Y7 (cf (Jc (DS p)) ((Jc (DS p)).length-1))):=λz=>by rw[<-K];exact JW _ _ _
   have fin:∀z,e<=ev (Ki p) z*ev (Jc (DS p)) z->0<k*ev f1 z*ev j z:=λz hz=>by
    rw[H,q];have:=Rat.mul_pos (Rat.mul_pos T W) (show 0<ev (Ki p) z*ev (Jc (DS p)) z by grind);grind
   exact⟨fin x U,fin y V⟩
def MJ(l:List (List Rat)):Prop:=∀p∈l,Jd p=p/\p≠[]
def IC(l:List (List Rat)):List Rat:=l.map λp=>cf p (p.length-1)
def GV(l:List (List Rat)):List Rat:=l.map λp=>(-1)^(p.length-1)*cf p (p.length-1)
theorem N8{l:List (List Rat)}(h:MJ l):∃B,0<B/\(∀x,B<=x->Dl (XB l x)=Dl (IC l))/\∀x,x<=-B->Dl (XB l x)=Dl (GV l):=by
 have m:∃B,0<B/\(∀x,B<=x->∀p∈l,0<ev p x*cf p (p.length-1))/\∀x,x<=-B->∀p∈l,0<ev p x*((-1)^(p.length-1)*cf p (p.length-1)):=by
  induction l with
  |nil=>exact⟨1,DO,(λ_ _ _ hp=>absurd hp (List.not_mem_nil)),(λ_ _ _ hp=>absurd hp (List.not_mem_nil))⟩
  |cons p l g=>
   obtain⟨B,d,b,c⟩:=g λq hq=>h q (F2 _ hq);obtain⟨tp,p0⟩:=h p (CM);obtain⟨C,n,e⟩:=Vx tp p0;obtain⟨D,o,f⟩:=Vy tp p0;refine⟨B+C+D,by grind,λx a q hq=>?_,λx a q hq=>?_⟩
   . rcases FS.1 hq with rfl|hq
     . rw[CL];exact e x (by grind)
     . exact b x (by grind) q hq
   . rcases FS.1 hq with rfl|hq
     . rw[CL];exact f x (by grind)
     . exact c x (by grind) q hq
 obtain⟨B,d,b,c⟩:=m;refine⟨B,d,λx a=>?_,λx a=>?_⟩
 . refine RE _ _ 0 0 (by simp[XB,IC]) (λi j k=>?_) (Or.inr ⟨rfl,rfl⟩);simp only[XB,IC,List.getElem_map];exact b x a _ (CU _)
 . refine RE _ _ 0 0 (by simp[XB,GV]) (λi j k=>?_) (Or.inr ⟨rfl,rfl⟩);simp only[XB,GV,List.getElem_map];exact c x a _ (CU _)
theorem kg:∀(n:Nat) (a b g:List Rat),b.length<=n->Jd a=a->Jd b=b->a≠[]->Dv g a->Dv g b->Jd g=g->g≠[]->MJ ((GG a b).map λp=>Jz p g):=by
 intro n;induction n with
 |zero=>
  intro a b g s ta tb j f k i d
  have:b=[]:=AM.1 O
  subst this;intro p hp;rw[LR]at hp;rcases CJ.1 hp with⟨q,hq,rfl⟩
  have:q=a:=by simpa using hq
  subst this;exact⟨Xn _ _,λe=>j (Xu ta λx=>by rw[(JZ i d f).2,e];simp[ev])⟩
 |succ n u=>
  intro a b g s ta tb j f k i d;have l:Jd (Jz a g)=Jz a g/\Jz a g≠[]:=⟨Xn _ _,λe=>j (Xu ta λx=>by rw[(JZ i d f).2,e];simp[ev])⟩;by_cases b0:b=[]
  . subst b0;intro p hp;rw[LR]at hp;rcases CJ.1 hp with⟨q,hq,rfl⟩
    have:q=a:=by simpa using hq
    subst this;exact l
  . have hl:=XO (a:=a) tb b0;obtain⟨q,c,c0,t⟩:=U6 (a:=a) tb b0;have m:1/c*c=1:=Ar (by grind);have o:Dv g (Xo a b):=k.comb f (JB [1/c] q) [-(1/c*Ee a b)] λx=>by
     rw[Jk,JS,JS];have:=t x
     have:ev (Xo a b) x=1/c*(c*ev (Xo a b) x):=by rw[<-Rat.mul_assoc,m,CW]
     grind
    have r:=u b (Xo a b) g O tb (Kg _ _) b0 k o i d;rw[Kh tb b0];intro p hp;rcases FS.1 hp with rfl|hp
    . exact l
    . exact r p hp
theorem N9(tp:Jd p=p)(p0:p≠[]):MJ (Yd p):=by
 have b:JK p≠[]:=λe=>p0 (AM.1 (by rw[<-Yc tp,e];rfl));obtain⟨g,f,k,d,i,j,_,_⟩:=QI _ (JK p) (JK (Jc p)) (Aa _) (YI _) (YI _) b;have c:Yd p=(GG (JK p) (JK (Jc p))).map λa=>Jz a g:=by
  unfold Yd ER;rw[f];rfl
 rw[c];exact kg _ _ _ g (Aa _) (YI _) (YI _) b i j k d
theorem kh:∀(n:Nat) (a b:List Rat),Jd a=a->Jd b=b->a≠[]->MJ (EO n a b):=by
 intro n;induction n with
 |zero=>
  intro a b ta _ c p hp
  have:p=a:=by simpa[EO]using hp
  subst this;exact⟨ta,c⟩
 |succ n d=>
  intro a b ta tb c p hp;by_cases b0:b=[]
  . rw[EO,BC b0]at hp
    have:p=a:=by simpa using hp
    subst this;exact⟨ta,c⟩
  . rw[EO,BB b0]at hp;rcases FS.1 hp with rfl|hp
    . exact⟨ta,c⟩
    . have f:=LT tb b0;have lb:(JN b).length=b.length:=LU (by grind) tb;exact d _ _ (JM _ _) (JM _ _) (λe=>b0 (AM.1 (by rw[<-lb];show(DU _ b).length=0;rw[e];rfl))) p hp
theorem QK(tp:Jd p=p)(p0:p≠[]):MJ (Yp p):=by
 have a:Yun (Jy p) (DS p) (Ki p):=Yun.start (YD p) (LN tp p0) (I1 tp);exact kh _ _ _ a.tw (JP _) a.w0
theorem VA(tp:Jd p=p)(p0:p≠[])(x:Rat):Dl (GV (Yd p))+Dl (XB (Yp p) x)=Dl (XB (Yd p) x)+Dl (GV (Yp p)):=by
 obtain⟨B,g,_,c⟩:=N8 (N9 tp p0);obtain⟨C,i,_,d⟩:=N8 (QK tp p0);obtain⟨X,j,e⟩:=Lf x;have:=U9 tp p0 (a:=-(B+C+X)) (b:=x) (by have:=e.1;clear c d;grind);have f:=c (-(B+C+X)) (by clear c d;grind);have q2:=d (-(B+C+X)) (by clear c d;grind);rw[f,q2]at this;exact this
theorem kj(tp:Jd p=p)(p0:p≠[]):Dl (GV (Yd p))+Dl (IC (Yp p))=Dl (IC (Yd p))+Dl (GV (Yp p)):=by
 obtain⟨B,d,a,_⟩:=N8 (N9 tp p0);obtain⟨C,e,b,_⟩:=N8 (QK tp p0);have:=VA tp p0 (B+C);have c:=a (B+C) (by clear a b;grind);have q2:=b (B+C) (by clear a b;grind);rw[c,q2]at this;exact this
end
namespace M3
open Go.RowKit Go.Shelf
variable{cs:List I}{ty:TypeId}{v:I}{W W':G}
theorem kl(va:I)(ps:List Rat)(w:G)(r:RowK false w va ps)(am:Jd ps=ps)(T:Da ps)(ak:ps≠[]->Sq (1/Y7 (cf ps (ps.length-1))))(aw:ps.length<1099511627776):
 Calls F 109 #[va] w λe g=>∃u,e=.returned u/\RowK false g u (JN ps)/\Bl w g:=by
 obtain⟨a,la,ca,rfl⟩:=r.form;obtain⟨aq,ay,az,bm,s,t,aa,bb,ll,cc,kk,dd,hc⟩:=r.formsF;by_cases q:ps=[]
 . have HA:=Y (show RowK false w (C a la ca) (JN ps)by rw[q]at r ⊢;exact r);have bl:(la:Int)=0:=by rw[aq,q];rfl
   clear r hc T ak am q;go_enter Tryz.func109,Tryz.ntmps109
   go_wp2_with fail
   go_ret;exact⟨_,rfl,HA.o,BA _ _⟩
 . have bk:¬(la:Int)=0:=by have:=Ae.2 q;omega
   obtain⟨m,hm⟩:=ex (la-1:Nat);have bn:(la:Int)-1=(m:Int):=O
   have bt:IntKind.i64.wrap (m:Int)=(m:Int):=by rw[BL];omega
   have bu:(m:Int)<(la:Int):=O
   have Qk:ps.length-1=m:=O
   obtain⟨ap,b1,rfl,bj,bf,bg,bh,bi⟩:=hc m O;obtain⟨Qr,Qp,Qo,Qm⟩:=Dy (show Y7 (cf ps m)≠0 by rw[<-Qk];exact Py (Js am q)) (show Sq (1/Y7 (cf ps m))by rw[<-Qk];exact ak q) (show Jd (Yr (1/Y7 (cf ps m)) ps)=JN ps by unfold JN DU;rw[Qk]) λ(V:G) (R:Bl w V)=>r.below R;have Qq:=Y (show Sq (Y7 (cf ps m))by
    rcases Nr (cf ps m)with e|e
    . rw[e];exact T.at m
    . rw[e];exact(T.at m).neg)
   have Ql:=Y T;have Qn:=Y aw;have hA:Bl w (w.alloc (.cells #[C (aa m) (ll m) (cc m),B (s m),C (bb m) (kk m) (dd m),B (t m)] 47)):=Ba w _;have n1:=JF.new w 47 (C (aa m) (ll m) (cc m)) (B (s m)) (C (bb m) (kk m) (dd m)) (B (t m));have r1:=ap.below hA;obtain⟨M,ae⟩:=ex (w.alloc (.cells #[C (aa m) (ll m) (cc m),B (s m),C (bb m) (kk m) (dd m),B (t m)] 47));rw[ae]at hA n1 r1;obtain⟨Qi,U,N,Qf,Qg,j⟩:=Kx ae hA (L0 _ (cf ps m) M r1) (λ(V:G) (R:Bl M V)=>ef _ (cf ps m) V (r1.below R)) r1 n1;obtain⟨n,hn⟩:=ex ((cf ps m).num.sign);rw[hn]at N;have Qj:=Y λ(V:G)=>YH 1 O O V;have Qh:=Y λ(V:G) (x y:I) (hx:Jl V x ((1:Int):Rat)) (hy:Jl V y (Y7 (cf ps m)))=>show Calls F 158 #[x,y] V λe g=>∃u,e=.returned u/\Jl g u (1/Y7 (cf ps m))/\Bl V g from PV x y _ _ V hx hy (Sq.of (k:=1) ⟨Sm.one 1 O,Sm.one 1 O⟩ O) Qq.o Qr.o;have X:=Y (λ(V:G) (R:Bl w V) (x:I) (hx:Jl V x (1/Y7 (cf ps m)))=>show Calls F 111 #[C (some ⟨b1,0,none⟩) la ca,x] V λe g=>∃u,e=.returned u/\RowK false g u (JN ps)/\Bl V g by
    have h1:=NT _ x ps (1/Y7 (cf ps m)) V (Qm.o V R) hx Ql.o Qp.o Qn.o;rw[Qo.o]at h1;exact h1)
   have W:=Y (show(cf ps m<0->n<0∧-(cf ps m)=Y7 (cf ps m))/\(¬cf ps m<0->¬n<0/\cf ps m=Y7 (cf ps m))from⟨λh=>⟨by rw[<-hn,C1 (neg_num.1 h)];decide,by unfold Y7;rw[BC h]⟩,λh=>⟨λe=>h (neg_num.2 (Int.sign_neg_iff.1 (by rw[hn];exact e))),by unfold Y7;rw[BB h]⟩⟩);clear r hc T ak am q hn hA ae r1 ap aw aq ay az n1;by_cases ad:cf ps m<0
   . obtain⟨bc,S⟩:=W.o.1 ad;rw[S]at Qf;clear W ad S Qg;go_enter Tryz.func109,Tryz.ntmps109
     go_upto_region 4 with fail
     rw[Qi.o];clear Qi;have hq:=BA M.heap.size M;obtain⟨b,c,d,f⟩:=j.o.cq;obtain⟨f0,f1,f2,f3⟩:=j.o.fq;go_upto_region 6 with(first
      |(go_at_call 58;refine N.o.mono ?_;clear N;rintro e w2 ⟨rfl,af⟩;have hq:=Bt hq af;clear b c d f f0 f1 f2 f3;obtain⟨b,c,d,f⟩:=(j.o.below hq).cq;obtain⟨f0,f1,f2,f3⟩:=(j.o.below hq).fq)
      |(go_at_call 157;refine(Qf.o _ hq).mono ?_;clear Qf;rintro e w3 ⟨v3,rfl,g3,ax⟩;obtain⟨v,z,A,D,E,H,K,L,rfl⟩:=Jl.form g3;have hq:=Bt hq ax;clear b c d f f0 f1 f2 f3;obtain⟨b,c,d,f⟩:=(j.o.below hq).cq;obtain⟨f0,f1,f2,f3⟩:=(j.o.below hq).fq))
     have o:=g3.put4 (j.o.below hq) rfl rfl rfl rfl (C v z A) (B D) (C E H K) (B L);have i:=(j.o.below hq).put (C v z A) (B D) (C E H K) (B L);have l:=Jo (Bt U.o hq) (Aa _) (C v z A) (B D) (C E H K) (B L);unfold Go.Proofs.YtakpoihdghihmaaGreatDoor.put4 at o i l;clear b c d f f0 f1 f2 f3 g3 hq j U;generalize (((w3.setCell ⟨w.heap.size,0,none⟩ (C v z A)).setCell ⟨w.heap.size,1,none⟩ (B D)).setCell ⟨w.heap.size,2,none⟩ (C E H K)).setCell ⟨w.heap.size,3,none⟩ (B L)=p at o i l ⊢;replace o:=Y o;replace i:=Y i;replace l:=Y l;have hq:=BA p.heap.size p;have hq:Bl p p.drew:=hq.drew;obtain⟨b,c,d,f⟩:=i.o.cq;go_region_held3 (λg=>g.cell? ⟨w.heap.size,0,none⟩=some (C v z A)/\g.cell? ⟨w.heap.size,1,none⟩=some (B D)/\g.cell? ⟨w.heap.size,2,none⟩=some (C E H K)/\g.cell? ⟨w.heap.size,3,none⟩=some (B L)) (first|(with_reducible exact⟨b,c,d,f⟩)|(go_keep;done))
      (first
       |(go_at_call 41;refine(Qj.o _).mono ?_;clear Qj;rintro e w5 ⟨v5,rfl,P,ah⟩;have hq:=Bt hq ah;clear b c d f;obtain⟨b,c,d,f⟩:=(i.o.below hq).cq)
       |(go_at_call 158;refine(Qh.o _ _ _ P (o.o.below hq)).mono ?_;clear Qh P;rintro e w7 ⟨v7,rfl,Q,ai⟩;have hq:=Bt hq ai;clear b c d f;obtain⟨b,c,d,f⟩:=(i.o.below hq).cq)
       |(go_at_call 111;refine(X.o _ (Bt l.o hq) _ Q).mono ?_;clear X Q;rintro e w8 ⟨v8,rfl,g8,aj⟩;have hq:=Bt hq aj;clear b c d f;obtain⟨b,c,d,f⟩:=(i.o.below hq).cq))
     go_wp2_with fail
     go_ret;exact⟨_,rfl,g8,Bt l.o hq⟩
   . obtain⟨bc,S⟩:=W.o.2 ad;rw[S]at Qg;clear W ad S Qf;go_enter Tryz.func109,Tryz.ntmps109
     go_upto_region 4 with fail
     rw[Qi.o];clear Qi;have hq:=BA M.heap.size M;obtain⟨b,c,d,f⟩:=j.o.cq;go_upto_region 6 with(go_at_call 58;refine N.o.mono ?_;clear N;rintro e w2 ⟨rfl,af⟩;have hq:=Bt hq af;clear b c d f)
     obtain⟨o,i,l⟩:=Df (Qg.o.below hq) (j.o.below hq) (Bt U.o hq);clear hq j U Qg;obtain⟨p,an⟩:=ex w2;rw[an]at o i l ⊢;clear an;generalize aa m=v,ll m=z,cc m=A,s m=D,bb m=E,kk m=H,dd m=K,t m=L at o i ⊢;have hq:=BA p.heap.size p;have hq:Bl p p.drew:=hq.drew;obtain⟨b,c,d,f⟩:=i.o.cq;go_region_held3 (λg=>g.cell? ⟨w.heap.size,0,none⟩=some (C v z A)/\g.cell? ⟨w.heap.size,1,none⟩=some (B D)/\g.cell? ⟨w.heap.size,2,none⟩=some (C E H K)/\g.cell? ⟨w.heap.size,3,none⟩=some (B L)) (first|(with_reducible exact⟨b,c,d,f⟩)|(go_keep;done))
      (first
       |(go_at_call 41;refine(Qj.o _).mono ?_;clear Qj;rintro e w5 ⟨v5,rfl,P,ah⟩;have hq:=Bt hq ah;clear b c d f;obtain⟨b,c,d,f⟩:=(i.o.below hq).cq)
       |(go_at_call 158;refine(Qh.o _ _ _ P (o.o.below hq)).mono ?_;clear Qh P;rintro e w7 ⟨v7,rfl,Q,ai⟩;have hq:=Bt hq ai;clear b c d f;obtain⟨b,c,d,f⟩:=(i.o.below hq).cq)
       |(go_at_call 111;refine(X.o _ (Bt l.o hq) _ Q).mono ?_;clear X Q;rintro e w8 ⟨v8,rfl,g8,aj⟩;have hq:=Bt hq aj;clear b c d f;obtain⟨b,c,d,f⟩:=(i.o.below hq).cq))
     go_wp2_with fail
     go_ret;exact⟨_,rfl,g8,Bt l.o hq⟩
def Kj(ty:TypeId)(W W':G):Prop:=∀B,B<W.heap.size->(∀cs m,W.heap[B]?≠some (.cells cs ty m))->W'.heap[B]?=W.heap[B]?
theorem Kj.at(h:Kj ty W W'){B:Nat}{cs:Array I}{t:TypeId}{m:Nat × Nat}(a:W.heap[B]?=some (.cells cs t m))(b:t≠ty):W'.heap[B]?=W.heap[B]?:=
 h B (Ab.1 a).1 λc d e=>by
  rw[a]at e;simp only[An,Bw]at e;exact b e.2.1
theorem Kj.row(h:Kj ty W W')(d:∀k,Kt k≠ty){k:IntKind}{ds:List Nat}(s:Row k W v ds):Row k W' v ds:=by
 obtain⟨a,c,e,l,n,o,f⟩:=s;refine⟨a,c,e,l,n,o,?_⟩;rcases f with f|⟨b,off,i,g,q⟩
 . exact Or.inl f
 . obtain⟨cs,m,p⟩:=id g;have d:=h.at p (d k);refine Or.inr ⟨b,off,i,g.of d,λj r=>?_⟩;rw[<-q j r];simp only[World.cell?,d]
theorem Kj.rowK(h:Kj ty W W')(r:∀k,Kt k≠ty)(s:∀k,D5 k≠ty){k:Bool}{qs:List Rat}(D:RowK k W v qs):RowK k W' v qs:=by
 obtain⟨a,cap,e,o,p,q,c⟩:=D;refine⟨a,cap,e,o,p,q,?_⟩;rcases c with c|⟨b,n,cs,d,w⟩
 . exact Or.inl c
 . refine Or.inr ⟨b,n,cs,(h.at d (s k)).trans d,λj A=>?_⟩;obtain⟨x,y,z,u,f,i,l,m,t⟩:=w j A;exact⟨x,y,z,u,f,i,l,m,t.keep λ_ _ _ g=>h.row r g⟩
theorem km(k:IntKind):Kt k≠25:=by cases k<;>decide
theorem ko(k:Bool):D5 k≠25:=by cases k<;>decide
theorem Yq.far{base:Nat}(h:Yq ty base W v cs)(c:∀B,B<W.heap.size->GE v≠some B->W'.heap[B]?=W.heap[B]?):Kj ty W W':=λB b d=>c B b λe=>by
 rcases h with⟨rfl,_⟩|⟨g,cap,f,rfl,i,a,j⟩
 . cases e
 . cases e;exact d _ _ a
theorem Gv.keep{W W':G}{cs:List I}{L:List (List Rat)}(h:Gv W cs L)(a:∀v p,Jh W v p->Jh W' v p):Gv W' cs L:=Hi.keep h λ_ _=>a _ _
def Ha(w:G)(B4 B5:Nat)(H:List (List Rat))(W:G):Prop:=
 ∃v cs,Boxed W w.heap.size 120 v/\Yq 25 (w.heap.size+1) W v cs/\Gv W cs H/\GE v≠some B4/\GE v≠some B5/\Bl w W
theorem Ha.own(w:G)(B4 B5 B:Nat)(m:w.heap.size<=B):OwnFrom B (Ha w B4 B5):=by
 rintro H W W' row ⟨v,cs,f,g,i,j,l,c⟩ a d;have b:∀r,row=some r->∃o:Obj,W.heap[r]?=some o/\o.isCells=false:=λr e=>(d r e).2;exact⟨v,cs,Yw a b f,g.own a b,i.keep λ_ _ h=>P8 a b h,j,l,c.grown a c.size λk e=>Am m (d k e).1⟩
theorem Ha.bel(w:G)(B4 B5:Nat):GB (Ha w B4 B5):=by
 rintro H W W' ⟨v,cs,b,c,d,e,f,g⟩ a;exact⟨v,cs,boxed_below b a,c.below a,d.keep λ_ _ h=>h.below a,e,f,Bt g a⟩
theorem Ha.set(w:G)(B4 B5:Nat)(q:w.heap.size+1<=B4)(r:w.heap.size+1<=B5):MD B4 B5 (Ha w B4 B5):=by
 rintro H W B a l c u n o ⟨v,cs,i,j,k,d,f,m⟩;refine⟨v,cs,Boxed.other i O u,j.keep λg e _ _=>BD W ⟨B,0,none⟩ u g λb=>?_,k.keep λ_ _ h=>h.setB o,d,f,m.setCell (p:=⟨B,0,none⟩) (by show w.heap.size<=B;omega) u⟩;have b:g=B:=b;subst b;rcases n with rfl|rfl
 . exact d e
 . exact f e
theorem Ha.app{w:G}{B4 B5:Nat}{H:List (List Rat)}(K:Boxed W w.heap.size 120 v)(f:Yq 25 (w.heap.size+1) W v cs)(R:Gv W cs H)(D:GE v≠some B4)(E:GE v≠some B5)(S:Bl w W)(l4:B4<W.heap.size)(l5:B5<W.heap.size){a:Option Addr}{l c:Nat}{r:List Rat}(V:Jh W (.agg #[C a l c]) r)(hl:cs.length+1<=1099511627776):
 ∃x y z d,(Builtin.append_ #[120,120] 120 #[v,C (some ⟨W.heap.size,0,none⟩) 1 1]).run F (W.alloc (.cells #[C a l c] 25))=.ok (C x y z) d/\Boxed d w.heap.size 120 v/\∀(b:Nat) (A:Act),b=w.heap.size+1->UU b B4 B5 (Ha w B4 B5) (H++[r]) W .normal A (d.setCell ⟨w.heap.size,0,none⟩ (C x y z)):=by
 have s:w.heap.size<W.heap.size:=(Ab.1 K).1;obtain⟨v',d,e,L,far,bel,sz,Q⟩:=PK dP (w.heap.size+1) W v cs f (x:=C a l c) rfl hl s;obtain⟨x,z,rfl,_⟩:=L.form;have N:GE v≠some w.heap.size:=λe=>by have:=(f.lt e).2;omega
 have j:Boxed d w.heap.size 120 v:=(far _ s N).trans K;have M:=Yq.far f far;have q:∀v p,Jh W v p->Jh d v p:=λv p h=>by
  obtain⟨u,e,h⟩:=h;exact⟨u,e,M.rowK km ko h⟩
 obtain⟨av,cv,X,_⟩:=f.form;have t:∀u p,Jh d u p->Jh (d.setCell ⟨w.heap.size,0,none⟩ (C x (cs++[Value.slice a l c]).length z)) u p:=λu p h=>by
  obtain⟨u,e,h⟩:=h;exact⟨u,e,XI j (o:=0) (by rw[X];rfl) rfl true DO _ _ _ h⟩
 have ne:∀B,B<W.heap.size->GE v≠some B->GE (C x (cs++[Value.slice a l c]).length z)≠some B:=λB hB h e=>by
  rcases Q with m|⟨g,m,U⟩
  . exact h (m.symm.trans e)
  . rw[m]at e;injection e with e;omega
 refine⟨x,_,z,d,e,j,λb A hb=>⟨⟨_,_,j.set _,L.keep λg e U _=>BD d ⟨w.heap.size,0,none⟩ _ g (by show g≠w.heap.size;omega),Gv.keep ((Gv.keep R q).snoc (q _ _ V)) t,ne _ l4 D,ne _ l5 E,?_⟩,?_,λk o hk n i=>?_,λu p h=>t _ _ (q _ _ h)⟩⟩
 . exact(bel _ _ O S).setCell (p:=⟨w.heap.size,0,none⟩) (Aa _) _
 . rw[World.size_setCell];exact sz
 . have P:=(Ab.1 i).1;rw[BD d ⟨w.heap.size,0,none⟩ _ k (by show k≠w.heap.size;omega)];refine(far k P λe=>?_).trans i;rcases n with n|rfl|rfl
   . rcases f with⟨rfl,_⟩|⟨g,cap,ad,rfl,_,T,_⟩
     . cases e
     . cases e;rw[T]at i;cases i;cases n
   . exact D e
   . exact E e
theorem kq{F:Fence}{n:Nat}{P:Program}(w:G){d:Array Oper}{rest:List Oper}{o:Oper}{a:Act}{Q:Exit->Act->G->Prop}(m:o.guard=none)(s x:Operand)(t:TypeId)
(b:o.op=Op.call { callee:=Callee.builtin Builtin.append,args:=#[s,x],argTypes:=#[t,t] })(f g:I)(q:a.eval s=f)(r:a.eval x=g)(e:I)(i:G)(p:(Builtin.append_ #[t,t] o.type #[f,g]).run P w=.ok e i)
(j:wpListIn F n P d Q rest (a.put o.dst e) i):wpListIn F n P d Q (o::rest) a w:=by
 refine wpListIn_plain m λK k=>?_;unfold Oper.wpIn;refine⟨?_,?_⟩
 . simp[Oper.about,b,resolve,Target.leads,Sem.run_pure]
 . rw[Oper.semAt_plain F _ _ (by rw[b];intro c l;cases l)];simp[execOp,b,resolve,invoke,builtin,q,r,p,Result.andThen];exact k _ _ j
theorem kr(K:Nat)(s t:Nat)(pa qa:Option Addr)(pl pc ql qc:Nat)(p q:List Rat)(w:G)(A:ChOk K p q)(ad:Do w s pa pl pc)(ae:Do w t qa ql qc)(ip:Jh w (.agg #[C pa pl pc]) p)(iq:Jh w (.agg #[C qa ql qc]) q):
 Calls F 186 #[C none 0 0,.func (.func 136) #[] #[.pointer (some ⟨s,0,none⟩),.pointer (some ⟨t,0,none⟩)]] w λe E=>∃v cs,e=.returned v/\Yq 25 (w.heap.size+1) E v cs/\Gv E cs (ER p q)/\Bl w E:=by
 have g:Bl w (w.alloc (.cells #[C none 0 0] 120)):=Ba w _;obtain⟨P,m⟩:=ex (w.alloc (.cells #[C none 0 0] 120));have Qd:Boxed P w.heap.size 120 (C none 0 0):=by rw[<-m];exact BG w _ _
 have X:P.heap.size=w.heap.size+1:=by rw[<-m];simp
 rw[m]at g;obtain⟨Qi,Qg,Qh,Qn,Qj,Ql,i,HA⟩:=GX A (ad.below g) (ae.below g) (ip.below g) (iq.below g) Qd X g;have Qf:=Y m;have Qk:=Y (show(ER p q).length<=1000000 from by
  have c:∀(n:Nat) (a b:List Rat),(El n a b).length<=n+1:=λn=>by
   induction n with
    |zero=>intro a b;exact Aa _
    |succ n ih=>
    intro a b;rw[El];split
    . simp
    . have:=ih b (Xo a b);simp only[Ai];omega
  have d:=c (JK q).length (JK p) (JK q);have f:=Yc A.tq;have h4:=A.ln;show(El _ _ _).length<=_;omega)
 clear A ad ae ip iq Qd X g m;refine(BI (n:=3)).1 ?_;refine BP Tryz.func186 rfl trivial ?_ rfl;simp only[Tryz.ntmps186,Av,Ai,AD,Nat.reduceAdd,Nat.reduceSub,AE,AF,AX,AH,Au,AN];gi_wp2_with fail
 rw[Qf.o];clear Qf;refine kC O Qi.o Qg.o Qh.o Qn.o Qj.o rfl (Bk Tryz.func136 (by kernel_rfl) rfl) rfl
  (λB4 B5=>Ha w B4 B5) (λB4 B5=>Ha.own w B4 B5 _ (by have:=i.o;omega)) (λB4 B5=>Ha.bel w B4 B5)
  (λB4 B5 h4 h5=>Ha.set w B4 B5 (by have:=i.o;omega) (by have:=i.o;omega)) (λB4 B5 V h4 h5 hV=>⟨_,[],boxed_below Ql.o hV,Yq.nil _ _ _,⟨rfl,λj p e=>by simp at e⟩,by simp[GE],by simp[GE],Bt HA.o hV⟩)
  (λv b=>{ tmps:=#[C none 0 0,.func (.func 136) #[] #[.pointer (some ⟨s,0,none⟩),.pointer (some ⟨t,0,none⟩)],.pointer (some ⟨w.heap.size,0,none⟩),undef,C none 0 0,.pointer (some ⟨b,0,none⟩),.func (.func 136) #[] #[.pointer (some ⟨s,0,none⟩),.pointer (some ⟨t,0,none⟩)],.agg #[v],undef,undef,undef,undef,undef],defers:=[] }) ?assign ?body ?done
 case assign=>
  intro l x xl xc W K z;gi_wp2;exact z
 case body=>
  rintro l b B4 B5 x xl xc r H W ⟨v,cs,c,d,f,u,y,k⟩ ai hb l4 l5 T hr;have N:=Bx.lt (cs:=#[C x xl xc]) T;obtain⟨xa,xb,an,E,aj,R,ah⟩:=Ha.app c d f u y k (Nat.lt_trans l4 N) (Nat.lt_trans l5 N) hr (by
   have h8:=ai.length_le;have h9:=Qk.o;have am:=f.1;simp only[Aq,Ai,AD]at h8;omega)
  have Qm:=Y (ah P.heap.size · i.o);obtain⟨Q,S,U,_,_⟩:=d.form;subst U;have e0:=c.cell;have e1:=T.cell;have e2:=R.cell;have f2:=R.frozen;clear c d f u y k ai hb l4 l5 T hr N R ah;gi_wp2_with(gi_at_builtin;refine kq _ rfl _ _ 120 rfl _ _ rfl rfl _ _ aj ?_;clear aj)
  exact Qm.o _
 case done=>
  rintro D B4 B5 W H r hD ⟨v,cs,c,d,f,u,y,k⟩ af ak z;obtain⟨Q,S,U,_,_⟩:=d.form;subst U;have e0:=c.cell;obtain⟨L,M,HD⟩:=Df (show Yq 25 (w.heap.size+1) W (C Q cs.length S) cs/\Gv W cs (ER p q)/\Bl w W from⟨d,by rw[af];exact f,k⟩) z (show w.heap.size<=D by have:=i.o;omega);clear c d f u y k af ak z hD;gi_wp2_with fail
  refine⟨Z,.inl ⟨_,_,rfl,BX M.o,?_⟩⟩;have hg:=BZ W D (.deferred none);have Qe:∀r,some D=some r->∃o:Obj,W.heap[r]?=some o/\o.isCells=false:=λr e=>by cases e;exact⟨_,M.o,rfl⟩
  exact⟨C Q cs.length S,by simp[results,Tryz.results186,go_sem],_,cs,rfl,L.o.1.own hg Qe,L.o.2.1.keep λ_ _ h=>P8 hg Qe h,L.o.2.2.trans (DH (w:=w) (Aa _) _ D _ _ HD.o M.o rfl rfl)⟩
end M3
section
variable{p:List Rat}
theorem OA(tp:Jd p=p)(p0:p≠[]):Yun (Jy p) (DS p) (Ki p):=Yun.start (YD p) (LN tp p0) (I1 tp)
theorem ks(tp:Jd p=p)(p0:p≠[]):Dv (Jy p) p/\Dv p (Jy p):=by
 obtain⟨c,b⟩:=QH tp p0;have a:Dv (Jy p) p:=⟨[cf p (p.length-1)],λx=>by
  conv=>lhs;rw[b]
  rw[JW,JS]⟩
 exact⟨a,⟨[1/cf p (p.length-1)],λx=>by rw[P4,JS]⟩⟩
theorem kt(tp:Jd p=p)(p0:p≠[]):Dv (DS p) p:=(OA tp p0).dv.trans (ks tp p0).1
open Go.RowKit Go.Shelf
theorem _root_.Go.Boxed.bel{W W':G}{B:Nat}{t:TypeId}{v:I}(h:Boxed W B t v)(a:Bl W W'):Boxed W' B t v:=(a.block B h.lt).trans h
end
section
open Go.RowKit Go.Shelf
variable{p q:List Rat}{A K:Nat}
theorem Cd.dvnG(h:Cd K p)(i:Cd A q)(tq:Jd q=q)(q0:q≠[]):∃D E l:Int,Dvn D E l K A p q:=by
 obtain⟨D,d1,c,d⟩:=h;obtain⟨E,f,g,a⟩:=i;obtain⟨n,b,j⟩:=a (q.length-1);refine⟨D,E,n,d1,c,d,f,g,a,λe=>?_,j,b⟩;exact Js tq q0 (by rw[b,e];simp)
theorem Cd.quoG(h:Cd K p)(c:Cd A q)(tq:Jd q=q)(q0:q≠[]):Cd (K+p.length*(A+1)+1) (Jz p q):=by
 obtain⟨D,E,l,b⟩:=h.dvnG c tq q0;obtain⟨m,e⟩:=ex (p.length-(q.length-1));have a:=b.den m;have d:=b.rem e;have f:m*(A+1)<=p.length*(A+1):=Ah _ O;exact⟨_,a.1,a.2.mono O,λi=>(d.2 i).mono O⟩
namespace M3
theorem ku(K A:Nat)(a b:I)(p q:List Rat)(w:G)(d:Jh w a p)(f:Jh w b q)(hp:Cd K p)(hq:Cd A q)(tp:Jd p=p)(tq:Jd q=q)(q0:q≠[])(k:2*(K+p.length*(A+1)+1)+2*(2*A+1)<=1000000):
 Calls F 139 #[a,b] w λe c=>∃u v,e=.returned (.tuple #[u,v,B true])/\Jh c u (Jz p q)/\Jh c v (JE p q)/\Bl w c:=by
 obtain⟨D,E,l,g⟩:=hp.dvnG hq tq q0;obtain⟨m,i⟩:=ex (p.length-(q.length-1));have j:m*(A+1)<=p.length*(A+1):=Ah _ O;refine UO A a b p q w d f (hp.sqs O) hq.smq tp tq q0 ?_;rw[i];exact g.sizes O
end M3
end
section
open Go.RowKit Go.Shelf
variable{b p:List Rat}{A K:Nat}
theorem X2(b:List Rat):Jd (JN b)=JN b:=JM _ _
theorem LV(tb:Jd b=b)(b0:b≠[]):JN b≠[]/\(JN b).length=b.length:=by
 have a:=LT tb b0;have lb:(JN b).length=b.length:=LU (by grind) tb;exact⟨λe=>b0 (AM.1 (by rw[<-lb,e];rfl)),lb⟩
theorem kw:Cd 1 [-1]:=⟨1,DO,Sm.one 1 O,λi=>⟨if i=0 then -1 else 0,by
 rcases i with _|i
 . rfl
 . rw[J3 Z,BB O];simp,by
 split
 . exact(Sm.one 1 O).neg
 . exact Sm.zero _⟩⟩
theorem Cd.negs(h:Cd A p):Cd (A+1) (DU (-1) p):=h.scale kw 0
theorem QL(tb:Jd b=b)(h:Ln A b)(f:1<=A):Cd (A+1) (JN b):=by
 by_cases b0:b=[]
 . subst b0;exact P2 O
 . have c:Cd A (Jy b):=LP tb h f;have d:=Js tb b0;rcases Nr (cf b (b.length-1))with e|e
   . have a:JN b=Jy b:=by unfold JN Jy;rw[e]
     rw[a];exact c.mono O
   . have a:JN b=DU (-1) (Jy b):=by
      unfold JN Jy;rw[Kf,e];congr 1;have g:cf b (b.length-1)*(1/cf b (b.length-1))=1:=by rw[CL];exact Ar d
      have i:-cf b (b.length-1)*(1 / -cf b (b.length-1))=1:=by rw[CL];exact Ar (by grind)
      generalize cf b (b.length-1)=l at *;generalize 1/l=u at *;generalize 1 / -l=v at *;have j:(u*-1-v)*l=-2*0:=by grind
      have k:u*-1-v=0:=by
       rcases CP.1 (show(u*-1-v)*l=0 by grind)with h|h
       . exact h
       . exact absurd h d
      grind
     rw[a];exact c.negs
theorem kx{c:Rat}(a:c≠0)(tb:Jd b=b)(b0:b≠[]):∃d,d≠0/\JN (DU c b)=DU d b:=by
 have l1:=LU a tb;have c0:DU c b≠[]:=λe=>b0 (AM.1 (by rw[<-l1,e];rfl));have f:=LT (JM c b) c0;refine⟨c*(1/Y7 (cf (DU c b) ((DU c b).length-1))),Hm a (by grind),?_⟩;unfold JN;rw[Kf]
structure Shn(f s:List Rat)(A M:Nat)(a b:List Rat):Prop where
 ta:Jd a=a
 tb:Jd b=b
 ca:Cd (A+1) a
 cb:Cd M b
 lb:Ln A b
 la:a.length<=f.length
 ll:b.length<=f.length
 eu:Eu f (JN s) a (JN b)
structure RwOk(J K:Nat)(p:List Rat):Prop where
 fr:M3.FrOk J p
 p0:p≠[]
 cf:Cd K (DS p)
 cs:Cd K (Jc (DS p))
 ln:(DS p).length<=1000
 fit:4*(((DS p).length+3)*(DW K (DS p) (Jc (DS p))+2))<=1000000
theorem RwOk.bd{J:Nat}(h:RwOk J K p){n:Nat}(a:n<=(DS p).length):DW K (DS p) (Jc (DS p))+1+n*(DW K (DS p) (Jc (DS p))+1+1)+1+(2*(DW K (DS p) (Jc (DS p))+1)+1)+100<=500000:=by
 have b:=h.fit;have c:n*(DW K (DS p) (Jc (DS p))+2)<=(DS p).length*(DW K (DS p) (Jc (DS p))+2):=Ah _ a;have d:((DS p).length+3)*(DW K (DS p) (Jc (DS p))+2)=(DS p).length*(DW K (DS p) (Jc (DS p))+2)+3*(DW K (DS p) (Jc (DS p))+2):=AC _ _ _;have e:DW K (DS p) (Jc (DS p))+1+1=DW K (DS p) (Jc (DS p))+2:=rfl;rw[e];omega
theorem OB(c:Rat)(q:List Rat):(DU c q).length<=q.length:=by
 unfold DU;refine Am (JY _) ?_;unfold Yr;simp
theorem Cd.remG{q:List Rat}(h:Cd K p)(c:Cd A q)(tq:Jd q=q)(q0:q≠[]):Cd (K+p.length*(A+1)+1) (JE p q):=by
 obtain⟨D,E,l,b⟩:=h.dvnG c tq q0;obtain⟨m,e⟩:=ex (p.length-(q.length-1));have a:=b.den m;have d:=b.rem e;have f:m*(A+1)<=p.length*(A+1):=Ah _ O;exact⟨_,a.1,a.2.mono O,λi=>(d.1 i).mono O⟩
section
variable {J K:Nat} {p a b:List Rat}
theorem RwOk.tf(h:RwOk J K p):Jd (DS p)=DS p:=(OA h.fr.ch.tp h.p0).tw
theorem RwOk.f0(h:RwOk J K p):DS p≠[]:=(OA h.fr.ch.tp h.p0).w0
theorem RwOk.A1(_:RwOk J K p):K+1<=DW K (DS p) (Jc (DS p)):=IP _ _ _
theorem RwOk.sl(_:RwOk J K p):(Jc (DS p)).length<=(DS p).length:=Am (JY _) (by simp[Ik])
theorem RwOk.start(h:RwOk J K p):Shn (DS p) (Jc (DS p)) (DW K (DS p) (Jc (DS p))) 500000 (DS p) (Jc (DS p)) where
 ta:=h.tf
 tb:=JP _
 ca:=h.cf.mono (by have:=h.A1;omega)
 cb:=h.cs.mono (by have:=h.A1;have:=h.bd (Az _);omega)
 lb:=h.cs.ln.mono (by have:=h.A1;omega)
 la:=Aa _
 ll:=h.sl
 eu:=.base _ _
theorem RwOk.ln_rem(h:RwOk J K p)(d:Shn (DS p) (Jc (DS p)) (DW K (DS p) (Jc (DS p))) 500000 a b)(b0:b≠[]):Ln (DW K (DS p) (Jc (DS p))) (JE a (JN b)):=by
 have l1:(JN (Jc (DS p))).length<=(Jc (DS p)).length:=OB _ _;have e:Ln K (JN (Jc (DS p))):=by
  by_cases c:Jc (DS p)=[]
  . rw[c];have:=h.cs.ln;rwa[c]at this
  . exact h.cs.ln.sc (by have:=LT (JP (DS p)) c;grind)
 have f:=h.sl;have g:=h.ln;refine(Pr h.tf (X2 _) h.cf.ln e O d.eu (LV d.tb b0).1).mono ?_;refine Am ?_ (P1 _ _ _);exact Ap _ O
theorem RwOk.next(h:RwOk J K p)(e:Shn (DS p) (Jc (DS p)) (DW K (DS p) (Jc (DS p))) 500000 a b)(b0:b≠[]):Shn (DS p) (Jc (DS p)) (DW K (DS p) (Jc (DS p))) 500000 (JN b) (DU (-1) (JE a (JN b))):=by
 obtain⟨c0,j⟩:=LV e.tb b0;have k:=h.A1;have l:=h.bd e.la;have i:=h.ln_rem e b0;have f:=QL e.tb e.lb O;have l2:=(Yh a (JN b) (X2 b) c0).2.1;have m:=OB (-1) (JE a (JN b));have ll:=e.ll;refine⟨X2 _,JM _ _,f,(e.ca.remG f (X2 b) c0).negs.mono O,i.sc DO,O,O,?_⟩;by_cases r0:JE a (JN b)=[]
 . have:=e.eu.tail (c:=1) c0 DO;rw[r0]at this ⊢;exact this
 . obtain⟨d,d0,g⟩:=kx (c:=-1) DO (Y5 a (JN b)) r0;rw[g];exact e.eu.tail c0 d0
end
end
namespace M3
open Go.RowKit Go.Shelf
theorem ky(k:IntKind):Kt k≠29:=by cases k<;>decide
theorem kz(k:Bool):D5 k≠29:=by cases k<;>decide
def I7(w wr:G)(c d e:I)(a b:List Rat)(H:List (List Rat)):Prop:=
 RowK false wr c a/\RowK false wr d b/\(∃cs,Yq 29 w.heap.size wr e cs/\E0 wr cs (H++[a]))/\Bl w wr
theorem I7.below{w wr W':G}{d e f:I}{a b:List Rat}{H:List (List Rat)}(h:I7 w wr d e f a b H)(c:Bl wr W'):I7 w W' d e f a b H:=by
 obtain⟨i,j,⟨cs,k,l⟩,m⟩:=h;exact⟨i.below c,j.below c,⟨cs,k.below c,l.keep λ_ _ g=>g.below c⟩,Bt m c⟩
theorem I7.app{w W:G}{f:I}{cs:List I}{L:List (List Rat)}(i:Yq 29 w.heap.size W f cs)(n:E0 W cs L)(j:Bl w W){a:Option Addr}{l c:Nat}{r:List Rat}(o:RowK false W (C a l c) r)(hl:cs.length+1<=1099511627776):
 ∃x y z b,(Builtin.append_ #[83,83] 83 #[f,C (some ⟨W.heap.size,0,none⟩) 1 1]).run F (W.alloc (.cells #[C a l c] 29))=.ok (C x y z) b/\(∃g,Yq 29 w.heap.size b (C x y z) g/\E0 b g (L++[r]))/\Bl w b/\∀v ps,RowK false W v ps->RowK false b v ps:=by
 obtain⟨s,b,e,k,far,bel,q,p⟩:=PK dO w.heap.size W f cs i (x:=C a l c) rfl hl j.size;obtain⟨x,z,rfl,_⟩:=k.form;have m:=Yq.far i far;have d:∀v ps,RowK false W v ps->RowK false b v ps:=λv ps h=>m.rowK ky kz h;exact⟨x,_,z,b,e,⟨_,k,(n.keep d).snoc (d _ _ o)⟩,bel _ _ (Aa _) j,d⟩
end M3
theorem RwOk.frq{J K:Nat}{p:List Rat}(h:RwOk J K p):I6 p=DS p:=by
 rw[kU h.fr.ch.tp h.p0];exact BB (I5 (YD p) (JP (Jy p)) (Or.inl (LN h.fr.ch.tp h.p0)))
namespace M3
open Go.RowKit Go.Shelf
theorem lC(n:Nat)(a:List Rat):EO n a []=[a]:=by
 cases n with
 |zero=>rfl
 |succ n=>rw[EO,BC rfl]
theorem VB:∀(n:Nat) (a b:List Rat),(EO n a b).length<=n+1:=by
 intro n;induction n with
 |zero=>intro a b;exact Aa _
 |succ n c=>
  intro a b;rw[EO];split
  . simp
  . have:=c (JN b) (DU (-1) (JE a (JN b)));simp only[Ai];omega
def lD(w:G)(p:List Rat)(K:Nat)(g i j:I)(wr:G):Prop:=∃(a b:List Rat) (H:List (List Rat)) (n:Nat) (c d e:Option Addr) (l1 c1 l2 c2 f c3:Nat),(g=C c l1 c1/\i=C d l2 c2/\j=C e f c3)/\Hid (I7 w wr (C c l1 c1) (C d l2 c2) (C e f c3) a b H)/\Hid (Shn (DS p) (Jc (DS p)) (DW K (DS p) (Jc (DS p))) 500000 a b)/\Hid (b.length<=n/\Yp p=H++EO n a b)
theorem QM(J K:Nat)(va:I)(p:List Rat)(w:G)(ha:RowK false w va p)(d:RwOk J K p):
 Calls F 49 #[va] w λe g=>∃u,e=.returned u/\(∃cs,Yq 29 w.heap.size g u cs/\E0 g cs (Yp p))/\Bl w g:=by
 obtain⟨a0,l0,c0,rfl⟩:=ha.form;have Qh:=Y (kF J _ p w ha d.fr);rw[d.frq]at Qh;have Qe:=d.bd (Aa _);have Qv:=d.A1;have Qr:=d.cf.sqs (M:=K) O;obtain⟨Qn,Qt,Ql⟩:=Df (λ(V:G) (x:I) (s:RowK false V x (DS p))=>Tc x (DS p) V s Qr (by have:=d.ln;omega)) d.start λ(a b:List Rat) (c:Shn (DS p) (Jc (DS p)) (DW K (DS p) (Jc (DS p))) 500000 a b) (b0:b≠[])=>d.next c b0;have Qp:=Y (λ(a b:List Rat) (c:Shn (DS p) (Jc (DS p)) (DW K (DS p) (Jc (DS p))) 500000 a b) (b0:b≠[]) (V:G) (x:I) (s:RowK false V x b)=>kl x b V s c.tb (c.cb.sqs O) (λh0=>by
  have i:=(c.cb.smq (b.length-1));have f:Db 500000 (Y7 (cf b (b.length-1))):=by
   rcases Nr (cf b (b.length-1))with e|e
   . rw[e];exact i
   . rw[e];exact i.neg
  rw[F0,CW];exact Sq.of (f.inv (Py (Js c.tb h0))) O) (by have:=c.ll;have:=d.ln;omega))
 have Qq:=Y (λ(a b:List Rat) (c:Shn (DS p) (Jc (DS p)) (DW K (DS p) (Jc (DS p))) 500000 a b) (b0:b≠[]) (V:G) (x y:I) (s:RowK false V x a) (hy:RowK false V y (JN b))=>show Calls F 110 #[x,y] V λe g=>∃u v,e=.returned (.tuple #[u,v])/\RowK false g u (Jz a (JN b))/\RowK false g v (JE a (JN b))/\Bl V g by
  obtain⟨c0,cl⟩:=LV c.tb b0;obtain⟨D,E,l,hd⟩:=c.ca.dvnG (QL c.tb c.lb O) (X2 b) c0;have hf:=d.bd c.la;exact Px _ _ x y a (JN b) V s hy (hd.divS a.length O) hd.start hd.sq c.ta (X2 b) c0 (by have:=c.la;have:=d.ln;omega))
 have Qm:=Y (λ(a b:List Rat) (c:Shn (DS p) (Jc (DS p)) (DW K (DS p) (Jc (DS p))) 500000 a b) (b0:b≠[]) (V:G) (x y:I) (s:RowK false V x (JE a (JN b))) (hy:Jl V y ((-1:Int):Rat))=>show Calls F 111 #[x,y] V λe g=>∃u,e=.returned u/\RowK false g u (DU (-1) (JE a (JN b)))/\Bl V g by
  obtain⟨c0,cl⟩:=LV c.tb b0;have hf:=d.bd c.la;have i:=(c.ca.remG (QL c.tb c.lb O) (X2 b) c0).sqs O;have l2:=(Yh a (JN b) (X2 b) c0).2.1;exact NT x y _ _ V s hy i (Sq.of (k:=1) ⟨(Sm.one 1 O).neg,Sm.one 1 O⟩ O) (by have:=c.ll;have:=d.ln;omega))
 have Qx:=Y (show(Yp p).length<=1000+1 from Am (VB _ _ _) (by have:=d.sl;have:=d.ln;omega));have Qk:=Y λ(V:G)=>YH (-1) O O V;clear ha d Qe Qv Qr;go_enter Tryz.func49,Tryz.ntmps49
 go_upto_region 3 with(first
  |(go_at_call 107;refine Qh.o.mono ?_;clear Qh;rintro e w1 ⟨u1,rfl,R,af⟩;obtain⟨r,l1,c1,rfl⟩:=R.form)
  |(go_at_call 108;refine(Qn.o _ _ R).mono ?_;clear Qn;rintro e j ⟨u2,rfl,g2,ad⟩;obtain⟨a2,l2,c2,rfl⟩:=g2.form))
 have W:Bl j (j.alloc (.cells #[C r l1 c1] 29)):=Ba j _;have Qd:Bl w j:=Bt af ad;have ST:Hid (I7 w (j.alloc (.cells #[C r l1 c1] 29)) (C r l1 c1) (C a2 l2 c2) (C (some ⟨j.heap.size,0,none⟩) 1 1) (DS p) (Jc (DS p)) []):=Y (by
  have ae:=(R.below ad).below W;exact⟨ae,g2.below W,⟨[C r l1 c1],Or.inr ⟨_,1,_,rfl,Qd.size,BE j _,Aa _,by unfold maxLen;omega,rfl,rfl⟩,(Hi.nil _).snoc ae⟩,Bt Qd W⟩)
 have Qj:Hid ((Jc (DS p)).length<=(Jc (DS p)).length/\Yp p=[]++EO (Jc (DS p)).length (DS p) (Jc (DS p))):=Y ⟨Aa _,by unfold Yp;rw[Au]⟩;clear W Qd R g2 af ad;go_wp2;go_loopw [3,4,5] (λL z xl wr=>lD w p K L z xl wr) λ_ z _ _=>IV z
 case atStart=>exact⟨DS p,Jc (DS p),[],(Jc (DS p)).length,r,a2,some ⟨j.heap.size,0,none⟩,l1,c1,l2,c2,1,1,⟨rfl,rfl,rfl⟩,ST,Qt,Qj⟩
 case round=>
  clear ST Qt Qj;obtain⟨a,b,H,n,r,a2,a3,l1,c1,l2,c2,l3,c3,⟨rfl,rfl,rfl⟩,o,q,P⟩:=hrel;have Qi:l2=b.length:=by obtain⟨_,_,e,_⟩:=o.o.2.1;cases e;rfl
  by_cases b0:b=[]
  . have aq:(l2:Int)=0:=by rw[Qi,b0];rfl
    have HF:=Y (show(∃cs,Yq 29 w.heap.size wr (C a3 l3 c3) cs/\E0 wr cs (Yp p))/\Bl w wr from⟨by
     have e:Yp p=H++[a]:=by rw[P.o.2,b0];exact congrArg _ (lC n a)
     rw[e];exact o.o.2.2.1,o.o.2.2.2⟩)
    clear Qi b0 o q P;go_wp2;go_ret;exact⟨_,rfl,HF.o⟩
  . obtain⟨m2,rfl⟩:∃m,l2=m+1:=⟨l2-1,by have:=Ae.2 b0;omega⟩;obtain⟨Qc,Qb,Qa,Qf⟩:=Dy (Qp.o a b q.o b0 wr _ o.o.2.1) (Qq.o a b q.o b0) (Qm.o a b q.o b0) (Ql.o a b q.o b0);have Qg:=Y (show(DU (-1) (JE a (JN b))).length<m2+1 from by
     obtain⟨c0,cl⟩:=LV q.o.tb b0;have aw:=(Yh a (JN b) (X2 b) c0).2.1;have ax:=OB (-1) (JE a (JN b));omega)
    have Qo:=Y (show ∃m,(DU (-1) (JE a (JN b))).length<=m/\Yp p=(H++[a])++EO m (JN b) (DU (-1) (JE a (JN b)))/\(H++[a]).length<=1001 from by
     obtain⟨i,f⟩:=P.o;have h3:=Qg.o;have U:=Qx.o;cases n with
      |zero=>exact absurd (AM.1 O) b0
      |succ n=>
      rw[EO,BB b0]at f;refine⟨n,O,by rw[f];simp,?_⟩;rw[f]at U;simp only[Aq,Ai,AD]at U ⊢;omega)
    clear Qi b0 Qp Qq Qm Ql P q;go_upto_region 6 with(go_at_call 109;refine Qc.o.mono ?_;clear Qc;rintro e w5 ⟨u5,rfl,S,ah⟩;obtain⟨a5,l5,c5,rfl⟩:=S.form)
    obtain⟨i1,i2,⟨cs,i3,i4⟩,i5⟩:=o.o.below ah;obtain⟨L,z,xc,t,am,ak,ai,kp⟩:=I7.app i3 i4 i5 S (by
     have i:=i4.1;obtain⟨m,_,_,f⟩:=Qo.o;omega)
    have N:=Y (show RowK false t (C r l1 c1) a/\RowK false t (C a5 l5 c5) (JN b)/\(∃Q,Yq 29 w.heap.size t (C L z xc) Q/\E0 t Q ((H++[a])++[JN b]))/\Bl w t from⟨kp _ _ i1,kp _ _ S,ak,ai⟩);clear i1 i2 i3 i4 i5 ah S ak ai kp o;have hq:=BA t.heap.size t;go_wp2_with(first
     |(at_builtin;refine BU _ rfl _ _ 83 83 rfl _ _ rfl rfl _ _ am ?_;clear am)
     |(go_at_call 110;refine(Qb.o _ _ _ N.o.1 N.o.2.1).mono ?_;clear Qb;rintro e w7 ⟨u7,v7,rfl,g7,A,an⟩;obtain⟨a7,l7,c7,rfl⟩:=g7.form;obtain⟨a8,l8,c8,rfl⟩:=A.form;have hq:=Bt hq an;clear g7)
     |(go_at_call 41;refine(Qk.o _).mono ?_;clear Qk;rintro e w8 ⟨u8,rfl,g8,aj⟩;have hq:=Bt hq aj;have A:=A.below aj)
     |(go_at_call 111;refine(Qa.o _ _ _ A g8).mono ?_;clear Qa A g8;rintro e w9 ⟨u9,rfl,T,ap⟩;obtain⟨a9,X,c9,rfl⟩:=T.form;have hq:=Bt hq ap))
    have Qu:=Y (show I7 w w9 (C a5 l5 c5) (C a9 X c9) (C L z xc) (JN b) (DU (-1) (JE a (JN b))) (H++[a])from by
     obtain⟨i,f,⟨Q,h3,h4⟩,U⟩:=N.o;exact⟨f.below hq,T,⟨Q,h3.below hq,h4.keep λ_ _ h=>h.below hq⟩,Bt U hq⟩)
    have Qs:X=(DU (-1) (JE a (JN b))).length:=by obtain⟨_,_,e,_⟩:=T;cases e;rfl
    have Qw:=Y (show X<m2+1 from by rw[Qs];exact Qg.o);clear Qs T N hq Qg;go_roundw
    case rel=>
     obtain⟨m,i,f,_⟩:=Qo.o;exact⟨JN b,DU (-1) (JE a (JN b)),H++[a],m,a5,a9,L,l5,c5,X,c9,z,xc,⟨rfl,rfl,rfl⟩,Qu,Qf,Y ⟨i,f⟩⟩
    case measure=>exact Qw.o
