import Derived.Test.YtakpoihdghihmaaGreatDoorM46
import Derived.Test.YtakpoihdghihmaaGreatDoorM29
open Go.Value renaming slice->D,pointer->C
open Go renaming World->E,Value->G,Boxed->H
open Go.Obj renaming cells->B
open Go.Proofs.Tryz renaming prog->F
set_option maxRecDepth 100000
set_option maxHeartbeats 16000000
namespace Go.Proofs.YtakpoihdghihmaaGreatDoor
def M7(p w y:List Rat):Nat->List Rat
 |0=>p
 |n+1=>Js (M7 p w y n) (Dr w y n).1
section
variable {p q w y:List Rat}
end
theorem QD{p:List Rat}(tp:Jd p=p)(p0:p≠[]):cf p (p.length-1)≠0/\p=DK (cf p (p.length-1)) (JJ p):=by
 have h:=Jw tp p0;refine⟨h,?_⟩;unfold JJ;rw[I0,show 1/cf p (p.length-1)*cf p (p.length-1)=1 by grind,He tp]
structure StR(K M:Nat)(r f:List Rat):Prop where
 tr:Jd r=r
 cr:Cd M r
 tf:Jd f=f
 f0:f≠[]
 mf:JJ f=f
 ca:Cd M f
 lr:(r.length+3)*(M+1)<=1000000000
 lf:(f.length+3)*(M+1)<=1000000000
 r1:r.length<=1000
 f1:f.length<=1000
 ch:M3.ChOk K f (Js r f)
structure ReOk(K M N:Nat)(p w y:List Rat):Prop where
 fr:M3.FrOk K p
 w0:Z8 p=w
 nN:N<=1000000000
 st:∀n,n<N->1<(Dr w y n).1.length/\StR K M (M7 p w y n) (Dr w y n).1/\Cd M (Dr w y (n+1)).1/\Jd (Dr w y (n+1)).1=(Dr w y (n+1)).1/\(Dr w y (n+1)).1≠[]/\JJ (Dr w y (n+1)).1=(Dr w y (n+1)).1/\
  JA (Dr w y n).1 (M7 p w y (n+1))=(Dr w y (n+1)).1/\Js (Dr w y n).1 (Dr w y (n+1)).1=yP (Dr w y n)/\JJ (yP (Dr w y n))=yP (Dr w y n)/\
  Jd (yP (Dr w y n))=yP (Dr w y n)/\Cd M (yP (Dr w y n))/\(yP (Dr w y n)).length<=25
 en:(Dr w y N).1.length<=1
section
variable {a b c d p q r w y R:List Rat}
theorem DP.shift(h:DP a b)(f:∀x,ev b x=ev c x+ev a x*ev d x):DP a c:=by
 obtain⟨u,v,e⟩:=h;refine⟨Xv u (Jm v d),v,λx=>?_⟩;rw[Yw,Jh];have:=e x;rw[f]at this;grind
theorem DP.left(h:DP a (Jm b c)):DP a b:=(h.symm.of_dv ((Dv.refl b).mul c)).symm
theorem DP.right(h:DP a (Jm b c)):DP a c:=(h.symm.of_dv ((Dv.refl c).mul' b)).symm
theorem aB(a:List Rat):Dv [1] a:=⟨a,λx=>by simp[ev];grind⟩
theorem aC:JJ [1]=[1]:=Xo (Y9 _) DB λx=>by rw[IJ];simp[cf,ev];grind
theorem aD(hp:Jd p=p)(hq:Jd q=q)(h:DP p q):JA p q=[1]:=by
 obtain⟨a,b,_⟩:=Yo hp hq;obtain⟨u,v,e⟩:=h;exact Dv.eq (JY _ _) DB (XS hp hq) aC (a.comb b u v λx=>by rw[<-e x];simp[ev];grind) (aB _)
theorem Yun.part(h:Yun R w y):DP (JA w (Yi y (Jc w))) (Jc (JA w (Yi y (Jc w))))/\DP (JA w (Yi y (Jc w))) (Js w (JA w (Yi y (Jc w)))):=by
 obtain⟨b,c,_⟩:=Yo h.tw (Xn y (Jc w));have a:=h.step.2.2.2.2.2;obtain⟨P,f⟩:=ex (JA w (Yi y (Jc w)));rw[f]at b c a ⊢;obtain⟨e,i⟩:=ex (Js w P);rw[i]at a ⊢;have c1:DP P y:=h.cop.of_dv b;obtain⟨t,g⟩:=c;have c2:DP P (Jc w):=c1.shift (d:=t) λx=>by
  have:=g x;rw[YT]at this;grind
 have c3:DP P (Jm (Jc P) e):=c2.shift (d:=Jc e) λx=>by
  have:=congrArg (λr=>ev (Jc r) x) a;simp only[J9]at this;rw[Jh];exact this
 exact⟨c3.left,c3.right⟩
end
section
variable {q w y:List Rat}
end
section
variable{a b p:List Rat}{c:Rat}
theorem LD(h:c≠0):0<Xe c:=by
 unfold Xe;split<;>grind
theorem aE(h:0<c):∀n:Nat,0<c^n:=by
 intro n;induction n with
 |zero=>rw[Rat.pow_zero];decide
 |succ n a=>rw[Rat.pow_succ];exact Rat.mul_pos a h
theorem aF{q:List Rat}(hq:Jd q=q)(a:q≠[]):0<D3 p q:=aE (LD (Jw hq a)) _
theorem QE(tb:Jd b=b)(b0:b≠[]):∃(q:List Rat) (c:Rat),0<c/\∀x,D3 a b*ev a x=ev q x*ev b x-c*ev (YK a b) x:=by
 obtain⟨k,f,e⟩:=Hf (p:=JF (YD a b) b) (J3 _);refine⟨Js (YD a b) b,1/k,YA DB f,λx=>?_⟩;have g:=(YF (YD a b) b tb b0).1 x;have i:ev (YD a b) x=ev a x*D3 a b:=JG _ _ _;have d:ev (YK a b) x=-(ev (JF (YD a b) b) x*k):=by
  unfold YK;rw[YT,e,JG];simp[ev];grind
 have j:1/k*k=1:=Aq (by grind);rw[d];grind
theorem chnL_head(a b:List Rat):∃t,ER a b=a::t:=by
 unfold ER;cases b.length with
 |zero=>exact⟨_,rfl⟩
 |succ n=>
  unfold EA;split
  . exact⟨_,rfl⟩
  . exact⟨_,rfl⟩
theorem QF(ta:Jd a=a)(b:a≠[])(x:Rat):ev (Js a a) x=1:=by
 have h:=Yy (u:=Js a a) (v:=[1]) ta b (λx=>by
  rw[<-(JL ta b (Dv.refl a)).2 x,Jr];grind) x
 rwa[Jr]at h
theorem NA:∀(n:Nat) (a b:List Rat),b.length<=n->Jd a=a->Jd b=b->a≠[]->∃g,(ER a b).getLast?=some g/\Jd g=g/\g≠[]/\Dv g a/\Dv g b/\(∀d,Dv d a->Dv d b->Dv d g)/\StC ((ER a b).map λp=>Js p g):=by
 intro n;induction n with
 |zero=>
  intro a b P ta _ e
  have:b=[]:=AN.1 Y
  subst this;exact⟨a,rfl,ta,e,Dv.refl a,Dv.zero a,λ_ h _=>h,StC.one (c:=1) DB λx=>QF ta e x⟩
 |succ n V=>
  intro a b P ta tb e;by_cases b0:b=[]
  . subst b0;exact⟨a,rfl,ta,e,Dv.refl a,Dv.zero a,λ_ h _=>h,StC.one (c:=1) DB λx=>QF ta e x⟩
  . have hl:=Xt (a:=a) tb b0;obtain⟨g,K,i,f,k,r,L,j⟩:=V b (YK a b) Y tb (Hg _ _) b0;obtain⟨q,c,c0,l⟩:=QE (a:=a) tb b0;have w0:=aF (p:=a) tb b0;have w:1/D3 a b*D3 a b=1:=Aq (by grind);have y:1/c*c=1:=Aq (by grind);have m:Dv g a:=k.comb r (Jm [1/D3 a b] q) [-(1/D3 a b*c)] λx=>by
     rw[Jh,Jr,Jr];have:=l x
     have:ev a x=1/D3 a b*(D3 a b*ev a x):=by rw[<-Rat.mul_assoc,w,CM]
     grind
    refine⟨g,?_,i,f,m,k,λd d1 o=>L d o (o.comb d1 (Jm [1/c] q) [-(1/c*D3 a b)] λx=>?_),?_⟩
    . rw[XR tb b0,List.getLast?_cons,K];rfl
    . rw[Jh,Jr,Jr];have:=l x
      have:ev (YK a b) x=1/c*(c*ev (YK a b) x):=by rw[<-Rat.mul_assoc,y,CM]
      grind
    . rw[XR tb b0];by_cases s:YK a b=[]
      . rw[s,II]at j ⊢;obtain⟨_,M,N⟩:=j.o;exact StC.two M N
      . obtain⟨t,Q⟩:=chnL_head (YK a b) (YK b (YK a b));rw[XR (Hg _ _) s,Q]at j ⊢;have z:=(JL i f m).2;have A:=(JL i f k).2;have I:=(JL i f r).2;refine StC.more (q:=q) w0 c0 (λx=>?_) j;have:=Yy (u:=Jm [D3 a b] (Js a g)) (v:=Yi (Jm q (Js b g)) (Jm [c] (Js (YK a b) g))) i f (λx=>by
         rw[Jh,YT,Jh,Jh,Jr,Jr];have R:=z x;have S:=A x;have T:=I x;have U:=l x;rw[R,S,T]at U;grind) x
        rwa[Jh,YT,Jh,Jh,Jr,Jr]at this
theorem NB:∀(n:Nat) (R w y:List Rat),R.length<=n->Yun R w y->DP w (Jc w):=by
 intro n;induction n with
 |zero=>intro R w y p h;exact absurd (AN.1 Y) h.R0
 |succ n r=>
  intro R w y p h;by_cases hl:w.length<=1
  . obtain⟨c,o⟩:=I7 h.tw h.w0 hl;refine⟨c,[],λx=>?_⟩;have:=o x;rw[Jr]at this;simp[ev];grind
  . obtain⟨j,g⟩:=h.part;obtain⟨_,_,b,k,_,f⟩:=h.step;obtain⟨a,m⟩:=ex (JA w (Yi y (Jc w)));rw[m]at j g b f;obtain⟨e,q⟩:=ex (Js w a);rw[q]at g b f;have s:(Js R w).length<=n:=by
     have:=JE h.tw b.tR h.w0 b.R0;rw[<-k]at this;omega
    have l:=r _ _ _ s b;have i:∀x,ev (Jc w) x=ev (Jc a) x*ev e x+ev a x*ev (Jc e) x:=λx=>by
     have:=J9 a e x;rwa[<-f]at this
    have c1:DP a (Jc w):=(j.mul g).shift (d:=Jm [-1] (Jc e)) λx=>by
     rw[Jh,Jh,Jr,i];grind
    have c2:DP e (Jc w):=(g.symm.mul l).shift (d:=Jm [-1] (Jc a)) λx=>by
     rw[Jh,Jh,Jr,i];grind
    have c3:=(c1.symm.mul c2.symm).symm;rwa[<-f]at c3
theorem aG(c:Rat)(p:List Rat)(x:Rat):ev (Jc (DK c p)) x=c*ev (Jc p) x:=by
 rw[Y7,Y7];unfold DK;rw[NU (Ym _),NW,Cx]
def Jv(p:List Rat):List (List Rat):=(X3 p (Jc p)).map λa=>Js a ((X3 p (Jc p)).getLast?.getD [])
def DJ(p:List Rat):List Rat:=Js (JJ p) (JA (JJ p) (Jc (JJ p)))
def Hi(p:List Rat):List Rat:=Js (Jc (JJ p)) (JA (JJ p) (Jc (JJ p)))
theorem aH(tp:Jd p=p)(p0:p≠[]):StC (Jv p)/\∃f l k,Jv p=f::l/\k≠0/\(∀x,ev f x=k*ev (DJ p) x)/\∀f1 l1,l=f1::l1->∃W,0<k*W/\∀x,ev f1 x=W*ev (Hi p) x:=by
 have ts:=J4 p;obtain⟨α,α0,hα⟩:=Hf tp;obtain⟨β,β0,hβ⟩:=Hf ts;obtain⟨y,s⟩:=QD tp p0;obtain⟨b,hl⟩:=ex (cf p (p.length-1));rw[hl]at y s;have tR:=Y9 p;have R0:=K3 tp p0;obtain⟨R,U⟩:=ex (JJ p);rw[U]at s tR R0;have z:=J4 R;have a0:JK p≠[]:=λe=>p0 (AN.1 (by rw[<-J6 tp,e];rfl));have A:∀x,ev (JK p) x=α*b*ev R x:=λx=>by
  rw[hα,JG];conv=>lhs;rw[s]
  rw[JG];grind
 have I:∀x,ev (JK (Jc p)) x=β*b*ev (Jc R) x:=λx=>by
  rw[hβ,JG];have:=aG b R x;rw[<-s]at this;rw[this];grind
 obtain⟨g,h1,K,Q,S,T,h4,h5⟩:=NA _ (JK p) (JK (Jc p)) (Aa _) (Yv _) (Yv _) a0;obtain⟨L,M,_⟩:=Yo tR z;have q:=JY R (Jc R);have r:=Xg tR z (Or.inl R0);have fW:=(JL q r L).2;have fY:=(JL q r M).2;have X:Dv (JA R (Jc R)) g:=h4 _ (by
  obtain⟨c,j⟩:=L;exact⟨DK (α*b) c,λx=>by rw[A,j,JG];grind⟩) (by obtain⟨c,j⟩:=M;exact⟨DK (β*b) c,λx=>by rw[I,j,JG];grind⟩)
 have V:∀ {k:Rat},0<k->1/(k*b)*(k*b)=1:=λhk=>Aq (by
  intro e;rcases A6.1 e with e|e
  . grind
  . exact y e)
 have Qc:Dv g (JA R (Jc R)):=IK tR z (by
  obtain⟨c,j⟩:=S;refine⟨DK (1/(α*b)) c,λx=>?_⟩;have i:=j x;rw[A]at i
  have:ev R x=1/(α*b)*(α*b*ev R x):=by rw[<-Rat.mul_assoc,V α0,CM]
  rw[this,i,JG];grind) (by
  obtain⟨c,j⟩:=T;refine⟨DK (1/(β*b)) c,λx=>?_⟩;have i:=j x;rw[I]at i
  have:ev (Jc R) x=1/(β*b)*(β*b*ev (Jc R) x):=by rw[<-Rat.mul_assoc,V β0,CM]
  rw[this,i,JG];grind)
 obtain⟨m,m0,hm⟩:=Dv.anti q K X Qc;have N:∀x,ev g x=m*ev (JA R (Jc R)) x:=λx=>by rw[hm,JG];grind
 have w:1/m*m=1:=Aq m0;have qa:=(JL K Q S).2;have qb:=(JL K Q T).2;have P:Jv p=(ER (JK p) (JK (Jc p))).map λa=>Js a g:=by
  unfold Jv X3;rw[h1];rfl
 refine⟨by rw[P];exact h5,?_⟩;obtain⟨t,d⟩:=chnL_head (JK p) (JK (Jc p));unfold DJ Hi;rw[U];refine⟨Js (JK p) g,t.map λa=>Js a g,1/m*(α*b),by rw[P,d];rfl,?_,λx=>?_,λf1 l1 n=>⟨1/m*(β*b),?_,λx=>?_⟩⟩
 . intro e;rcases A6.1 e with e|e
   . rw[e]at w;grind
   . rcases A6.1 e with e|e
     . grind
     . exact y e
 . have:=Yy (u:=Js (JK p) g) (v:=DK (1/m*(α*b)) (Js R (JA R (Jc R)))) q r (λx=>by
    have o:=qa x;rw[N,A,fW]at o;rw[JG]
    have:ev (JA R (Jc R)) x*ev (Js (JK p) g) x=1/m*(m*ev (JA R (Jc R)) x*ev (Js (JK p) g) x):=by
     rw[<-Rat.mul_assoc,<-Rat.mul_assoc,w,CM]
    rw[this,<-o];grind) x
   rw[this,JG];grind
 . have i:1/m*(α*b)*(1/m*(β*b))=(1/m*b)*(1/m*b)*(α*β):=by grind
   rw[i];refine Rat.mul_pos ?_ (Rat.mul_pos α0 β0);have c0:1/m*b≠0:=λe=>by
    rcases A6.1 e with e|e
    . rw[e]at w;grind
    . exact y e
   have:=IZ (f:=[1/m*b]) c0 (λx=>Jr _ x) 0 0;unfold Dd at this;rwa[Jr]at this
 . have hb:f1=Js (JK (Jc p)) g:=by
    by_cases b0:JK (Jc p)=[]
    . rw[b0,II]at d;injection d with _ d
      rw[<-d]at n;cases n
    . rw[XR (Yv _) b0]at d;injection d with _ d
      obtain⟨t2,ad⟩:=chnL_head (JK (Jc p)) (YK (JK p) (JK (Jc p)));rw[<-d,ad]at n;injection n with n _
      exact n.symm
   rw[hb];have:=Yy (u:=Js (JK (Jc p)) g) (v:=DK (1/m*(β*b)) (Js (Jc R) (JA R (Jc R)))) q r (λx=>by
    have o:=qb x;rw[N,I,fY]at o;rw[JG]
    have:ev (JA R (Jc R)) x*ev (Js (JK (Jc p)) g) x=1/m*(m*ev (JA R (Jc R)) x*ev (Js (JK (Jc p)) g) x):=by
     rw[<-Rat.mul_assoc,<-Rat.mul_assoc,w,CM]
    rw[this,<-o];grind) x
   rw[this,JG];grind
def Yj(b:List Rat):List Rat:=DK (1/Xe (cf b (b.length-1))) b
def El:Nat->List Rat->List Rat->List (List Rat)
 |0,a,_=>[a]
 |n+1,a,b=>if b=[]then [a]else a::El n (Yj b) (DK (-1) (JF a (Yj b)))
theorem I9(n:Nat)(a b:List Rat):∃t,El n a b=a::t:=by
 cases n with
 |zero=>exact⟨_,rfl⟩
 |succ n=>
  unfold El;split
  . exact⟨_,rfl⟩
  . exact⟨_,rfl⟩
theorem NC(tb:Jd b=b)(b0:b≠[]):0<1/Xe (cf b (b.length-1)):=YA DB (LD (Jw tb b0))
theorem ND(g:c≠0)(tb:Jd b=b):(DK c b).length=b.length:=by
 have e:DK (1/c) (DK c b)=b:=by rw[I0,Cx,Aq g,He tb]
 have a:∀(d:Rat) (q:List Rat),(DK d q).length<=q.length:=λd q=>by
  unfold DK;refine An (Xy _) ?_;unfold YM;simp
 have i:=a c b;have f:=a (1/c) (DK c b);rw[e]at f;omega
theorem QG(ta:Jd a=a)(h:DP a []):∃c,c≠0/\∀x,ev a x=c:=by
 obtain⟨u,v,b⟩:=h;have f:Dv a [1]:=⟨u,λx=>by rw[Jr,<-b x];simp[ev];grind⟩;have g:=(f.len ta DB DB).1;have d:a≠[]:=λe=>by
  have:=b 0;rw[e]at this;simp[ev]at this;grind
 match a,d,g with
 |[c],_,_=>
  refine⟨c,λe=>?_,λx=>Jr c x⟩;have:=b 0;rw[e]at this;simp[ev]at this;grind
theorem QH:∀(n:Nat) (a b:List Rat),b.length<=n->Jd a=a->Jd b=b->DP a b->StC (El n a b):=by
 intro n;induction n with
 |zero=>
  intro a b p ta _ d
  have:b=[]:=AN.1 Y
  subst this;obtain⟨c,c0,f⟩:=QG ta d;exact StC.one c0 f
 |succ n w=>
  intro a b p ta tb d;by_cases b0:b=[]
  . subst b0;obtain⟨c,c0,f⟩:=QG ta d;rw[El,BE rfl];exact StC.one c0 f
  . rw[El,BC b0];have S:=NC tb b0;have lb:(Yj b).length=b.length:=ND (by grind) tb;have j:Jd (Yj b)=Yj b:=JM _ _;have l:Yj b≠[]:=λe=>b0 (AN.1 (by rw[<-lb,e];rfl));obtain⟨k,sl⟩:=YF a (Yj b) j l;have tr:Jd (JF a (Yj b))=JF a (Yj b):=J3 _;have o:∀x,ev (Yj b) x=ev b x*(1/Xe (cf b (b.length-1))):=λx=>JG _ _ _;have m:DP (Yj b) (DK (-1) (JF a (Yj b))):=by
     obtain⟨u,v,s⟩:=d;have y:Xe (cf b (b.length-1))*(1/Xe (cf b (b.length-1)))=1:=by
      rw[Cx];exact Aq (by have:=LD (Jw tb b0);grind)
     refine⟨Xv (Jm u (Js a (Yj b))) (Jm [Xe (cf b (b.length-1))] v),Jm [-1] u,λx=>?_⟩;rw[Yw,Jh,Jh,Jh,Jr,Jr,JG];have z:=s x;have i:=k x;have A:=o x;have I:ev b x=Xe (cf b (b.length-1))*ev (Yj b) x:=by
      rw[A,Cx,Rat.mul_assoc,Cx (1/_),y,Rat.mul_one]
     rw[I,i]at z;grind
    have g:=w (Yj b) (DK (-1) (JF a (Yj b))) (by rw[ND DB tr];omega) j (JM _ _) m;by_cases r0:DK (-1) (JF a (Yj b))=[]
    . rw[r0]at g ⊢;have e:El n (Yj b) []=[Yj b]:=by cases n<;>rfl
      rw[e]at g ⊢;obtain⟨_,d,f⟩:=g.o;exact StC.two d f
    . have R:=JM (-1) (JF a (Yj b));cases n with
      |zero=>
       exact absurd (AN.1 (by have:=ND (c:=-1) DB tr;omega)) r0
      |succ n=>
       obtain⟨t,r⟩:=I9 n (Yj (DK (-1) (JF a (Yj b)))) (DK (-1) (JF (Yj b) (Yj (DK (-1) (JF a (Yj b))))));rw[El,BC r0,r]at g ⊢;have Q:=LD (Jw R r0);refine StC.more (q:=Js a (Yj b)) (a:=1) (c:=Xe (cf (DK (-1) (JF a (Yj b))) ((DK (-1) (JF a (Yj b))).length-1))) DB Q (λx=>?_) g;have i:=k x;have L:ev (Yj (DK (-1) (JF a (Yj b)))) x=ev (DK (-1) (JF a (Yj b))) x*(1/Xe (cf (DK (-1) (JF a (Yj b))) ((DK (-1) (JF a (Yj b))).length-1))):=JG _ _ _;have M:ev (DK (-1) (JF a (Yj b))) x=ev (JF a (Yj b)) x*(-1):=JG _ _ _;have N:1/Xe (cf (DK (-1) (JF a (Yj b))) ((DK (-1) (JF a (Yj b))).length-1))*Xe (cf (DK (-1) (JF a (Yj b))) ((DK (-1) (JF a (Yj b))).length-1))=1:=Aq (by grind);rw[L,M];generalize Xe (cf (DK (-1) (JF a (Yj b))) ((DK (-1) (JF a (Yj b))).length-1))=K at *;have P:K*(ev (JF a (Yj b)) x*(-1)*(1/K))=- ev (JF a (Yj b)) x:=by
        have:K*(ev (JF a (Yj b)) x*(-1)*(1/K))=(1/K*K)*(- ev (JF a (Yj b)) x):=by grind
        rw[this,N];grind
       rw[P,CM,i];grind
def Xl(p:List Rat):List (List Rat):=El (Jc (DJ p)).length (DJ p) (Jc (DJ p))
theorem Jx(tp:Jd p=p)(p0:p≠[]){a b:Rat}(I:a<=b):DL (JV (Jv p) a)+DL (JV (Xl p) b)=DL (JV (Jv p) b)+DL (JV (Xl p) a):=by
 obtain⟨S,f,l,k,L,V,K,u⟩:=aH tp p0;have d:=Yun.start (Y9 p) (K3 tp p0) (I3 tp);have d:Yun (JJ p) (DJ p) (Hi p):=d;have U:=NB _ _ _ _ (Aa _) d;have R:=QH _ (DJ p) (Jc (DJ p)) (Aa _) d.tw (J4 _) U;obtain⟨A,A0,v⟩:=Xf a;obtain⟨C,C0,w⟩:=Xf b;have g:0<=A+C:=by grind
 obtain⟨e,e0,sg⟩:=QB _ _ _ _ (Aa _) d g;refine glue (B:=A+C) (F:=λx=>DL (JV (Jv p) x)) (G:=λx=>DL (JV (Xl p) x)) ?_ (v.mono (by grind)) (w.mono (by grind)) I;refine(((S.gd g).and (R.gd g)).and sg).mono λx y _ _ _ i=>?_;have d1:=i.1.1;have j:=i.1.2;have s:=i.2;obtain⟨m,c⟩:=I9 (Jc (DJ p)).length (DJ p) (Jc (DJ p));show DL (JV (Jv p) x)+DL (JV (Xl p) y)=DL (JV (Jv p) y)+DL (JV (Xl p) x);unfold Xl;rw[L]at d1 ⊢;rw[c]at j ⊢;refine d1.both j V K λP f1 l1 o m1 hl q=>?_;obtain⟨k1,W,M⟩:=u f1 l1 hl;obtain⟨X,s2⟩:=s P;by_cases w0:Jc (DJ p)=[]
 . exfalso
   rw[w0]at c;rw[q]at c;simp[El]at c
 . obtain⟨n,Q⟩:∃n,(Jc (DJ p)).length=n+1:=⟨_,(Nat.succ_pred_eq_of_pos (Ai.2 w0)).symm⟩;rw[Q,El,BC w0]at c;injection c with _ c
   obtain⟨t,T⟩:=I9 n (Yj (Jc (DJ p))) (DK (-1) (JF (DJ p) (Yj (Jc (DJ p)))));rw[T,q]at c;injection c with N _
   have sp:=NC (J4 (DJ p)) w0;have r:∀z,ev o z=ev (Jc (DJ p)) z*(1/Xe (cf (Jc (DJ p)) ((Jc (DJ p)).length-1))):=λz=>by rw[<-N];exact JG _ _ _
   have fin:∀z,e<=ev (Hi p) z*ev (Jc (DJ p)) z->0<k*ev f1 z*ev o z:=λz hz=>by
    rw[M,r];have:=Rat.mul_pos (Rat.mul_pos W sp) (show 0<ev (Hi p) z*ev (Jc (DJ p)) z by grind);grind
   exact⟨fin x X,fin y s2⟩
def NE(l:List (List Rat)):Prop:=∀p∈l,Jd p=p/\p≠[]
def FH(l:List (List Rat)):List Rat:=l.map λp=>cf p (p.length-1)
def EO(l:List (List Rat)):List Rat:=l.map λp=>(-1)^(p.length-1)*cf p (p.length-1)
theorem GD{l:List (List Rat)}(h:NE l):∃B,0<B/\(∀x,B<=x->DL (JV l x)=DL (FH l))/\∀x,x<=-B->DL (JV l x)=DL (EO l):=by
 have m:∃B,0<B/\(∀x,B<=x->∀p∈l,0<ev p x*cf p (p.length-1))/\∀x,x<=-B->∀p∈l,0<ev p x*((-1)^(p.length-1)*cf p (p.length-1)):=by
  induction l with
  |nil=>exact⟨1,DB,(λ_ _ _ hp=>absurd hp (List.not_mem_nil)),(λ_ _ _ hp=>absurd hp (List.not_mem_nil))⟩
  |cons p l g=>
   obtain⟨B,d,b,c⟩:=g λq hq=>h q (List.mem_cons_of_mem _ hq);obtain⟨tp,p0⟩:=h p (Cw);obtain⟨C,n,e⟩:=RZ tp p0;obtain⟨D,o,f⟩:=Ra tp p0;refine⟨B+C+D,by grind,λx a q hq=>?_,λx a q hq=>?_⟩
   . rcases List.mem_cons.1 hq with rfl|hq
     . rw[Cx];exact e x (by grind)
     . exact b x (by grind) q hq
   . rcases List.mem_cons.1 hq with rfl|hq
     . rw[Cx];exact f x (by grind)
     . exact c x (by grind) q hq
 obtain⟨B,d,b,c⟩:=m;refine⟨B,d,λx a=>?_,λx a=>?_⟩
 . refine Nh _ _ 0 0 (by simp[JV,FH]) (λi j k=>?_) (Or.inr ⟨rfl,rfl⟩);simp only[JV,FH,List.getElem_map];exact b x a _ (Fm _)
 . refine Nh _ _ 0 0 (by simp[JV,EO]) (λi j k=>?_) (Or.inr ⟨rfl,rfl⟩);simp only[JV,EO,List.getElem_map];exact c x a _ (Fm _)
theorem aI:∀(n:Nat) (a b g:List Rat),b.length<=n->Jd a=a->Jd b=b->a≠[]->Dv g a->Dv g b->Jd g=g->g≠[]->NE ((ER a b).map λp=>Js p g):=by
 intro n;induction n with
 |zero=>
  intro a b g s ta tb j f k i d
  have:b=[]:=AN.1 Y
  subst this;intro p hp;rw[II]at hp;rcases CS.1 hp with⟨q,hq,rfl⟩
  have:q=a:=by simpa using hq
  subst this;exact⟨YC _ _,λe=>j (Y6 ta λx=>by rw[(JL i d f).2,e];simp[ev])⟩
 |succ n u=>
  intro a b g s ta tb j f k i d;have l:Jd (Js a g)=Js a g/\Js a g≠[]:=⟨YC _ _,λe=>j (Y6 ta λx=>by rw[(JL i d f).2,e];simp[ev])⟩;by_cases b0:b=[]
  . subst b0;intro p hp;rw[II]at hp;rcases CS.1 hp with⟨q,hq,rfl⟩
    have:q=a:=by simpa using hq
    subst this;exact l
  . have hl:=Xt (a:=a) tb b0;obtain⟨q,c,c0,t⟩:=QE (a:=a) tb b0;have m:1/c*c=1:=Aq (by grind);have o:Dv g (YK a b):=k.comb f (Jm [1/c] q) [-(1/c*D3 a b)] λx=>by
     rw[Jh,Jr,Jr];have:=t x
     have:ev (YK a b) x=1/c*(c*ev (YK a b) x):=by rw[<-Rat.mul_assoc,m,CM]
     grind
    have r:=u b (YK a b) g Y tb (Hg _ _) b0 k o i d;rw[XR tb b0];intro p hp;rcases List.mem_cons.1 hp with rfl|hp
    . exact l
    . exact r p hp
theorem YI(tp:Jd p=p)(p0:p≠[]):NE (Jv p):=by
 have b:JK p≠[]:=λe=>p0 (AN.1 (by rw[<-J6 tp,e];rfl));obtain⟨g,f,k,d,i,j,_,_⟩:=NA _ (JK p) (JK (Jc p)) (Aa _) (Yv _) (Yv _) b;have c:Jv p=(ER (JK p) (JK (Jc p))).map λa=>Js a g:=by
  unfold Jv X3;rw[f];rfl
 rw[c];exact aI _ _ _ g (Aa _) (Yv _) (Yv _) b i j k d
end
namespace M3
open Go.RowKit Go.Shelf
attribute [local go_sem] Oper.semAt_some
variable{p:List Rat}{K:Nat}{v:G}
theorem aJ(r s:G)(p q:List Rat)(w:E)(m:Jf w r p)(o:Jf w s q):
 Calls F 87 #[r,s] w λe i=>∃k l a c b d g f,e=.returned (.func (.func 136) #[] #[C (some ⟨k,0,none⟩),C (some ⟨l,0,none⟩)])/\DY i k a c b/\DY i l d g f/\Jf i (.agg #[D a c b]) p/\Jf i (.agg #[D d g f]) q/\Bl w i:=by
 obtain⟨a,c,b,rfl⟩:=m.form;obtain⟨d,g,f,rfl⟩:=o.form;refine((BH (n:=1)).1 (Zw 1 a d c b g f w)).mono ?_;rintro e i ⟨rfl,rfl⟩;have j:Bl w ((w.alloc (B #[D a c b] 25)).alloc (B #[D d g f] 25)):=(Ba w _).alloc (by rw[Ax];omega) _;refine⟨_,_,a,c,b,d,g,f,rfl,(BG w 25 (D a c b)).alloc _,?_,m.below j,o.below j,j⟩;have:=BG (w.alloc (B #[D a c b] 25)) 25 (D d g f);rwa[Ax]at this
theorem aK(K:Nat)(a b:Nat)(f j:Option Addr)(i g l k:Nat)(p q:List Rat)(w:E)(u:ChOk K p q)(s:DY w a f i g)(t:DY w b j l k)(x:Jf w (.agg #[D f i g]) p)(y:Jf w (.agg #[D j l k]) q):
 Calls F 153 #[.func (.func 136) #[] #[C (some ⟨a,0,none⟩),C (some ⟨b,0,none⟩)]] w λe m=>∃v cs,e=.returned v/\XK 25 (w.heap.size+1) m v cs/\Ev m cs (X3 p q)/\Bl w m:=by
 have n:=Ja (Z1 K a b f j i g l k p q w u s t x y);clear u s t x y;go_enter Tryz.func153,Tryz.ntmps153
 go_wp2_with(go_at_call 186;refine n.o.mono ?_;clear n;rintro e N ⟨v,cs,rfl,d,o,r⟩;obtain⟨A,I,z,L,M⟩:=d.form;subst z;have c:=Ja (And.intro d (And.intro o r));clear d o r)
 go_ret;exact⟨_,cs,rfl,c.o.1,c.o.2.1,c.o.2.2⟩
theorem Dx.setK{V:E}{g n:Nat}{f:Nat->List Rat}(h:Dx V g n f){j:Nat}(d:j<n){x:G}(hp:Jf V v p):Jf (V.setCell ⟨g,j,none⟩ x) v p:=by
 obtain⟨cs,b,c⟩:=h;obtain⟨k,l,c0,a,_⟩:=c j d;obtain⟨u,e,i⟩:=hp;exact⟨u,e,Gx b a rfl true DB _ _ _ i⟩
theorem Ev.els{W:E}{cs:List G}{L:List (List Rat)}{base:Nat}(h:XK 25 base W v cs)(d:Ev W cs L)(s:L≠[]):∃g cap,v=D (some ⟨g,0,none⟩) L.length cap/\base<=g/\L.length<=cap/\cap<=maxLen/\Dx W g L.length (λj=>L.getD j []):=by
 rcases h with⟨rfl,rfl⟩|⟨g,cap,k,rfl,n,o,p,q,t,r⟩
 . exact absurd (AN.1 (by rw[<-d.1];rfl)) s
 . refine⟨g,cap,by rw[d.1],n,by rw[<-d.1];exact p,q,k,o,λj i=>?_⟩;obtain⟨x,b,f⟩:=d.2 j L[j] (Al i);obtain⟨a,l,c,e⟩:=f.form;cases e;refine⟨a,l,c,?_,?_⟩
   . rw[<-r,CP]at b;split at b
     . rw[A8]at b;exact b
     . cases b
   . have m:L.getD j []=L[j]:=by simp[List.getD,i]
     show RowK true W _ (L.getD j []);rw[m];exact f.row
structure SrOk(K:Nat)(p:List Rat):Prop where
 ch:ChOk K p (Jc p)
 p0:p≠[]
theorem aL{q:List Rat}(f:ChOk K p q):∀(n:Nat) (a b:List Rat),b.length<=n->Chn p q (DV K p q) a b->a≠[]->∀x∈ER a b,Jd x=x/\Cd (DV K p q) x/\x.length<=max p.length q.length/\x≠[]:=by
 have one:∀a b,Chn p q (DV K p q) a b->a≠[]->Jd a=a/\Cd (DV K p q) a/\a.length<=max p.length q.length/\a≠[]:=λa b h e=>⟨h.ta,⟨1,DB,Sm.one _ f.bd.2.2.2,λi=>by
  obtain⟨z,g,j⟩:=h.wa i;exact⟨z,by rw[j,<-CB ((z:Int):Rat)];simp,g⟩⟩,h.la,e⟩
 intro n;induction n with
 |zero=>
  intro a b hl h e x c;have d:b=[]:=Ky Y;subst d;rw[II]at c
  have:x=a:=by simpa using c
  subst this;exact one _ _ h e
 |succ n k=>
  intro a b hl h e x c;by_cases d:b=[]
  . subst d;rw[II]at c
    have:x=a:=by simpa using c
    subst this;exact one _ _ h e
  . rw[XR h.tb d]at c;rcases List.mem_cons.1 c with rfl|c
    . exact one _ _ h e
    . have g:=Xt (a:=a) h.tb d;exact k b (YK a b) Y (Chn.next f.tp f.tq f.lp f.lq f.bd.2.2.1 h d) d x c
theorem SrOk.mem(h:SrOk K p):∀x∈X3 p (Jc p),Jd x=x/\Cd (DV K p (Jc p)) x/\x.length<=max p.length (Jc p).length/\x≠[]:=by
 have a:=Chn.start h.ch.tp h.ch.tq h.ch.lp h.ch.lq h.ch.bd.2.2.1;refine aL h.ch _ (JK p) (JK (Jc p)) (Aa _) a λe=>h.p0 (AN.1 ?_);rw[<-J6 h.ch.tp,e];rfl
theorem SrOk.last(h:SrOk K p):∃g,(X3 p (Jc p)).getLast?=some g/\g∈X3 p (Jc p)/\Jv p=(X3 p (Jc p)).map λa=>Js a g:=by
 have c:JK p≠[]:=λe=>h.p0 (AN.1 (by rw[<-J6 h.ch.tp,e];rfl));obtain⟨g,b,_⟩:=NA _ (JK p) (JK (Jc p)) (Aa _) (Yv _) (Yv _) c;have b:(X3 p (Jc p)).getLast?=some g:=b;refine⟨g,b,List.mem_of_getLast? b,?_⟩;unfold Jv;rw[b];rfl
theorem SrOk.fit{x:List Rat}(h:SrOk K p)(a:x.length<=max p.length (Jc p).length):2*(DV K p (Jc p)+x.length*(DV K p (Jc p)+1)+1)+2*(2*DV K p (Jc p)+1)<=1000000000:=by
 have b:=h.ch.le;have c:x.length*(DV K p (Jc p)+1)<=max p.length (Jc p).length*(DV K p (Jc p)+1):=Aj _ a;have d:(max p.length (Jc p).length+2)*(DV K p (Jc p)+1)=max p.length (Jc p).length*(DV K p (Jc p)+1)+2*(DV K p (Jc p)+1):=AG _ _ _;omega
theorem SrOk.sqs{K:Nat}{p:List Rat}(h:SrOk K p):Sqs p:=(show Cd K p from h.ch.cp).sqs h.ch.bd.2.1
theorem aM{α:Type}(i j:Nat)(s c:Nat->α):(if j=i then s i else if j<i then s j else c j)=if j<i+1 then s j else c j:=by
 by_cases e:j=i
 . subst e;rw[BE rfl,BE Y]
 . rw[BC e];by_cases a:j<i
   . rw[BE a,BE Y]
   . rw[BC a,BC Y]
def LE(w wr:E)(g n i B4:Nat)(la:Option Addr)(ll a:Nat)(C S:List (List Rat))(q:List Rat):Prop:=
 Dx wr g n (λj=>if j<i then S.getD j []else C.getD j [])/\DY wr B4 la ll a/\Jf wr (.agg #[D la ll a]) q/\Bl w wr/\B4≠g/\w.heap.size<=g
theorem aN(K:Nat)(v:G)(p:List Rat)(w:E)(h:Jf w v p)(l:SrOk K p)(aj:∀i,Sq (GA p i)):
 Calls F 105 #[v] w λe w'=>∃g cap,e=.returned (D (some ⟨g,0,none⟩) (Jv p).length cap)/\(Jv p).length<=cap/\cap<=maxLen/\Dx w' g (Jv p).length (λj=>(Jv p).getD j [])/\Bl w w':=by
 obtain⟨r,la,s,rfl⟩:=h.form;have d:Bl w (w.alloc (B #[D r la s] 25)):=Ba w _;obtain⟨W0,W⟩:=ex (w.alloc (B #[D r la s] 25));have n0:H W0 w.heap.size 25 (D r la s):=by rw[<-W];exact BG w _ _
 rw[W]at d;have Ql:=Ja W;have Qe:=Ja n0;have u:=n0.cell;obtain⟨HA,Qk,Qp,Qh⟩:=Dw d (λ(V:E) (hB:Bl W0 V)=>Y2 (.agg #[D r la s]) p V ((h.below d).below hB) l.sqs aj) (λ(V:E) (hB:Bl W0 V) (y:G) (hy:Jf V y (Jc p))=>aJ (.agg #[D r la s]) y p (Jc p) V ((h.below d).below hB) hy) λ(V:E) (Bp Bq:Nat) (r qa:Option Addr) (pl s ql qc:Nat) (c:DY V Bp r pl s) (f:DY V Bq qa ql qc) (k:Jf V (.agg #[D r pl s]) p) (o:Jf V (.agg #[D qa ql qc]) (Jc p))=>aK K Bp Bq r qa pl s ql qc p (Jc p) V l.ch c f k o;obtain⟨q,P,af,R⟩:=l.last;obtain⟨tq,cq,lq,q0⟩:=l.mem q af;have Qn:=Ja λ(V:E) (a:List Rat) (x y:G) (ha:a∈X3 p (Jc p)) (hx:Jf V x a) (hy:Jf V y q)=>Z9 (DV K p (Jc p)) (DV K p (Jc p)) x y a q V hx hy (l.mem a ha).2.1 cq (l.mem a ha).1 tq q0 (l.fit (l.mem a ha).2.2.1);have T:X3 p (Jc p)≠[]:=λe=>by rw[e]at P;cases P
 have Qi:(X3 p (Jc p)).length<=1000000000:=by
  have c:∀(n:Nat) (a b:List Rat),(EA n a b).length<=n+1:=λn=>by
   induction n with
   |zero=>intro a b;exact Aa _
   |succ n ih=>
    intro a b;rw[EA];split
    . simp
    . have:=ih b (YK a b);simp only[Ah];omega
  have f:=c (JK (Jc p)).length (JK p) (JK (Jc p));have k:=J6 l.ch.tq;have o:=l.ch.ln;show(EA _ _ _).length<=_;omega
 obtain⟨C,hC⟩:=ex (X3 p (Jc p));obtain⟨S,hS⟩:=ex (Jv p);rw[hC]at P af R T Qi Qh Qn;rw[hS]at R ⊢;have Qj:S.length=C.length:=by rw[R,Fs]
 obtain⟨Qs,Qu,Qm⟩:=DX (show ∀j (N:j<C.length),S.getD j []=Js C[j] q from λj N=>by rw[R];simp[List.getD,N]) T λj (N:j<C.length)=>(⟨by simp[List.getD,N],Fm N⟩:C.getD j []=C[j]/\C[j]∈C);rw[Qj];have Qr:0<C.length:=Ai.2 T;have Qa:=Ja (show C.getD (C.length-1) []=q by
  rw[List.getLast?_eq_getElem?]at P;rw[List.getD,P];rfl)
 obtain⟨n,hn⟩:=ex (C.length);have Qq:=Ja hn;rw[hn]at Qi Qr Qa ⊢;obtain⟨m,hm⟩:=ex (n-1:Nat);have aq:(n:Int)-1=(m:Int):=Y
 have aw:IntKind.i64.wrap (m:Int)=(m:Int):=by rw[BQ];omega
 have ax:(m:Int)<(n:Int):=Y
 have Qt:m<n:=Y
 have ay:(n:Int)<=1000000000:=Y
 rw[hm]at Qa;clear h l aj d W n0 P af R tq cq lq q0 T hC hS Qj hn Qi hm;go_enter Tryz.func105,Tryz.ntmps105
 go_upto_region 1 with fail
 rw[Ql.o];clear Ql;have hq:Bl W0 W0.drew:=(BF _ W0).drew;go_region_held3 (λw'=>w'.cell? ⟨w.heap.size,0,none⟩=some (D r la s)) (first|(with_reducible exact u)|(go_keep;done))
  (first
   |(go_at_call 38;refine(Qk.o _ hq).mono ?_;clear Qk;rintro e w5 ⟨v5,rfl,g5,ad⟩;have hq:=Bt hq ad;clear u;have u:=(boxed_below Qe.o hq).cell)
   |(go_at_call 87;refine(Qp.o _ hq _ g5).mono ?_;clear Qp;rintro e w6 ⟨Bp,Bq,xa,xl,xc,ya,yl,yc,rfl,k1,k2,k3,k4,ae⟩;clear g5;have hq:=Bt hq ae;clear u;have u:=(boxed_below Qe.o hq).cell)
   |(go_at_call 153;refine(Qh.o _ _ _ _ _ _ _ _ _ k1 k2 k3 k4).mono ?_;clear Qh k1 k2 k3 k4;rintro e t ⟨v7,cs,rfl,o7,p7,ah⟩;have hq:=Bt hq ah;clear u;have u:=(boxed_below Qe.o hq).cell;obtain⟨g,cap,rfl,hg,ai,ak,hE⟩:=Ev.els o7 p7 Qu.o;clear o7 p7))
 rw[Qq.o]at hE ai ⊢;obtain⟨z,I,A,e8,r8⟩:=hE.cell Qt;rw[Qa.o]at r8;have U:Bl t (t.alloc (B #[D z I A] 25)):=Ba t _;have Qf:Bl w t:=Bt HA.o hq;have Qv:=hE.lt;have Qo:w.heap.size<=g:=by
  have c:=HA.o.size;have f:W0.heap.size<=w5.heap.size:=ad.size;have k:=ae.size;omega
 have SR:Hid (LE w (t.alloc (B #[D z I A] 25)) g n 0 t.heap.size z I A C S q):=Ja ⟨(hE.below U).cong λj _=>rfl,BG t _ _,⟨_,rfl,r8.below U⟩,Bt Qf U,Y,Qo⟩;clear hE r8 U Qf Qv Qo ad ae ah u;go_wp2;go_loopw [20] (λiv wr=>∃i:Nat,i<=n/\iv=.int .i64 (i:Int)/\Hid (LE w wr g n i t.heap.size z I A C S q)) λiv _=>n-(intOf iv).toNat
 case atStart=>exact⟨0,AK _,rfl,SR⟩
 case round=>
  obtain⟨i,hi,rfl,HR⟩:=hrel;clear SR;by_cases X:i<n
  . have ap:(i:Int)<(n:Int):=Y
    have Qg:i<C.length:=by have:=Qq.o;omega
    obtain⟨c,f,k,o,L,M⟩:=HR.o;obtain⟨ya,yl,yc,e1,r1⟩:=c.cell X;rw[BC Y,(Qm.o i Qg).1]at r1;have d:Bl wr (wr.alloc (B #[D ya yl yc] 25)):=Ba wr _;have HC:=Ja (Qn.o _ C[i] (.agg #[D ya yl yc]) (.agg #[D z I A]) (Qm.o i Qg).2 ⟨_,rfl,r1.below d⟩ (k.below d));rw[<-Qs.o i Qg]at HC;have HI:=Ja (show LE w (wr.alloc (B #[D ya yl yc] 25)) g n i t.heap.size z I A C S q from⟨c.below d,f.below d,k.below d,Bt o d,L,M⟩);have e2:=(f.below d).cell;clear c f k o L M r1 d HR;go_wp2_with(go_at_call 139;refine HC.o.mono ?_;clear HC;rintro e w9 ⟨u9,v9,rfl,g9,k9,Q⟩;obtain⟨a9,l9,c9,rfl⟩:=g9.form;obtain⟨am,az,an,rfl⟩:=k9.form;obtain⟨c,f,k,o,L,M⟩:=HI.o;have c:=c.below Q;obtain⟨xa,xl,xc,x0,_⟩:=c.cell X;have x1:=c.frozen i;have HE:=Ja (show LE w (w9.setCell ⟨g,i,none⟩ (D a9 l9 c9)) g n (i+1) t.heap.size z I A C S q from⟨(c.set X g9.row).cong λj _=>aM i j (S.getD · []) (C.getD · []),Bx.far (cs:=#[D z I A]) (f.below Q) (p:=⟨g,i,none⟩) L _,c.setK X (k.below Q),(Bt o Q).setCell (p:=⟨g,i,none⟩) M _,L,M⟩);clear c f k o L M g9 k9 Q HI)
    go_roundw
    case rel=>exact⟨i+1,Y,by go_num,HE⟩
    case measure=>simp[intOf];omega
  . obtain rfl:i=n:=Y
    go_wp2;go_ret;obtain⟨c,f,k,o,L,M⟩:=HR.o;exact⟨g,cap,rfl,ai,ak,c.cong λj N=>BE N,o⟩
theorem take_snoc{α:Type}{L:List α}{k:Nat}(h:k<L.length):∃r,L[k]=r/\L.take k++[r] <+: L/\L.take k++[r]=L.take (k+1):=
 ⟨_,rfl,by rw[List.take_append_getElem h];exact List.take_prefix _ _,List.take_append_getElem h⟩
theorem aO(w0:E)(L:List (List Rat))(f g cap:Nat)(P:H w0 f 120 (D (some ⟨g,0,none⟩) L.length cap))(hE:Dx w0 g L.length λj=>L.getD j [])(hl:L.length<=1000000000)(hc:L.length<=cap):
 GP 152 #[C (some ⟨f,0,none⟩)] w0 L Kn:=by
 intro n l G W0 M z ad A N x;have c1:W0.cell? ⟨f,0,none⟩=some (D (some ⟨g,0,none⟩) L.length cap):=(boxed_below P M).cell;obtain⟨len,o⟩:=ex (L.length);obtain⟨m,S,X,T,W,V⟩:=Ik o hE z A N x;have ae:(len:Int)<=1000000000:=Y
 rw[o]at c1 hc;clear M z ad A N x P hE hl o;refine Bn Tryz.func152 rfl trivial ?_ rfl;simp only[Tryz.ntmps152,Ar,Ah,Au,Nat.reduceAdd,Nat.reduceSub,Av,Aw,AH,AA,Ap,AC];gi_wp2;gi_loopw [7] (λq wr=>∃k:Nat,k<=len/\q=.int .i64 (k:Int)/\Hid (G (L.take k) wr/\W0.heap.size<=wr.heap.size)) λq _=>len-(intOf q).toNat
 case atStart=>exact⟨0,AK _,rfl,Ja ⟨V.o,Aa _⟩⟩
 case round=>
  obtain⟨k,hk,rfl,b⟩:=hrel;clear c1;by_cases af:k<len
  . have ah:(k:Int)<(len:Int):=Y
    obtain⟨a,l1,c,e0,p⟩:=(S.o.below (T.o _ _ b.o.1)).cell (j:=k) (by have:=m.o;omega);have d:Bl wr (wr.alloc (B #[D a l1 c] 25)):=Ba wr _;have i:k<L.length:=by have:=m.o;omega
    have v:L.getD k []=L[k]:=by simp[List.getD,i]
    obtain⟨r,w,Q,K⟩:=take_snoc i;rw[v,w]at p;obtain⟨fn,tmps,assign,body,hy,I⟩:=W.o (n-1) (L.take k) r (.agg #[D a l1 c]) _ (X.o _ _ _ b.o.1 d) ⟨_,rfl,p.below d⟩ Q (An b.o.2 d.size);have t:=Ja K;have s:=Ja (An b.o.2 d.size);clear p d v w Q K i b;gi_wp2;refine⟨λh=>by simp[Fence.wide]at h,I.mono ?_⟩;rintro e u ⟨rfl,y,R,_⟩;have U:=Ja (show G (L.take (k+1)) u/\W0.heap.size<=u.heap.size from⟨by rw[<-t.o];exact y,An s.o R⟩);clear y R hy I t s e0;gi_wp2;go_roundw
    case rel=>exact⟨k+1,Y,by go_num,U⟩
    case measure=>simp[intOf];omega
  . obtain rfl:k=len:=Y
    gi_wp2;go_end0;exact⟨⟨_,rfl⟩,by have h:=b.o.1;rw[<-m.o,List.take_length]at h;exact h⟩
theorem aP(w0:E)(p:List Rat)(j:Nat)(d:Option Addr)(i g:Nat)(v:H w0 j 25 (D d i g))(hp:Jf w0 (.agg #[D d i g]) p)(hl:p.length<=1000000000):
 GP 117 #[C (some ⟨j,0,none⟩)] w0 p.reverse MZ:=by
 intro n l G W0 t S ah T X Q;have c1:W0.cell? ⟨j,0,none⟩=some (D d i g):=(boxed_below v t).cell;have q:=Ja (Yd _ p W0 (hp.below t));obtain⟨len,w⟩:=ex (p.length);have aj:(len:Int)<=1000000000:=Y
 have I:=Ja w;have Qk:=Ja λ(V:E) (h:Bl w0 V)=>(boxed_below v h).cell;have Qi:=Ja (λ(V:E) (h:Bl w0 V) (k:Nat) (hk:k<len) (r:Rat) (hr:p.reverse[k]?=some r)=>show Calls F 74 #[.agg #[D d i g],.int .i64 ((len:Int)-1-k)] V λe w'=>∃u,e=.returned u/\Jg w' u r/\Bl V w' by
  have P:=Hz _ p ((len:Int)-1-k) V (hp.below h);rw[BC Y]at P;have e1:r=cf p ((len:Int)-1-k).toNat:=by
   rw[List.getElem?_reverse Y]at hr;have h2:((len:Int)-1-k).toNat=p.length-1-k:=Y
   rw[h2,cf,hr];rfl
  rw[e1];exact P)
 rw[w]at q;obtain⟨L,Qh,Qm,A⟩:=Dw S T X Q;clear t S ah T X Q v hp hl w;refine Bn Tryz.func117 rfl trivial ?_ rfl;simp only[Tryz.ntmps117,Ar,Ah,Au,Nat.reduceAdd,Nat.reduceSub,Av,Aw,AH,AA,Ap,AC];gi_wp2_with(refine⟨trivial,λh=>by simp[Fence.wide]at h,?_⟩;gi_at_call 30;refine((BH (n:=_)).2 q.o).mono ?_;clear q;rintro e w4 ⟨rfl,a⟩)
 have K:=Ja (L.o _ _ _ A.o a);have z:=Ja a.size;clear a A c1;gi_loopw [3] (λx wr=>∃k:Nat,k<=len/\x=.int .i64 ((len:Int)-1-k)/\Hid (G (p.reverse.take k) wr/\W0.heap.size<=wr.heap.size)) λx _=>(intOf x+1).toNat
 case atStart=>exact⟨0,AK _,Z,Ja ⟨K.o,z.o⟩⟩
 case round=>
  obtain⟨k,hk,rfl,b⟩:=hrel;clear K z;by_cases ai:k<len
  . have y:=Ja (Qh.o _ _ b.o.1);have e0:=Qk.o wr y.o;have s:k<p.reverse.length:=by rw[List.length_reverse];have:=I.o;omega
    obtain⟨r,N,ad,W⟩:=take_snoc s;have o:=Ja (Qi.o wr y.o k ai r (by rw[<-N];exact Al s));obtain⟨m,hm⟩:=ex (len-1-k:Nat);have c:(len:Int)-1-k=(m:Int):=Y
    have HM:=Ja hm;have ak:(m:Int)<=1000000000:=Y
    rw[c]at o ⊢;have HT:=Ja W;have Ql:=Ja ad;clear hm c W ad N s;gi_wp2_with(refine⟨trivial,λh=>by simp[Fence.wide]at h,?_⟩;gi_at_call 74;refine((BH (n:=_)).2 o.o).mono ?_;clear o;rintro e w4 ⟨u4,rfl,af,a⟩;obtain⟨fn,tmps,assign,body,hy,U⟩:=Qm.o (n-1) (p.reverse.take k) r u4 w4 (L.o _ _ _ b.o.1 a) af Ql.o (An b.o.2 a.size))
    refine⟨λh=>by simp[Fence.wide]at h,U.mono ?_⟩;rintro e M ⟨rfl,R,ae,_⟩;have Qj:=Ja (show G (p.reverse.take (k+1)) M/\W0.heap.size<=M.heap.size from⟨by rw[<-HT.o];exact R,An b.o.2 (An a.size ae)⟩);clear R ae hy U af a b;gi_wp2;go_roundw
    case rel=>exact⟨k+1,Y,by(congr 1;have:=HM.o;omega),Qj⟩
    case measure=>simp[intOf]
  . obtain rfl:k=len:=Y
    have c:(k:Int)-1-k=-1:=Y
    rw[c];gi_wp2;refine⟨trivial,?_⟩;gi_wp2;all_goals(refine⟨λf h=>(by cases h),?_⟩;gi_wp2;go_end0;exact⟨⟨_,rfl⟩,by have h:=b.o.1;rw[Ac (by rw[List.length_reverse,I.o];exact Aa _)]at h;exact h⟩)
end M3
section
open Go.RowKit Go.Shelf
variable{A X:Nat}{x:Rat}
theorem QI(d:DM X x):∀l:List Rat,(∀i,DM A (cf l i))->DM (l.length*(A+X+1)+1) (ev l x):=by
 intro l;induction l with
 |nil=>intro _;exact DM.zero _ Z
 |cons c t e=>
  intro h;have b:=e (λi=>by have:=h (i+1);rwa[JZ]at this);have a:=h 0;rw[YL]at a;rw[ev,Ah,AG];exact(a.add2 (d.mul2 b)).mono Y
theorem aQ{ps:List Rat}(b:DM X x)(hp:∀i,DM A (cf ps i))(d:ps.length*(A+X+1)+1+X<=1000000000):M3.Iu ps x:=λn=>by
 have a:=QI b (ps.drop n) (λi=>by
  have e:cf (ps.drop n) i=cf ps (n+i):=by simp[cf]
  rw[e];exact hp _)
 have c:(ps.drop n).length*(A+X+1)<=ps.length*(A+X+1):=Aj _ (by rw[AP];omega);exact⟨Sq.of a Y,Sq.of (a.mul2 b) Y⟩
end
theorem aR(l:List (List Rat)):l.map ES=(FH l).map Db:=by simp[FH,ES,Function.comp_def]
theorem aS(n:Nat):((-1:Rat))^n=if n%2=0 then 1 else -1:=by
 induction n with
 |zero=>rfl
 |succ n a=>
  rw[Rat.pow_succ,a];by_cases h:n%2=0
  . rw[BE h,BC Y];grind
  . rw[BC h,BE Y];grind
theorem aT(l:List (List Rat))(h:∀p∈l,p≠[]):l.map F8=(EO l).map Db:=by
 unfold EO;rw[List.map_map];refine List.map_congr_left λp hp=>?_;have b:=Ai.2 (h p hp);show F8 p=Db ((-1)^(p.length-1)*cf p (p.length-1));unfold F8 ES;rw[aS];by_cases a:p.length%2=0
 . rw[BE a,BC Y,<-VY];congr 1;grind
 . rw[BC a,BE Y,CM]
namespace M3
open Go.RowKit Go.Shelf
attribute [local go_sem] Oper.semAt_some
variable{pb:Array G}{f:List Rat->Int}{pf:Nat}
theorem aU(a:Option Addr)(l c:Nat)(w:E):
 Calls F 104 #[D a l c] w λe b=>∃B,e=.returned (.func (.func 152) #[] #[C (some ⟨B,0,none⟩)])/\H b B 120 (D a l c)/\Bl w b:=by
 go_enter Tryz.func104,Tryz.ntmps104
 go_wp2_with fail
 go_ret;exact⟨_,rfl,BG w _ _,Ba w _⟩
theorem aV(g p:Nat)(lb pb:Array G)(w:E):
 Calls F 106 #[.func (.func g) #[] lb,.func (.func p) #[] pb] w λe b=>∃d c,e=.returned (.func (.func 154) #[] #[C (some ⟨d,0,none⟩),C (some ⟨c,0,none⟩)])/\H b d 125 (.func (.func g) #[] lb)/\H b c 39 (.func (.func p) #[] pb)/\Bl w b:=by
 have f:Bl w ((w.alloc (B #[.func (.func g) #[] lb] 125)).alloc (B #[.func (.func p) #[] pb] 39)):=(Ba w _).alloc (by rw[Ax];omega) _;have a:=BG (w.alloc (B #[.func (.func g) #[] lb] 125)) 39 (.func (.func p) #[] pb);rw[Ax]at a;have j:=Ja f;have i:=Ja a;clear f a;go_enter Tryz.func106,Tryz.ntmps106
 go_wp2_with fail
 go_ret;exact⟨_,_,rfl,(BG w _ _).alloc _,i.o,j.o⟩
theorem aW(g p:Nat)(lb pb:Array G)(w:E):
 Calls F 55 #[.func (.func g) #[] lb,.func (.func p) #[] pb] w λe b=>∃d c,e=.returned (.func (.func 116) #[] #[C (some ⟨d,0,none⟩),C (some ⟨c,0,none⟩)])/\H b d 96 (.func (.func g) #[] lb)/\H b c 61 (.func (.func p) #[] pb)/\Bl w b:=by
 have f:Bl w ((w.alloc (B #[.func (.func g) #[] lb] 96)).alloc (B #[.func (.func p) #[] pb] 61)):=(Ba w _).alloc (by rw[Ax];omega) _;have a:=BG (w.alloc (B #[.func (.func g) #[] lb] 96)) 61 (.func (.func p) #[] pb);rw[Ax]at a;have j:=Ja f;have i:=Ja a;clear f a;go_enter Tryz.func55,Tryz.ntmps55
 go_wp2_with fail
 go_ret;exact⟨_,_,rfl,(BG w _ _).alloc _,i.o,j.o⟩
structure Tells(pf:Nat)(pb:Array Value)(w:World)(xs:List (List Rat))(f:List Rat->Int):Prop where
 plc:IC pf pb w xs Kn f
 ent:∀args w,(callFunc pf args).run Tryz.prog w=.ok (.enter pf args) w
 sg:∀x∈xs,-1<=f x/\f x<=1
theorem IC.later{α:Type}{w b:E}{xs:List α}{a:E->G->α->Prop}{f:α->Int}(h:IC pf pb w xs a f)(d:Bl w b):IC pf pb b xs a f:=
 λW v x c e g=>h W v x (Bt d c) e g
theorem QJ(L:List (List Rat))(b g cap c a:Nat)(w:E)(k:H w b 120 (D (some ⟨g,0,none⟩) L.length cap))(hE:Dx w g L.length λj=>L.getD j [])(hl:L.length<=1000000000)(m:L.length<=cap)(d:Tells pf pb w L f)(l:H w c 125 (.func (.func 152) #[] #[C (some ⟨b,0,none⟩)]))(i:H w a 39 (.func (.func pf) #[] pb)):
 Calls F 54 #[.func (.func 154) #[] #[C (some ⟨c,0,none⟩),C (some ⟨a,0,none⟩)]] w λe p=>e=.returned (.int .i64 (E9 (L.map f):Int))/\Bl w p:=
 PM w (L.map f) (Va w L f c a (aO w L b g cap k hE hl m) (Bf Tryz.func152 (by kernel_rfl) rfl) d.ent l i d.plc) (Bf Tryz.func154 (by kernel_rfl) rfl)
  (λs n=>by obtain⟨x,o,rfl⟩:=CS.1 n;exact d.sg x o) (by rw[Fs];exact hl)
theorem SrOk.len{K:Nat}{p:List Rat}(d:SrOk K p):(Jv p).length<=1000000000/\0<(Jv p).length:=by
 obtain⟨g,e,_,c⟩:=d.last;rw[c,Fs];have e:∀(n:Nat) (a b:List Rat),(EA n a b).length<=n+1/\0<(EA n a b).length:=λn=>by
  induction n with
  |zero=>intro a b;exact⟨Aa _,Nat.one_pos⟩
  |succ n f=>
   intro a b;rw[EA];split
   . simp
   . have:=f b (YK a b);simp only[Ah];omega
 have c:=e (JK (Jc p)).length (JK p) (JK (Jc p));have i:=J6 d.ch.tq;have j:=d.ch.ln;refine⟨?_,c.2⟩;show(EA _ _ _).length<=_;omega
theorem QK(K:Nat)(v:G)(p:List Rat)(w:E)(h:Jf w v p)(N:SrOk K p)(aj:∀i,Sq (GA p i)){z:Nat}{y:Array G}{f2:List Rat->Int}(o:Tells pf pb w (Jv p) f)(q:Tells z y w (Jv p) f2):
 Calls F 46 #[v,.func (.func pf) #[] pb,.func (.func z) #[] y] w λe w'=>e=.returned (.int .i64 ((E9 ((Jv p).map f):Int)-(E9 ((Jv p).map f2):Int)))/\Bl w w':=by
 obtain⟨pa,la,pc,rfl⟩:=h.form;have d:Bl w (w.alloc (B #[D pa la pc] 25)):=Ba w _;obtain⟨W0,A⟩:=ex (w.alloc (B #[D pa la pc] 25));have n0:H W0 w.heap.size 25 (D pa la pc):=by rw[<-A];exact BG w _ _
 rw[A]at d;have Qh:=Ja A;have Qj:=Ja n0;have R:=n0.cell;have HA:=Ja d;obtain⟨m,hm⟩:=ex (p.length-1:Nat);have Qi:(p.length:Int)-1=(m:Int):=by have:=Ai.2 N.p0;omega
 have P:=Ja λ(V:E) (a:Bl W0 V)=>Yd _ p V ((h.below d).below a);rw[Qi]at P;obtain⟨X,r,Q,T⟩:=Dw (λ(V:E) (a:Bl W0 V)=>aN K _ p V ((h.below d).below a) N aj) N.len (λ(V:E) (a:Bl W0 V)=>(⟨o.plc.later (Bt d a),o.ent,o.sg⟩:Tells pf pb V (Jv p) f)) λ(V:E) (a:Bl W0 V)=>(⟨q.plc.later (Bt d a),q.ent,q.sg⟩:Tells z y V (Jv p) f2);obtain⟨S,hS⟩:=ex (Jv p);rw[hS]at X r Q T ⊢;have U:∀(g:List Rat->Int),Tells pf pb w S g\/Tells z y w S g->E9 (S.map g)<=1000000000:=λg M=>by
  have t:∀x∈S,-1<=g x/\g x<=1:=by rcases M with M|M<;>exact M.sg
  have u:=(PK (S.map g) (0,0) (λs hs=>by obtain⟨x,hx,rfl⟩:=CS.1 hs;exact t x hx) DB).2;rw[Fs]at u;have:=r.o.1;show(List.foldl Di (0,0) (S.map g)).1<=_;omega
 rw[hS]at o q;have l1:=U f (Or.inl o);have l2:=U f2 (Or.inr q);obtain⟨n1,ae⟩:=ex (E9 (S.map f));obtain⟨n2,af⟩:=ex (E9 (S.map f2));rw[ae]at l1 ⊢;rw[af]at l2 ⊢;have Qg:=Ja λ(b g cap n l:Nat) (V:E) (a:Bl W0 V) (t:H V b 120 (D (some ⟨g,0,none⟩) S.length cap)) (u:Dx V g S.length λj=>S.getD j []) (h3:S.length<=cap) (h4:H V n 125 (.func (.func 152) #[] #[C (some ⟨b,0,none⟩)])) (h5:H V l 39 (.func (.func pf) #[] pb))=>QJ S b g cap n l V t u r.o.1 h3 (Q.o V a) h4 h5;have W:=Ja λ(b g cap n l:Nat) (V:E) (a:Bl W0 V) (t:H V b 120 (D (some ⟨g,0,none⟩) S.length cap)) (u:Dx V g S.length λj=>S.getD j []) (h3:S.length<=cap) (h4:H V n 125 (.func (.func 152) #[] #[C (some ⟨b,0,none⟩)])) (h5:H V l 39 (.func (.func z) #[] y))=>QJ S b g cap n l V t u r.o.1 h3 (T.o V a) h4 h5;rw[ae]at Qg;rw[af]at W;clear h N aj o q d A n0 hm Qi hS U ae af r Q T;go_enter Tryz.func46,Tryz.ntmps46
 go_upto_region 1 with fail
 rw[Qh.o];clear Qh;have hq:=BF W0.heap.size W0;go_upto_region 3 with(go_at_call 30;refine(P.o _ hq).mono ?_;clear P;rintro e w5 ⟨rfl,ak⟩;have hq:=Bt hq ak;clear R;have R:=(boxed_below Qj.o hq).cell)
 go_upto_region 4 with(first
  |(go_at_call 105;refine(X.o _ hq).mono ?_;clear X;rintro e w6 ⟨g,cap,rfl,ai,an,hE,am⟩;have hq:=Bt hq am;clear R)
  |(go_at_call 104;refine(aU _ _ _ _).mono ?_;rintro e w7 ⟨b,rfl,c,ah⟩;have hq:=Bt hq ah;have hE:=hE.below ah))
 go_wp2_with(first
  |(go_at_call 106;refine(aV _ _ _ _ _).mono ?_;rintro e w8 ⟨n,l,rfl,L,I,ad⟩;have hq:=Bt hq ad;have hE:=hE.below ad;have c:=boxed_below c ad)
  |(go_at_call 54;refine(Qg.o _ _ _ _ _ _ hq c hE ai L I).mono ?_;clear Qg L I;rintro e w9 ⟨rfl,k⟩;have hq:=Bt hq k;have hE:=hE.below k;have c:=boxed_below c k)
  |(go_at_call 54;refine(W.o _ _ _ _ _ _ hq c hE ai L I).mono ?_;clear W L I;rintro e w9 ⟨rfl,k⟩;have hq:=Bt hq k;have hE:=hE.below k;have c:=boxed_below c k))
 go_ret;exact⟨rfl,Bt HA.o hq⟩
end M3
section
open Go.RowKit Go.Shelf
def Hj(p:List Rat):Int:=if p=[]then -1 else(DL (EO (Jv p)):Int)-(DL (FH (Jv p)):Int)
def FV(p:List Rat)(x:Rat):Int:=if p=[]then -1 else(DL (EO (Jv p)):Int)-(DL (JV (Jv p) x):Int)
structure CtOk(K X:Nat)(p:List Rat):Prop where
 ch:M3.ChOk K p (Jc p)
 fit:max p.length (Jc p).length*(DV K p (Jc p)+max p.length (Jc p).length*(DV K p (Jc p)+1)+1+X+1)+1+X<=1000000000
variable{p:List Rat}{K X:Nat}
theorem CtOk.sr(h:CtOk K X p)(p0:p≠[]):M3.SrOk K p:=⟨h.ch,p0⟩
theorem CtOk.sl(h:CtOk K X p)(i:Nat):Sq (GA p i):=by
 have a:=(show Cd K (Jc p)from h.ch.cq).smq i;unfold Jc at a;rw[Ym,IX]at a;exact Sq.of a h.ch.bd.2.1
theorem CtOk.row(h:CtOk K X p)(p0:p≠[]):∀y∈Jv p,Sqs y/\y≠[]/\y.length<=1000000000/\∀x,DM X x->M3.Iu y x/\Sq (ev y x):=by
 intro y b;have l:=(YI h.ch.tp p0 y b).2;obtain⟨g,_,r,e⟩:=(h.sr p0).last;rw[e]at b;obtain⟨a,q,rfl⟩:=CS.1 b;obtain⟨ta,ca,la,m⟩:=(h.sr p0).mem a q;obtain⟨s,c,z,o⟩:=(h.sr p0).mem g r;have j:=h.fit;obtain⟨n,f⟩:=ex (max p.length (Jc p).length);obtain⟨A,d⟩:=ex (DV K p (Jc p));rw[f,d]at j;rw[f]at la;rw[d]at ca c;have c1:=ca.quoG c s o;have t:a.length*(A+1)<=n*(A+1):=Aj _ la;have c2:Cd (A+n*(A+1)+1) (Js a g):=c1.mono Y;have l1:(Js a g).length<=a.length:=by
  unfold Js;refine An (Xy _) ?_;rw[(YE _ _ _ _ _).1];omega
 have k:0<n:=by have:=Ai.2 m;omega
 have u:1*(A+n*(A+1)+1+X+1)<=n*(A+n*(A+1)+1+X+1):=Aj _ k;have v:(Js a g).length*(A+n*(A+1)+1+X+1)<=n*(A+n*(A+1)+1+X+1):=Aj _ Y;have w:n*1<=n*(A+n*(A+1)+1+X+1):=As _ Y;refine⟨c2.sqs Y,l,Y,λx i=>⟨aQ i c2.smq Y,Sq.of (QI i _ c2.smq) Y⟩⟩
namespace M3
attribute [local go_sem] Oper.semAt_some
variable{p:List Rat}{K X:Nat}
theorem QL(e:CtOk K X p)(p0:p≠[])(w:E):Tells 47 #[] w (Jv p) F8 where
 plc:=λW v y _ d f=>by
  obtain⟨a,b,c,_⟩:=e.row p0 y f;have:=Vd v y W d a b c;simpa using this
 ent:=Bf Tryz.func47 (by kernel_rfl) rfl
 sg:=λy _=>by
  have:=Iw (cf y (y.length-1));unfold F8 ES;split<;>omega
theorem aX(d:CtOk K X p)(p0:p≠[])(w:E):Tells 48 #[] w (Jv p) ES where
 plc:=λW v y _ c e=>by
  obtain⟨a,b,f,_⟩:=d.row p0 y e;have:=PN v y W c a b;simpa using this
 ent:=Bf Tryz.func48 (by kernel_rfl) rfl
 sg:=λy _=>Iw _
theorem aY(i:CtOk K X p)(p0:p≠[])(w:E){B:Nat}{s t:Bool}{a b:Option Addr}{l c k d:Nat}{x:Rat}(e:DM X x)(n:JH w B 37 (.bool s) (D a l c) (.bool t) (D b k d))(q:Jg w (.agg #[.bool s,D a l c,.bool t,D b k d]) x):Tells 112 #[C (some ⟨B,0,none⟩)] w (Jv p) (λy=>Db (ev y x)) where
 plc:=λW v y g o r=>by
  obtain⟨j,u,z,f⟩:=i.row p0 y r;have m:X<=1000000000:=by have:=i.fit;omega
  have:=Ve v y x B s t a b l c k d W o (n.below g) (q.below g) j (Sq.of e m) (f x e).1 (f x e).2;simpa using this
 ent:=Bf Tryz.func112 (by kernel_rfl) rfl
 sg:=λy _=>Iw _
theorem QM(tp:Jd p=p)(p0:p≠[]):E9 ((Jv p).map F8)=DL (EO (Jv p)):=by
 rw[aT _ λy a=>(YI tp p0 y a).2,Km]
theorem aZ(l:List (List Rat)):E9 (l.map ES)=DL (FH l):=by rw[aR,Km]
theorem ar(l:List (List Rat))(x:Rat):E9 (l.map λy=>Db (ev y x))=DL (JV l x):=by
 rw[<-Km];unfold JV;rw[List.map_map];rfl
theorem QN(v:G)(w:E)(h:Jf w v [])(f f2:G):
 Calls F 46 #[v,f,f2] w λe j=>e=.returned (.int .i64 (-1))/\Bl w j:=by
 obtain⟨g,la,i,rfl⟩:=h.form;have b:Bl w (w.alloc (B #[D g la i] 25)):=Ba w _;have a:=Ja (Yd _ [] _ (h.below b));rw[show(([]:List Rat).length:Int)-1=-1 from rfl]at a;have c:=Ja b;clear h b;go_enter Tryz.func46,Tryz.ntmps46
 go_wp2_with(go_at_call 30;refine a.o.mono ?_;clear a;rintro e k ⟨rfl,d⟩)
 go_ret;exact⟨rfl,Bt c.o d⟩
theorem NF(K X:Nat)(v:G)(p:List Rat)(w:E)(h:Jf w v p)(a:CtOk K X p):
 Calls F 13 #[v] w λe g=>e=.returned (.int .i64 (Hj p))/\Bl w g:=by
 obtain⟨b,la,c,rfl⟩:=h.form;have d:Bl w (w.alloc (B #[D b la c] 25)):=Ba w _;have f:=Ja (show Calls F 46 #[.agg #[D b la c],.func (.func 47) #[] #[],.func (.func 48) #[] #[]] (w.alloc (B #[D b la c] 25)) λe g=>e=.returned (.int .i64 (Hj p))/\Below (w.alloc (B #[D b la c] 25)).heap.size (w.alloc (B #[D b la c] 25)) g by
  unfold Hj;by_cases p0:p=[]
  . rw[BE p0];rw[p0]at h;exact QN _ _ (h.below d) _ _
  . rw[BC p0];have i:=QK K _ p _ (h.below d) (a.sr p0) a.sl (QL a p0 _) (aX a p0 _);rw[QM a.ch.tp p0,aZ]at i;exact i)
 have k:=Ja d;obtain⟨n,j⟩:=ex (Hj p);rw[j]at f ⊢;clear h a d j;go_enter Tryz.func13,Tryz.ntmps13
 go_wp2_with(go_at_call 46;refine f.o.mono ?_;clear f;rintro e m ⟨rfl,l⟩)
 go_ret;exact⟨rfl,Bt k.o l⟩
end M3
end
variable{a b p q u v w:List Rat}
theorem bA(p:List Rat){B:Rat}(a:0<=B):∃K,0<K/\∀x y,Wi B x->Wi B y->x<=y->Wi (K*((y-x)*(y-x))) (ev p y-ev p x-(y-x)*dv p x):=by
 induction p with
 |nil=>exact⟨1,DB,λx y _ _ _=>by
  have:=XM (y-x);constructor<;>simp[ev,dv]<;>grind⟩
 |cons c t m=>
  obtain⟨K,j,h⟩:=m;obtain⟨D,hD,k⟩:=Xp (Jc t) a;refine⟨B*K+D+1,by have:=Rat.mul_nonneg a (Rat.le_of_lt j);grind,λx y d f l=>?_⟩;have n:=XM (y-x);have g:Wi ((y-x)*(y-x)) ((y-x)*(y-x)):=⟨by grind,by grind⟩;have b:=k x d;rw[Y7]at b;have i:=(f.mul (h x y d f l)).add (g.mul b);have e:ev (c::t) y-ev (c::t) x-(y-x)*dv (c::t) x=y*(ev t y-ev t x-(y-x)*dv t x)+(y-x)*(y-x)*dv t x:=by
   rw[IY,IY,show dv (c::t) x=ev t x+x*dv t x from rfl];grind
  rw[e];refine i.mono ?_;grind
def Yl(p:List Rat)(x y:Rat):Nat:=if ev p x≠0/\ev p x*ev p y<=0 then 1 else 0
theorem Xu{x y:Rat}(h:Dd p x y):Yl p x y=0:=by
 unfold Yl Dd at *;rw[BC λq=>by have:=q.2;grind]
theorem bB{R y:List Rat}(h:Yun R w y){B:Rat}(f:0<=B):Sh B λx z=>¬Dd w x z->x<z->0<ev (Jc w) x*(ev w z-ev w x):=by
 obtain⟨k,g,s⟩:=QB _ _ _ _ (Aa _) h f;obtain⟨c,n,M⟩:=Xp y f;obtain⟨D,V,hD⟩:=Xp (Jc w) f;obtain⟨K,W,L⟩:=bA w f;obtain⟨e,o,N⟩:=small (K:=(c*c)*(D*K)) (r:=k*k/2) (Rat.le_of_lt (Rat.mul_pos (Rat.mul_pos n n) (Rat.mul_pos V W))) (by have:=Rat.mul_pos g g;grind);have X:Sh B λx z=>z-x<=e:=⟨e,o,λ_ _ _ _ _ h=>h⟩;refine(s.and X).mono λx z j T S ⟨p,l⟩ P ad=>?_;obtain⟨h3,_⟩:=p P;have i:=L x z j T S;rw[<-Y7]at i;have A:=M x j;have I:=hD x j;generalize ev (Jc w) x=d at *;generalize ev y x=v at *;generalize ev w z-ev w x=t at *;obtain⟨u,Q⟩:=ex (z-x);rw[Q]at l i;have u0:0<u:=by grind
 have h7:k*k<=(c*c)*(d*d):=by
  have m:=Rat.mul_nonneg (a:=v*d-k) (b:=v*d+k) (by grind) (by grind);have U:=Rat.mul_nonneg (a:=c*c-v*v) (b:=d*d) (by have:=Ia A;grind) (XM d);grind
 have h8:u*(d*d)-(D*K)*(u*u)<=d*t:=by
  have m:=(I.mul i).1;grind
 have h9:=N u l;have hp:0<(c*c)*(d*t):=by
  have m:=Rat.mul_nonneg (a:=c*c) (b:=d*t-(u*(d*d)-(D*K)*(u*u))) (XM c) (by grind);have U:=Rat.mul_nonneg (a:=u) (b:=(c*c)*(d*d)-k*k) (by grind) (by grind);have i3:=Rat.mul_nonneg (a:=u) (b:=k*k/2-(c*c)*(D*K)*u) (by grind) (by grind);have i4:=Rat.mul_pos u0 (Rat.mul_pos g g);grind
 rcases Yc (d*t) 0 with q|q
 . have:=Rat.mul_nonneg (a:=c*c) (b:=-(d*t)) (XM c) (by grind);grind
 . rcases Rat.le_iff_lt_or_eq.1 q with q|q
   . exact q
   . rw[<-q]at hp;grind
theorem NG{a b:Rat}(h:0<(a*a)*b):0<b:=by
 rcases Yc b 0 with q|q
 . have:=Rat.mul_nonneg (a:=a*a) (b:=-b) (XM a) (by grind);grind
 . rcases Rat.le_iff_lt_or_eq.1 q with q|q
   . exact q
   . rw[<-q]at h;grind
theorem bC{a b u v:Rat}(c:0<a*(v-u))(i:0<b*(v-u))(e:u*v<=0):
 (if u*a<0 then 1 else 0)=(if v*b<0 then 1 else 0)+(if u≠0/\u*v<=0 then 1 else 0:Nat):=by
 by_cases u0:u=0
 . subst u0;rw[BC (by grind),BC (by grind),BC Z]
 . have f:u*a<0:=by
    rcases Yc 0 (u*a)with q|q
    . exfalso
      have d:=(J7 c).1;have q:0<u*a:=by
       rcases Rat.le_iff_lt_or_eq.1 q with q|q
       . exact q
       . rcases A6.1 q.symm with q|q
         . exact absurd q u0
         . exact absurd q d
      have:=Rat.mul_pos q (show 0<v*a by grind);have:=NG (a:=a) (b:=u*v) (by grind);grind
    . rcases Rat.le_iff_lt_or_eq.1 q with q|q
      . exact q
      . rcases A6.1 q with q|q
        . exact absurd q u0
        . exact absurd q (J7 c).1
   have g:¬v*b<0:=λq=>by
    have:=Rat.mul_pos (a:=-(v*b)) (b:=-(u*b)) (by grind) (by grind);have:=NG (a:=b) (b:=u*v) (by grind);grind
   rw[BE f,BC g,BE ⟨u0,e⟩]
theorem bD{f1:List Rat}{n:Nat}{d:List (List Rat)}(a:El n w b=w::f1::d):b≠[]/\f1=Yj b:=by
 cases n with
 |zero=>
  have c:[w]=w::f1::d:=a;exact absurd (List.cons.inj c).2 Z
 |succ n=>
  by_cases w0:b=[]
  . rw[El,BE w0]at a;exact absurd (List.cons.inj a).2 Z
  . rw[El,BC w0]at a;have c:=(List.cons.inj a).2;obtain⟨t,e⟩:=I9 n (Yj b) (DK (-1) (JF w (Yj b)));rw[e]at c;exact⟨w0,(List.cons.inj c).1.symm⟩
theorem KA(tp:Jd p=p)(p0:p≠[]){B:Rat}(j:0<=B):Sh B λx z=>DL (JV (Xl p) x)=DL (JV (Xl p) z)+Yl (DJ p) x z:=by
 have d:Yun (JJ p) (DJ p) (Hi p):=Yun.start (Y9 p) (K3 tp p0) (I3 tp);have n:=NB _ _ _ _ (Aa _) d;have l:=QH _ (DJ p) (Jc (DJ p)) (Aa _) d.tw (J4 _) n;refine((l.gd j).and (bB d j)).mono λx z _ _ A ⟨b,y⟩=>?_;show DL (JV (Xl p) x)=DL (JV (Xl p) z)+Yl (DJ p) x z;obtain⟨m,f⟩:=I9 (Jc (DJ p)).length (DJ p) (Jc (DJ p));unfold Xl;rw[f]at b ⊢;by_cases st:Dd (DJ p) x z
 . rw[Xu st,b.stay st];rfl
 . cases m with
   |nil=>exact absurd b.o st
   |cons f1 K=>
    obtain⟨w0,k⟩:=bD f;have o:=NC (J4 (DJ p)) w0;obtain⟨c,e⟩:∃c,1/Xe (cf (Jc (DJ p)) ((Jc (DJ p)).length-1))=c:=⟨_,rfl⟩;rw[e]at o;have t:ev f1 x=ev (Jc (DJ p)) x*c:=by rw[k,<-e];exact JG _ _ _
    have g:=(b.adj).resolve_left st;obtain⟨L,M⟩:=J7 g;have sm:=b.tail.same _ K f1 (Aa _) g;rw[JX,JX,JX,JX,Hm L,Hm M,sm];clear sm f l n d b k e w0;have r:ev (DJ p) x*ev (DJ p) z<=0:=Rat.not_lt.1 st;rcases Rat.le_iff_lt_or_eq.1 A with w|v
    . have i:0<ev f1 x*(ev (DJ p) z-ev (DJ p) x):=by
       rw[t];have:=Rat.mul_pos (y st w) o;grind
      have s:0<ev f1 z*(ev (DJ p) z-ev (DJ p) x):=NG (a:=ev f1 x) (by
       have:=Rat.mul_pos (show 0<ev f1 x*ev f1 z from g) i;grind)
      have:=bC i s r;unfold Yl;rw[this];omega
    . subst v;have u0:ev (DJ p) x=0:=by
       have u:=XM (ev (DJ p) x);rcases A6.1 (Rat.le_antisymm r u)with q|q<;>exact q
      have I:Yl (DJ p) x x=0:=by
       unfold Yl;exact BC λq=>q.1 u0
      rw[I];omega
theorem LF(h:DP u v){B:Rat}(i:0<=B):Sh B λx z=>Yl (Jm u v) x z=Yl u x z+Yl v x z:=by
 obtain⟨s,t,w⟩:=h;obtain⟨S,k,o⟩:=Xp s i;obtain⟨T,l,p⟩:=Xp t i;have d:∀ {r K:Rat},0<K->K*(r/K)=r:=λI=>by rw[Cx,Aq (by grind)]
 refine((F1 u i (YA GF k)).and (F1 v i (YA GF l))).mono λx z j _ _ ⟨m,n⟩=>?_;have e:∀y,ev (Jm u v) y=ev u y*ev v y:=λy=>Jh _ _ _;by_cases g:Dd u x z
 . by_cases c:Dd v x z
   . have:Dd (Jm u v) x z:=by
      unfold Dd at *;rw[e,e];have:=Rat.mul_pos g c;grind
     rw[Xu this,Xu g,Xu c]
   . rw[Xu g,AW];unfold Yl Dd at *;rw[e,e];obtain⟨u1,u2⟩:=J7 g;by_cases q:ev v x≠0/\ev v x*ev v z<=0
     . rw[BE q,BE ⟨λf=>by rcases A6.1 f with f|f;exact u1 f;exact q.1 f,by have:=Rat.mul_nonneg (a:=ev u x*ev u z) (b:=-(ev v x*ev v z)) (by grind) (by grind);grind⟩]
     . rw[BC q,BC];rintro⟨f1,f2⟩;refine q ⟨λf=>f1 (by rw[f];grind),?_⟩;exact Rat.not_lt.1 c
 . have c:Dd v x z:=Classical.byContradiction λc=>by
    have L:=La (w x) (o x j) (m g).1 (by rw[d k];exact Rat.le_refl);have A:=((p x j).mul (n c).1).2;rw[d l]at A;grind
   rw[Xu c,Cf];unfold Yl Dd at *;rw[e,e];obtain⟨u1,u2⟩:=J7 c;by_cases q:ev u x≠0/\ev u x*ev u z<=0
   . rw[BE q,BE ⟨λf=>by rcases A6.1 f with f|f;exact q.1 f;exact u1 f,by have:=Rat.mul_nonneg (a:=ev v x*ev v z) (b:=-(ev u x*ev u z)) (by grind) (by grind);grind⟩]
   . rw[BC q,BC];rintro⟨f1,f2⟩;refine q ⟨λf=>f1 (by rw[f];grind),?_⟩;exact Rat.not_lt.1 g
theorem DP.of_unit(h:Dv a [1])(c:List Rat):DP a c:=by
 obtain⟨d,b⟩:=h;refine⟨d,[],λx=>?_⟩;have:=b x;rw[Jr]at this;simp[ev];grind
theorem DP.mul_left{c:List Rat}(h:DP a c)(d:DP b c):DP (Jm a b) c:=(h.symm.mul d.symm).symm
theorem bE:∀(n:Nat) (R w y:List Rat),R.length<=n->Yun R w y->∀c,DP w c->DP R c:=by
 intro n;induction n with
 |zero=>intro R w y k h;exact absurd (AN.1 Y) h.R0
 |succ n l=>
  intro R w y k h c e;by_cases hl:w.length<=1
  . obtain⟨d,j⟩:=I7 h.tw h.w0 hl;refine DP.of_unit (My h.tR h.R0 ⟨Jm d y,λx=>?_⟩) c;have o:=h.eq x;have a:=j x;rw[Jr]at a;rw[Jh]
    have:ev (Jc R) x=(ev w x*ev d x)*ev (Jc R) x:=by rw[<-a,CM]
    rw[this];grind
  . obtain⟨_,_,a,b,_,g⟩:=h.step;have m:(Js R w).length<=n:=by
     have:=JE h.tw a.tR h.w0 a.R0;rw[<-b]at this;omega
    have f:Dv (Js w (JA w (Yi y (Jc w)))) w:=⟨JA w (Yi y (Jc w)),λx=>by
     have:=Jh (JA w (Yi y (Jc w))) (Js w (JA w (Yi y (Jc w)))) x;rw[<-g]at this;rw[this];grind⟩
    have i:=l _ _ _ m a c (e.of_dv f);rw[b];exact e.mul_left i
def Dk(u:List Rat):Prop:=DP u (Jc u)
theorem Dk.parts(h:Dk (Jm a b)):DP a b:=by
 obtain⟨u,v,e⟩:=h;refine⟨Xv (Jm u b) (Jm v (Jc b)),Jm v (Jc a),λx=>?_⟩;have c:=e x;have d:=J9 a b x;rw[Jh]at c;rw[d]at c;rw[Yw,Jh,Jh,Jh];grind
theorem Dk.of_dv(h:Dk b)(tb:Jd b=b)(i:Dv a b):Dk a:=by
 obtain⟨c,_,e⟩:=i.some tb;obtain⟨u,v,d⟩:=h;rw[e]at d;refine⟨Xv (Jm u c) (Jm v (Jc c)),Jm v c,λx=>?_⟩;have f:=d x;have g:=J9 a c x;rw[Jh,g]at f;rw[Yw,Jh,Jh,Jh];grind
theorem Dk.mul{a b:List Rat}(e:Dk a)(f:Dk b)(h:DP a b):Dk (Jm a b):=by
 have c:=J9 a b;have c1:DP a (Jc (Jm a b)):=(DP.mul e h).shift (d:=Jm [-1] (Jc b)) λx=>by
  rw[Jh,Jh,Jr,c];grind
 have c2:DP b (Jc (Jm a b)):=(h.symm.mul f).shift (d:=Jm [-1] (Jc a)) λx=>by
  rw[Jh,Jh,Jr,c];grind
 exact c1.mul_left c2
theorem Dk.dv(j:Jd u=u)(l:Jd v=v)(U:v≠[])(S:Dk v)(h:∀c,DP u c->DP v c):Dv v u:=by
 have n:=Xg j l (Or.inr U);have z:=JY u v;obtain⟨o,p,s,t,w⟩:=Yo j l;obtain⟨d,R⟩:=ex (JA u v);rw[R]at n z o p w;have f:=(JL z n p).2;obtain⟨e,y⟩:=ex (Js v d);rw[y]at f;have M:v=Jm d e:=Xo l (JS _ _) λx=>by rw[Jh,f]
 have K:DP d e:=Dk.parts (by rw[<-M];exact S);have L:DP u e:=by
  obtain⟨a,b,Q⟩:=K;have T:Jd e=e:=by rw[<-y];exact YC _ _
  obtain⟨f1,f2,m,k,f3⟩:=Yo j T;have N:Dv (JA u e) d:=f1.comb (f2.mul' d) s t λx=>by
   rw[w,Jh,f]
  have P:Dv (JA u e) [1]:=N.comb f2 a b λx=>by rw[Jr,Q]
  obtain⟨r,i⟩:=P;refine⟨Jm r m,Jm r k,λx=>?_⟩;have g:=i x;rw[Jr,f3]at g;rw[Jh,Jh];grind
 have A:=h e L;have I:DP e e:=A.of_dv ⟨d,λx=>by rw[f];grind⟩;obtain⟨r,i⟩:=I.unit (Dv.refl e);obtain⟨q,hq⟩:=o;refine⟨Jm r q,λx=>?_⟩;have g:=i x;rw[Jr]at g;rw[Jh,hq,f]
 have:ev d x*ev q x=ev d x*ev q x*(ev e x*ev r x):=by rw[<-g,Rat.mul_one]
 rw[this];grind
theorem Xh(tp:Jd p=p)(p0:p≠[]):Yun (JJ p) (DJ p) (Hi p):=Yun.start (Y9 p) (K3 tp p0) (I3 tp)
theorem IL(tp:Jd p=p)(p0:p≠[]):Dk (DJ p):=NB _ _ _ _ (Aa _) (Xh tp p0)
theorem QO(tp:Jd p=p)(p0:p≠[]):Dv (JJ p) p/\Dv p (JJ p):=by
 obtain⟨c,b⟩:=QD tp p0;have a:Dv (JJ p) p:=⟨[cf p (p.length-1)],λx=>by
  conv=>lhs;rw[b]
  rw[JG,Jr]⟩
 exact⟨a,⟨[1/cf p (p.length-1)],λx=>by rw[IJ,Jr]⟩⟩
theorem GW(tp:Jd p=p)(p0:p≠[]):Dv (DJ p) p:=(Xh tp p0).dv.trans (QO tp p0).1
theorem XW(tp:Jd p=p)(p0:p≠[])(c:List Rat):DP (DJ p) c↔DP p c:=by
 constructor
 . intro h;exact(bE _ _ _ _ (Aa _) (Xh tp p0) c h).of_dv (QO tp p0).2
 . intro h;exact h.of_dv (GW tp p0)
theorem bF(tp:Jd p=p)(p0:p≠[])(tq:Jd q=q)(q0:q≠[]):
 ∃a b c:List Rat,DP a b/\DP a c/\DP (Jm a b) c/\DJ p=Jm a b/\DJ q=Jm a c/\DJ (Jm p q)=Jm (Jm a b) c/\DJ (JA p q)=a:=by
 have e:=Xh tp p0;have f:=Xh tq q0;have K:=IL tp p0;have V:=IL tq q0;have y:=JS p q;have z:Jm p q≠[]:=YO tp tq p0 q0;have r:=JY p q;have o:=Xg tp tq (Or.inl p0);have n:=Xh y z;have l:=Xh r o;obtain⟨t,A,_⟩:=Yo e.tw f.tw;have ta:=JY (DJ p) (DJ q);have ma:=XS e.tw f.tw;have m:=Xg e.tw f.tw (Or.inl e.w0);have s:=LB e.tw f.tw m;obtain⟨mb,_,b0,i⟩:=LC e.tw e.w0 e.mw ta ma t;obtain⟨I,_,c0,j⟩:=LC f.tw f.w0 f.mw ta ma A;have R:∀d,Dv d (DJ p)->Dv d (DJ q)->Dv d (JA (DJ p) (DJ q)):=λd g k=>IK e.tw f.tw g k;obtain⟨a,ha⟩:=ex (JA (DJ p) (DJ q));rw[ha]at t A ta ma m s mb b0 i I c0 j R;obtain⟨b,T⟩:=ex (Js (DJ p) a);obtain⟨c,U⟩:=ex (Js (DJ q) a);have tb:Jd b=b:=by rw[<-T];exact YC _ _
 have L:Jd c=c:=by rw[<-U];exact YC _ _
 rw[T]at s mb b0 i;rw[U]at s I c0 j;have Qj:DP a b:=Dk.parts (by rw[<-i];exact K);have P:DP a c:=Dk.parts (by rw[<-j];exact V);have M:DP (Jm a b) c:=P.mul_left s;have sc:Dk c:=V.of_dv f.tw ⟨a,λx=>by rw[j,Jh];grind⟩;have Qe:Dk (Jm (Jm a b) c):=(by rw[<-i];exact K:Dk (Jm a b)).mul sc M;refine⟨a,b,c,Qj,P,M,i,j,?_,?_⟩
 . have w:=JS (Jm a b) c;have Q:Jm a b≠[]:=YO ta tb m b0;have X0:Jm (Jm a b) c≠[]:=YO (JS _ _) L Q c0;have mX:JJ (Jm (Jm a b) c)=Jm (Jm a b) c:=by
    have g:=QC (JS a b) L Q c0;have k:=QC ta tb m b0;rw[k,Mz ta m ma,Mz tb b0 mb,Mz L c0 I]at g;exact Xo (Y9 _) w λx=>by rw[IJ,g];grind
   have N:∀d,DP (DJ (Jm p q)) d↔DP (Jm (Jm a b) c) d:=λd=>by
    rw[XW y z];constructor
    . intro h;have g:DP p d:=h.of_dv ((Dv.refl p).mul q);have k:DP q d:=h.of_dv ((Dv.refl q).mul' p);have S:=(XW tp p0 d).2 g;have h4:=(XW tq q0 d).2 k;rw[i]at S;exact S.mul_left (h4.of_dv ⟨a,λx=>by rw[j,Jh];grind⟩)
    . intro h;have g:DP (DJ p) d:=h.of_dv (by rw[i];exact(Dv.refl _).mul c);have k:DP (DJ q) d:=h.of_dv (by rw[j];exact⟨b,λx=>by rw[Jh,Jh,Jh];grind⟩);exact((XW tp p0 d).1 g).mul_left ((XW tq q0 d).1 k)
   have d1:=Dk.dv (u:=DJ (Jm p q)) (v:=Jm (Jm a b) c) n.tw w X0 Qe λd h=>(N d).1 h;have d2:=Dk.dv (u:=Jm (Jm a b) c) (v:=DJ (Jm p q)) w n.tw n.w0 (IL y z) λd h=>(N d).2 h;exact Dv.eq n.tw w n.mw mX d2 d1
 . have sa:Dk a:=K.of_dv e.tw t;have sg:=IL r o;obtain⟨W,X,_⟩:=Yo tp tq;have f1:Dv (DJ (JA p q)) (DJ p):=Dk.dv e.tw l.tw l.w0 sg λd h=>((XW tp p0 d).1 h).of_dv ((GW r o).trans W);have f2:Dv (DJ (JA p q)) (DJ q):=Dk.dv f.tw l.tw l.w0 sg λd h=>((XW tq q0 d).1 h).of_dv ((GW r o).trans X);have f3:=R _ f1 f2;have f4:Dv a (DJ (JA p q)):=Dk.dv l.tw ta m sa λd h=>((XW r o d).1 h).of_dv (IK tp tq (t.trans (GW tp p0)) (A.trans (GW tq q0)));exact Dv.eq l.tw ta l.mw ma f3 f4
theorem bG(tp:Jd p=p)(p0:p≠[])(tq:Jd q=q)(q0:q≠[]){B:Rat}(d:0<=B):
 Sh B λx z=>Yl (DJ (Jm p q)) x z+Yl (DJ (JA p q)) x z=Yl (DJ p) x z+Yl (DJ q) x z:=by
 obtain⟨a,b,c,j,k,l,e,f,g,i⟩:=bF tp p0 tq q0;refine(((LF j d).and (LF k d)).and (LF l d)).mono λx z _ _ _ ⟨⟨m,n⟩,o⟩=>?_;show Yl (DJ (Jm p q)) x z+Yl (DJ (JA p q)) x z=Yl (DJ p) x z+Yl (DJ q) x z;rw[e,f,g,i,o,m,n];omega

