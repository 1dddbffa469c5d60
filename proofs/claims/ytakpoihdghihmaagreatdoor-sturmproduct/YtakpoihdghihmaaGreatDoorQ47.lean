import Derived.Test.YtakpoihdghihmaaGreatDoorQ46
import Derived.Test.YtakpoihdghihmaaGreatDoorQ29
open Go.Value renaming slice->D,pointer->C
open Go renaming World->E,Value->G,Boxed->H
open Go.Obj renaming cells->B
open Go.Proofs.Tryz renaming prog->F
set_option maxRecDepth 100000
set_option maxHeartbeats 16000000
namespace Go.Proofs.YtakpoihdghihmaaGreatDoor
section
theorem bZ(c:Rat)(p:List Rat){q:List Rat}(hq:Jd q=q)(q0:q≠[]):Js (DP c p) q=DP c (Js p q):=by
 have h:=(KM (c:=c) (d:=1) DI p q hq q0).1;rw[Gu hq,show c/1=c by grind]at h;exact h
def Nc(p w y:List Rat):Nat->List Rat
 |0=>p
 |n+1=>Js (Nc p w y n) (Dx w y n).1
section
variable {p q w y:List Rat}
end
variable{p:List Rat}
theorem Nd(tp:Jd p=p)(p0:p≠[]):cf p (p.length-1)≠0/\p=DP (cf p (p.length-1)) (Jz p):=by
 have h:=Jt tp p0;refine⟨h,?_⟩;unfold Jz;rw[KK,show 1/cf p (p.length-1)*cf p (p.length-1)=1 by grind,Gu tp]
theorem bp(k:Rat)(p:List Rat):Jb (DP k p)=DP k (Jb p):=by
 rw[<-JF (DP k p),<-JI k (Jb p)];refine X1 λi=>?_;rw[KT,Yk,Yk,KT];grind
theorem br(tp:Jd p=p)(p0:p≠[]):GZ p=EA (Jz p) (Jr (Jz p) (Jb (Jz p))):=by
 obtain⟨g,_⟩:=Nd tp p0;obtain⟨k,d⟩:∃k,1/cf p (p.length-1)=k:=⟨_,rfl⟩;have b:k≠0:=by rw[<-d];exact Ie g
 have c:Jz p=DP k p:=by unfold Jz;rw[d]
 have tq:Jd (Jz p)=Jz p:=Xe _;have q0:Jz p≠[]:=Ig tp p0;have f:Jr (Jz p) (Jb (Jz p))=Jr p (Jb p):=by
  rw[c,bp];exact NK b b tp (JF _)
 have a:Jr p (Jb p)≠[]:=YM tp (JF _) (Or.inl p0);have i:=(YB tq (JF (Jz p))).1;have e:=(KV tq q0 (Ih tp) (JO _ _) (XT tq (JF (Jz p))) i).1;rw[f]at e ⊢;rw[Q7 a];unfold GZ;rw[Q7 a,<-e,c,bZ k p (JO _ _) a];exact(KN b (Yq _ _)).symm
theorem Q8{q g:List Rat}(tq:Jd q=q)(q0:q≠[])(lq:q.length<=25)(cq:Cd 75 q)(a:Jd g=g)(c:Jz g=g)(h:Dv g q):Cd 80 g:=by
 have b:=h.lnN (n:=24) tq q0 Y bY cq.ln a;have:=QK a (b.mono (L:=80) Y) Y;rwa[c]at this
structure StR(K M:Nat)(r f:List Rat):Prop where
 tr:Jd r=r
 cr:Cd M r
 tf:Jd f=f
 f0:f≠[]
 mf:Jz f=f
 ca:Cd M f
 lr:(r.length+3)*(M+1)<=1000000000
 lf:(f.length+3)*(M+1)<=1000000000
 r1:r.length<=1000
 f1:f.length<=1000
 ch:M3.ChOk K f (Js r f)
structure ReOk(K M N:Nat)(p w y:List Rat):Prop where
 fr:M3.FrOk K p
 w0:GZ p=w
 nN:N<=1000000000
 st:∀n,n<N->1<(Dx w y n).1.length/\StR K M (Nc p w y n) (Dx w y n).1/\Cd M (Dx w y (n+1)).1/\Jd (Dx w y (n+1)).1=(Dx w y (n+1)).1/\(Dx w y (n+1)).1≠[]/\Jz (Dx w y (n+1)).1=(Dx w y (n+1)).1/\
  Jr (Dx w y n).1 (Nc p w y (n+1))=(Dx w y (n+1)).1/\Js (Dx w y n).1 (Dx w y (n+1)).1=yP (Dx w y n)/\Jz (yP (Dx w y n))=yP (Dx w y n)/\
  Jd (yP (Dx w y n))=yP (Dx w y n)/\Cd M (yP (Dx w y n))/\(yP (Dx w y n)).length<=25
 en:(Dx w y N).1.length<=1
end
section
variable {a b c d p q r w y R:List Rat}
theorem DS.shift(h:DS a b)(f:∀x,ev b x=ev c x+ev a x*ev d x):DS a c:=by
 obtain⟨u,v,e⟩:=h;refine⟨Xw u (Jm v d),v,λx=>?_⟩;rw[YA,Jg];have:=e x;rw[f]at this;grind
theorem DS.left(h:DS a (Jm b c)):DS a b:=(h.symm.of_dv ((Dv.refl b).mul c)).symm
theorem DS.right(h:DS a (Jm b c)):DS a c:=(h.symm.of_dv ((Dv.refl c).mul' b)).symm
theorem Yun.part(h:Yun R w y):DS (Jr w (Yl y (Jb w))) (Jb (Jr w (Yl y (Jb w))))/\DS (Jr w (Yl y (Jb w))) (Js w (Jr w (Yl y (Jb w)))):=by
 obtain⟨b,c,_⟩:=YB h.tw (Xq y (Jb w));have a:=h.step.2.2.2.2.2;obtain⟨P,f⟩:=ex (Jr w (Yl y (Jb w)));rw[f]at b c a ⊢;obtain⟨e,i⟩:=ex (Js w P);rw[i]at a ⊢;have c1:DS P y:=h.cop.of_dv b;obtain⟨t,g⟩:=c;have c2:DS P (Jb w):=c1.shift (d:=t) λx=>by
  have:=g x;rw[Y0]at this;grind
 have c3:DS P (Jm (Jb P) e):=c2.shift (d:=Jb e) λx=>by
  have:=congrArg (λr=>ev (Jb r) x) a;simp only[Yc]at this;rw[Jg];exact this
 exact⟨c3.left,c3.right⟩
end
section
variable {q w y:List Rat}
end
section
variable{a b p:List Rat}{c:Rat}
theorem LY(h:c≠0):0<Xi c:=by
 unfold Xi;split<;>grind
theorem bv(h:0<c):∀n:Nat,0<c^n:=by
 intro n;induction n with
 |zero=>rw[Rat.pow_zero];decide
 |succ n a=>rw[Rat.pow_succ];exact Rat.mul_pos a h
theorem bw{q:List Rat}(hq:Jd q=q)(a:q≠[]):0<EE p q:=bv (LY (Jt hq a)) _
theorem Q9(tb:Jd b=b)(b0:b≠[]):∃(q:List Rat) (c:Rat),0<c/\∀x,EE a b*ev a x=ev q x*ev b x-c*ev (YK a b) x:=by
 obtain⟨k,f,e⟩:=F1 (p:=JH (YJ a b) b) (J3 _);refine⟨Js (YJ a b) b,1/k,YE DI f,λx=>?_⟩;have g:=(YO (YJ a b) b tb b0).1 x;have i:ev (YJ a b) x=ev a x*EE a b:=JJ _ _ _;have d:ev (YK a b) x=-(ev (JH (YJ a b) b) x*k):=by
  unfold YK;rw[Y0,e,JJ];simp[ev];grind
 have j:1/k*k=1:=Ap (by grind);rw[d];grind
theorem chnL_head(a b:List Rat):∃t,ET a b=a::t:=by
 unfold ET;cases b.length with
 |zero=>exact⟨_,rfl⟩
 |succ n=>
  unfold EJ;split
  . exact⟨_,rfl⟩
  . exact⟨_,rfl⟩
theorem RA(ta:Jd a=a)(b:a≠[])(x:Rat):ev (Js a a) x=1:=by
 have h:=YC (u:=Js a a) (v:=[1]) ta b (λx=>by
  rw[<-(JP ta b (Dv.refl a)).2 x,Jy];grind) x
 rwa[Jy]at h
theorem Nf:∀(n:Nat) (a b:List Rat),b.length<=n->Jd a=a->Jd b=b->a≠[]->∃g,(ET a b).getLast?=some g/\Jd g=g/\g≠[]/\Dv g a/\Dv g b/\(∀d,Dv d a->Dv d b->Dv d g)/\StC ((ET a b).map λp=>Js p g):=by
 intro n;induction n with
 |zero=>
  intro a b P ta _ e
  have:b=[]:=AM.1 Y
  subst this;exact⟨a,rfl,ta,e,Dv.refl a,Dv.zero a,λ_ h _=>h,StC.one (c:=1) DI λx=>RA ta e x⟩
 |succ n V=>
  intro a b P ta tb e;by_cases b0:b=[]
  . subst b0;exact⟨a,rfl,ta,e,Dv.refl a,Dv.zero a,λ_ h _=>h,StC.one (c:=1) DI λx=>RA ta e x⟩
  . have hl:=YS (a:=a) tb b0;obtain⟨g,K,i,f,k,r,L,j⟩:=V b (YK a b) Y tb (X6 _ _) b0;obtain⟨q,c,c0,l⟩:=Q9 (a:=a) tb b0;have w0:=bw (p:=a) tb b0;have w:1/EE a b*EE a b=1:=Ap (by grind);have y:1/c*c=1:=Ap (by grind);have m:Dv g a:=k.comb r (Jm [1/EE a b] q) [-(1/EE a b*c)] λx=>by
     rw[Jg,Jy,Jy];have:=l x
     have:ev a x=1/EE a b*(EE a b*ev a x):=by rw[<-Rat.mul_assoc,w,CG]
     grind
    refine⟨g,?_,i,f,m,k,λd d1 o=>L d o (o.comb d1 (Jm [1/c] q) [-(1/c*EE a b)] λx=>?_),?_⟩
    . rw[Xu tb b0,List.getLast?_cons,K];rfl
    . rw[Jg,Jy,Jy];have:=l x
      have:ev (YK a b) x=1/c*(c*ev (YK a b) x):=by rw[<-Rat.mul_assoc,y,CG]
      grind
    . rw[Xu tb b0];by_cases s:YK a b=[]
      . rw[s,Il]at j ⊢;obtain⟨_,M,N⟩:=j.o;exact StC.two M N
      . obtain⟨t,Q⟩:=chnL_head (YK a b) (YK b (YK a b));rw[Xu (X6 _ _) s,Q]at j ⊢;have z:=(JP i f m).2;have A:=(JP i f k).2;have I:=(JP i f r).2;refine StC.more (q:=q) w0 c0 (λx=>?_) j;have:=YC (u:=Jm [EE a b] (Js a g)) (v:=Yl (Jm q (Js b g)) (Jm [c] (Js (YK a b) g))) i f (λx=>by
         rw[Jg,Y0,Jg,Jg,Jy,Jy];have R:=z x;have S:=A x;have T:=I x;have U:=l x;rw[R,S,T]at U;grind) x
        rwa[Jg,Y0,Jg,Jg,Jy,Jy]at this
theorem Ng:∀(n:Nat) (R w y:List Rat),R.length<=n->Yun R w y->DS w (Jb w):=by
 intro n;induction n with
 |zero=>intro R w y p h;exact absurd (AM.1 Y) h.R0
 |succ n r=>
  intro R w y p h;by_cases hl:w.length<=1
  . obtain⟨c,o⟩:=KU h.tw h.w0 hl;refine⟨c,[],λx=>?_⟩;have:=o x;rw[Jy]at this;simp[ev];grind
  . obtain⟨j,g⟩:=h.part;obtain⟨_,_,b,k,_,f⟩:=h.step;obtain⟨a,m⟩:=ex (Jr w (Yl y (Jb w)));rw[m]at j g b f;obtain⟨e,q⟩:=ex (Js w a);rw[q]at g b f;have s:(Js R w).length<=n:=by
     have:=JG h.tw b.tR h.w0 b.R0;rw[<-k]at this;omega
    have l:=r _ _ _ s b;have i:∀x,ev (Jb w) x=ev (Jb a) x*ev e x+ev a x*ev (Jb e) x:=λx=>by
     have:=Yc a e x;rwa[<-f]at this
    have c1:DS a (Jb w):=(j.mul g).shift (d:=Jm [-1] (Jb e)) λx=>by
     rw[Jg,Jg,Jy,i];grind
    have c2:DS e (Jb w):=(g.symm.mul l).shift (d:=Jm [-1] (Jb a)) λx=>by
     rw[Jg,Jg,Jy,i];grind
    have c3:=(c1.symm.mul c2.symm).symm;rwa[<-f]at c3
theorem cA(c:Rat)(p:List Rat)(x:Rat):ev (Jb (DP c p)) x=c*ev (Jb p) x:=by
 rw[Xr,Xr];unfold DP;rw[Nt (Yd _),Nv,CI]
def Ju(p:List Rat):List (List Rat):=(XS p (Jb p)).map λa=>Js a ((XS p (Jb p)).getLast?.getD [])
def DK(p:List Rat):List Rat:=Js (Jz p) (Jr (Jz p) (Jb (Jz p)))
def Hz(p:List Rat):List Rat:=Js (Jb (Jz p)) (Jr (Jz p) (Jb (Jz p)))
theorem cB(tp:Jd p=p)(p0:p≠[]):StC (Ju p)/\∃f l k,Ju p=f::l/\k≠0/\(∀x,ev f x=k*ev (DK p) x)/\∀f1 l1,l=f1::l1->∃W,0<k*W/\∀x,ev f1 x=W*ev (Hz p) x:=by
 have ts:=JF p;obtain⟨α,α0,hα⟩:=F1 tp;obtain⟨β,β0,hβ⟩:=F1 ts;obtain⟨y,s⟩:=Nd tp p0;obtain⟨b,hl⟩:=ex (cf p (p.length-1));rw[hl]at y s;have tR:=Xe p;have R0:=Ig tp p0;obtain⟨R,U⟩:=ex (Jz p);rw[U]at s tR R0;have z:=JF R;have a0:JE p≠[]:=λe=>p0 (AM.1 (by rw[<-J0 tp,e];rfl));have A:∀x,ev (JE p) x=α*b*ev R x:=λx=>by
  rw[hα,JJ];conv=>lhs;rw[s]
  rw[JJ];grind
 have I:∀x,ev (JE (Jb p)) x=β*b*ev (Jb R) x:=λx=>by
  rw[hβ,JJ];have:=cA b R x;rw[<-s]at this;rw[this];grind
 obtain⟨g,h1,K,Q,S,T,h4,h5⟩:=Nf _ (JE p) (JE (Jb p)) (Aa _) (Ye _) (Ye _) a0;obtain⟨L,M,_⟩:=YB tR z;have q:=JO R (Jb R);have r:=YM tR z (Or.inl R0);have fW:=(JP q r L).2;have fY:=(JP q r M).2;have X:Dv (Jr R (Jb R)) g:=h4 _ (by
  obtain⟨c,j⟩:=L;exact⟨DP (α*b) c,λx=>by rw[A,j,JJ];grind⟩) (by obtain⟨c,j⟩:=M;exact⟨DP (β*b) c,λx=>by rw[I,j,JJ];grind⟩)
 have V:∀ {k:Rat},0<k->1/(k*b)*(k*b)=1:=λhk=>Ap (by
  intro e;rcases Cj.1 e with e|e
  . grind
  . exact y e)
 have Qc:Dv g (Jr R (Jb R)):=KS tR z (by
  obtain⟨c,j⟩:=S;refine⟨DP (1/(α*b)) c,λx=>?_⟩;have i:=j x;rw[A]at i
  have:ev R x=1/(α*b)*(α*b*ev R x):=by rw[<-Rat.mul_assoc,V α0,CG]
  rw[this,i,JJ];grind) (by
  obtain⟨c,j⟩:=T;refine⟨DP (1/(β*b)) c,λx=>?_⟩;have i:=j x;rw[I]at i
  have:ev (Jb R) x=1/(β*b)*(β*b*ev (Jb R) x):=by rw[<-Rat.mul_assoc,V β0,CG]
  rw[this,i,JJ];grind)
 obtain⟨m,m0,hm⟩:=Dv.anti q K X Qc;have N:∀x,ev g x=m*ev (Jr R (Jb R)) x:=λx=>by rw[hm,JJ];grind
 have w:1/m*m=1:=Ap m0;have qa:=(JP K Q S).2;have qb:=(JP K Q T).2;have P:Ju p=(ET (JE p) (JE (Jb p))).map λa=>Js a g:=by
  unfold Ju XS;rw[h1];rfl
 refine⟨by rw[P];exact h5,?_⟩;obtain⟨t,d⟩:=chnL_head (JE p) (JE (Jb p));unfold DK Hz;rw[U];refine⟨Js (JE p) g,t.map λa=>Js a g,1/m*(α*b),by rw[P,d];rfl,?_,λx=>?_,λf1 l1 n=>⟨1/m*(β*b),?_,λx=>?_⟩⟩
 . intro e;rcases Cj.1 e with e|e
   . rw[e]at w;grind
   . rcases Cj.1 e with e|e
     . grind
     . exact y e
 . have:=YC (u:=Js (JE p) g) (v:=DP (1/m*(α*b)) (Js R (Jr R (Jb R)))) q r (λx=>by
    have o:=qa x;rw[N,A,fW]at o;rw[JJ]
    have:ev (Jr R (Jb R)) x*ev (Js (JE p) g) x=1/m*(m*ev (Jr R (Jb R)) x*ev (Js (JE p) g) x):=by
     rw[<-Rat.mul_assoc,<-Rat.mul_assoc,w,CG]
    rw[this,<-o];grind) x
   rw[this,JJ];grind
 . have i:1/m*(α*b)*(1/m*(β*b))=(1/m*b)*(1/m*b)*(α*β):=by grind
   rw[i];refine Rat.mul_pos ?_ (Rat.mul_pos α0 β0);have c0:1/m*b≠0:=λe=>by
    rcases Cj.1 e with e|e
    . rw[e]at w;grind
    . exact y e
   have:=Iw (f:=[1/m*b]) c0 (λx=>Jy _ x) 0 0;unfold Dg at this;rwa[Jy]at this
 . have hb:f1=Js (JE (Jb p)) g:=by
    by_cases b0:JE (Jb p)=[]
    . rw[b0,Il]at d;injection d with _ d
      rw[<-d]at n;cases n
    . rw[Xu (Ye _) b0]at d;injection d with _ d
      obtain⟨t2,ad⟩:=chnL_head (JE (Jb p)) (YK (JE p) (JE (Jb p)));rw[<-d,ad]at n;injection n with n _
      exact n.symm
   rw[hb];have:=YC (u:=Js (JE (Jb p)) g) (v:=DP (1/m*(β*b)) (Js (Jb R) (Jr R (Jb R)))) q r (λx=>by
    have o:=qb x;rw[N,I,fY]at o;rw[JJ]
    have:ev (Jr R (Jb R)) x*ev (Js (JE (Jb p)) g) x=1/m*(m*ev (Jr R (Jb R)) x*ev (Js (JE (Jb p)) g) x):=by
     rw[<-Rat.mul_assoc,<-Rat.mul_assoc,w,CG]
    rw[this,<-o];grind) x
   rw[this,JJ];grind
def Ym(b:List Rat):List Rat:=DP (1/Xi (cf b (b.length-1))) b
def Ey:Nat->List Rat->List Rat->List (List Rat)
 |0,a,_=>[a]
 |n+1,a,b=>if b=[]then [a]else a::Ey n (Ym b) (DP (-1) (JH a (Ym b)))
theorem KZ(n:Nat)(a b:List Rat):∃t,Ey n a b=a::t:=by
 cases n with
 |zero=>exact⟨_,rfl⟩
 |succ n=>
  unfold Ey;split
  . exact⟨_,rfl⟩
  . exact⟨_,rfl⟩
theorem Nh(tb:Jd b=b)(b0:b≠[]):0<1/Xi (cf b (b.length-1)):=YE DI (LY (Jt tb b0))
theorem Ni(g:c≠0)(tb:Jd b=b):(DP c b).length=b.length:=by
 have e:DP (1/c) (DP c b)=b:=by rw[KK,CI,Ap g,Gu tb]
 have a:∀(d:Rat) (q:List Rat),(DP d q).length<=q.length:=λd q=>by
  unfold DP;refine An (Y3 _) ?_;unfold YT;simp
 have i:=a c b;have f:=a (1/c) (DP c b);rw[e]at f;omega
theorem RB(ta:Jd a=a)(h:DS a []):∃c,c≠0/\∀x,ev a x=c:=by
 obtain⟨u,v,b⟩:=h;have f:Dv a [1]:=⟨u,λx=>by rw[Jy,<-b x];simp[ev];grind⟩;have g:=(f.len ta DI DI).1;have d:a≠[]:=λe=>by
  have:=b 0;rw[e]at this;simp[ev]at this;grind
 match a,d,g with
 |[c],_,_=>
  refine⟨c,λe=>?_,λx=>Jy c x⟩;have:=b 0;rw[e]at this;simp[ev]at this;grind
theorem RC:∀(n:Nat) (a b:List Rat),b.length<=n->Jd a=a->Jd b=b->DS a b->StC (Ey n a b):=by
 intro n;induction n with
 |zero=>
  intro a b p ta _ d
  have:b=[]:=AM.1 Y
  subst this;obtain⟨c,c0,f⟩:=RB ta d;exact StC.one c0 f
 |succ n w=>
  intro a b p ta tb d;by_cases b0:b=[]
  . subst b0;obtain⟨c,c0,f⟩:=RB ta d;rw[Ey,BH rfl];exact StC.one c0 f
  . rw[Ey,BB b0];have S:=Nh tb b0;have lb:(Ym b).length=b.length:=Ni (by grind) tb;have j:Jd (Ym b)=Ym b:=JI _ _;have l:Ym b≠[]:=λe=>b0 (AM.1 (by rw[<-lb,e];rfl));obtain⟨k,sl⟩:=YO a (Ym b) j l;have tr:Jd (JH a (Ym b))=JH a (Ym b):=J3 _;have o:∀x,ev (Ym b) x=ev b x*(1/Xi (cf b (b.length-1))):=λx=>JJ _ _ _;have m:DS (Ym b) (DP (-1) (JH a (Ym b))):=by
     obtain⟨u,v,s⟩:=d;have y:Xi (cf b (b.length-1))*(1/Xi (cf b (b.length-1)))=1:=by
      rw[CI];exact Ap (by have:=LY (Jt tb b0);grind)
     refine⟨Xw (Jm u (Js a (Ym b))) (Jm [Xi (cf b (b.length-1))] v),Jm [-1] u,λx=>?_⟩;rw[YA,Jg,Jg,Jg,Jy,Jy,JJ];have z:=s x;have i:=k x;have A:=o x;have I:ev b x=Xi (cf b (b.length-1))*ev (Ym b) x:=by
      rw[A,CI,Rat.mul_assoc,CI (1/_),y,Rat.mul_one]
     rw[I,i]at z;grind
    have g:=w (Ym b) (DP (-1) (JH a (Ym b))) (by rw[Ni DI tr];omega) j (JI _ _) m;by_cases r0:DP (-1) (JH a (Ym b))=[]
    . rw[r0]at g ⊢;have e:Ey n (Ym b) []=[Ym b]:=by cases n<;>rfl
      rw[e]at g ⊢;obtain⟨_,d,f⟩:=g.o;exact StC.two d f
    . have R:=JI (-1) (JH a (Ym b));cases n with
      |zero=>
       exact absurd (AM.1 (by have:=Ni (c:=-1) DI tr;omega)) r0
      |succ n=>
       obtain⟨t,r⟩:=KZ n (Ym (DP (-1) (JH a (Ym b)))) (DP (-1) (JH (Ym b) (Ym (DP (-1) (JH a (Ym b))))));rw[Ey,BB r0,r]at g ⊢;have Q:=LY (Jt R r0);refine StC.more (q:=Js a (Ym b)) (a:=1) (c:=Xi (cf (DP (-1) (JH a (Ym b))) ((DP (-1) (JH a (Ym b))).length-1))) DI Q (λx=>?_) g;have i:=k x;have L:ev (Ym (DP (-1) (JH a (Ym b)))) x=ev (DP (-1) (JH a (Ym b))) x*(1/Xi (cf (DP (-1) (JH a (Ym b))) ((DP (-1) (JH a (Ym b))).length-1))):=JJ _ _ _;have M:ev (DP (-1) (JH a (Ym b))) x=ev (JH a (Ym b)) x*(-1):=JJ _ _ _;have N:1/Xi (cf (DP (-1) (JH a (Ym b))) ((DP (-1) (JH a (Ym b))).length-1))*Xi (cf (DP (-1) (JH a (Ym b))) ((DP (-1) (JH a (Ym b))).length-1))=1:=Ap (by grind);rw[L,M];generalize Xi (cf (DP (-1) (JH a (Ym b))) ((DP (-1) (JH a (Ym b))).length-1))=K at *;have P:K*(ev (JH a (Ym b)) x*(-1)*(1/K))=- ev (JH a (Ym b)) x:=by
        have:K*(ev (JH a (Ym b)) x*(-1)*(1/K))=(1/K*K)*(- ev (JH a (Ym b)) x):=by grind
        rw[this,N];grind
       rw[P,CG,i];grind
def YQ(p:List Rat):List (List Rat):=Ey (Jb (DK p)).length (DK p) (Jb (DK p))
theorem XU(tp:Jd p=p)(p0:p≠[]){a b:Rat}(I:a<=b):DO (JM (Ju p) a)+DO (JM (YQ p) b)=DO (JM (Ju p) b)+DO (JM (YQ p) a):=by
 obtain⟨S,f,l,k,L,V,K,u⟩:=cB tp p0;have d:=Yun.start (Xe p) (Ig tp p0) (Ih tp);have d:Yun (Jz p) (DK p) (Hz p):=d;have U:=Ng _ _ _ _ (Aa _) d;have R:=RC _ (DK p) (Jb (DK p)) (Aa _) d.tw (JF _) U;obtain⟨A,A0,v⟩:=XX a;obtain⟨C,C0,w⟩:=XX b;have g:0<=A+C:=by grind
 obtain⟨e,e0,sg⟩:=QW _ _ _ _ (Aa _) d g;refine glue (B:=A+C) (F:=λx=>DO (JM (Ju p) x)) (G:=λx=>DO (JM (YQ p) x)) ?_ (v.mono (by grind)) (w.mono (by grind)) I;refine(((S.gd g).and (R.gd g)).and sg).mono λx y _ _ _ i=>?_;have d1:=i.1.1;have j:=i.1.2;have s:=i.2;obtain⟨m,c⟩:=KZ (Jb (DK p)).length (DK p) (Jb (DK p));show DO (JM (Ju p) x)+DO (JM (YQ p) y)=DO (JM (Ju p) y)+DO (JM (YQ p) x);unfold YQ;rw[L]at d1 ⊢;rw[c]at j ⊢;refine d1.both j V K λP f1 l1 o m1 hl q=>?_;obtain⟨k1,W,M⟩:=u f1 l1 hl;obtain⟨X,s2⟩:=s P;by_cases w0:Jb (DK p)=[]
 . exfalso
   rw[w0]at c;rw[q]at c;simp[Ey]at c
 . obtain⟨n,Q⟩:∃n,(Jb (DK p)).length=n+1:=⟨_,(Nat.succ_pred_eq_of_pos (Af.2 w0)).symm⟩;rw[Q,Ey,BB w0]at c;injection c with _ c
   obtain⟨t,T⟩:=KZ n (Ym (Jb (DK p))) (DP (-1) (JH (DK p) (Ym (Jb (DK p)))));rw[T,q]at c;injection c with N _
   have sp:=Nh (JF (DK p)) w0;have r:∀z,ev o z=ev (Jb (DK p)) z*(1/Xi (cf (Jb (DK p)) ((Jb (DK p)).length-1))):=λz=>by rw[<-N];exact JJ _ _ _
   have fin:∀z,e<=ev (Hz p) z*ev (Jb (DK p)) z->0<k*ev f1 z*ev o z:=λz hz=>by
    rw[M,r];have:=Rat.mul_pos (Rat.mul_pos W sp) (show 0<ev (Hz p) z*ev (Jb (DK p)) z by grind);grind
   exact⟨fin x X,fin y s2⟩
def Nj(l:List (List Rat)):Prop:=∀p∈l,Jd p=p/\p≠[]
def Ec(l:List (List Rat)):List Rat:=l.map λp=>cf p (p.length-1)
def X7(l:List (List Rat)):List Rat:=l.map λp=>(-1)^(p.length-1)*cf p (p.length-1)
theorem Xj{l:List (List Rat)}(h:Nj l):∃B,0<B/\(∀x,B<=x->DO (JM l x)=DO (Ec l))/\∀x,x<=-B->DO (JM l x)=DO (X7 l):=by
 have m:∃B,0<B/\(∀x,B<=x->∀p∈l,0<ev p x*cf p (p.length-1))/\∀x,x<=-B->∀p∈l,0<ev p x*((-1)^(p.length-1)*cf p (p.length-1)):=by
  induction l with
  |nil=>exact⟨1,DI,(λ_ _ _ hp=>absurd hp (List.not_mem_nil)),(λ_ _ _ hp=>absurd hp (List.not_mem_nil))⟩
  |cons p l g=>
   obtain⟨B,d,b,c⟩:=g λq hq=>h q (List.mem_cons_of_mem _ hq);obtain⟨tp,p0⟩:=h p (CH);obtain⟨C,n,e⟩:=R9 tp p0;obtain⟨D,o,f⟩:=SA tp p0;refine⟨B+C+D,by grind,λx a q hq=>?_,λx a q hq=>?_⟩
   . rcases List.mem_cons.1 hq with rfl|hq
     . rw[CI];exact e x (by grind)
     . exact b x (by grind) q hq
   . rcases List.mem_cons.1 hq with rfl|hq
     . rw[CI];exact f x (by grind)
     . exact c x (by grind) q hq
 obtain⟨B,d,b,c⟩:=m;refine⟨B,d,λx a=>?_,λx a=>?_⟩
 . refine N9 _ _ 0 0 (by simp[JM,Ec]) (λi j k=>?_) (Or.inr ⟨rfl,rfl⟩);simp only[JM,Ec,List.getElem_map];exact b x a _ (FA _)
 . refine N9 _ _ 0 0 (by simp[JM,X7]) (λi j k=>?_) (Or.inr ⟨rfl,rfl⟩);simp only[JM,X7,List.getElem_map];exact c x a _ (FA _)
theorem cC:∀(n:Nat) (a b g:List Rat),b.length<=n->Jd a=a->Jd b=b->a≠[]->Dv g a->Dv g b->Jd g=g->g≠[]->Nj ((ET a b).map λp=>Js p g):=by
 intro n;induction n with
 |zero=>
  intro a b g s ta tb j f k i d
  have:b=[]:=AM.1 Y
  subst this;intro p hp;rw[Il]at hp;rcases C3.1 hp with⟨q,hq,rfl⟩
  have:q=a:=by simpa using hq
  subst this;exact⟨Yq _ _,λe=>j (YW ta λx=>by rw[(JP i d f).2,e];simp[ev])⟩
 |succ n u=>
  intro a b g s ta tb j f k i d;have l:Jd (Js a g)=Js a g/\Js a g≠[]:=⟨Yq _ _,λe=>j (YW ta λx=>by rw[(JP i d f).2,e];simp[ev])⟩;by_cases b0:b=[]
  . subst b0;intro p hp;rw[Il]at hp;rcases C3.1 hp with⟨q,hq,rfl⟩
    have:q=a:=by simpa using hq
    subst this;exact l
  . have hl:=YS (a:=a) tb b0;obtain⟨q,c,c0,t⟩:=Q9 (a:=a) tb b0;have m:1/c*c=1:=Ap (by grind);have o:Dv g (YK a b):=k.comb f (Jm [1/c] q) [-(1/c*EE a b)] λx=>by
     rw[Jg,Jy,Jy];have:=t x
     have:ev (YK a b) x=1/c*(c*ev (YK a b) x):=by rw[<-Rat.mul_assoc,m,CG]
     grind
    have r:=u b (YK a b) g Y tb (X6 _ _) b0 k o i d;rw[Xu tb b0];intro p hp;rcases List.mem_cons.1 hp with rfl|hp
    . exact l
    . exact r p hp
theorem Yo(tp:Jd p=p)(p0:p≠[]):Nj (Ju p):=by
 have b:JE p≠[]:=λe=>p0 (AM.1 (by rw[<-J0 tp,e];rfl));obtain⟨g,f,k,d,i,j,_,_⟩:=Nf _ (JE p) (JE (Jb p)) (Aa _) (Ye _) (Ye _) b;have c:Ju p=(ET (JE p) (JE (Jb p))).map λa=>Js a g:=by
  unfold Ju XS;rw[f];rfl
 rw[c];exact cC _ _ _ g (Aa _) (Ye _) (Ye _) b i j k d
end
namespace M3
open Go.RowKit Go.Shelf
attribute [local go_sem] Oper.semAt_some
variable{p:List Rat}{K:Nat}{v:G}
theorem cD(r s:G)(p q:List Rat)(w:E)(m:Je w r p)(o:Je w s q):
 Calls F 87 #[r,s] w λe i=>∃k l a c b d g f,e=.returned (.func (.func 136) #[] #[C (some ⟨k,0,none⟩),C (some ⟨l,0,none⟩)])/\Db i k a c b/\Db i l d g f/\Je i (.agg #[D a c b]) p/\Je i (.agg #[D d g f]) q/\Bl w i:=by
 obtain⟨a,c,b,rfl⟩:=m.form;obtain⟨d,g,f,rfl⟩:=o.form;refine((BJ (n:=1)).1 (QS 1 a d c b g f w)).mono ?_;rintro e i ⟨rfl,rfl⟩;have j:Bl w ((w.alloc (B #[D a c b] 25)).alloc (B #[D d g f] 25)):=(Ba w _).alloc (by rw[Ax];omega) _;refine⟨_,_,a,c,b,d,g,f,rfl,(BI w 25 (D a c b)).alloc _,?_,m.below j,o.below j,j⟩;have:=BI (w.alloc (B #[D a c b] 25)) 25 (D d g f);rwa[Ax]at this
theorem cE(K:Nat)(a b:Nat)(f j:Option Addr)(i g l k:Nat)(p q:List Rat)(w:E)(u:ChOk K p q)(s:Db w a f i g)(t:Db w b j l k)(x:Je w (.agg #[D f i g]) p)(y:Je w (.agg #[D j l k]) q):
 Calls F 153 #[.func (.func 136) #[] #[C (some ⟨a,0,none⟩),C (some ⟨b,0,none⟩)]] w λe m=>∃v cs,e=.returned v/\XI 25 (w.heap.size+1) m v cs/\E9 m cs (XS p q)/\Bl w m:=by
 have n:=Ja (ar K a b f j i g l k p q w u s t x y);clear u s t x y;go_enter Tryz.func153,Tryz.ntmps153
 go_wp2_with(go_at_call 186;refine n.o.mono ?_;clear n;rintro e N ⟨v,cs,rfl,d,o,r⟩;obtain⟨A,I,z,L,M⟩:=d.form;subst z;have c:=Ja (And.intro d (And.intro o r));clear d o r)
 go_ret;exact⟨_,cs,rfl,c.o.1,c.o.2.1,c.o.2.2⟩
theorem D9.setK{V:E}{g n:Nat}{f:Nat->List Rat}(h:D9 V g n f){j:Nat}(d:j<n){x:G}(hp:Je V v p):Je (V.setCell ⟨g,j,none⟩ x) v p:=by
 obtain⟨cs,b,c⟩:=h;obtain⟨k,l,c0,a,_⟩:=c j d;obtain⟨u,e,i⟩:=hp;exact⟨u,e,Hr b a rfl true DI _ _ _ i⟩
theorem E9.els{W:E}{cs:List G}{L:List (List Rat)}{base:Nat}(h:XI 25 base W v cs)(d:E9 W cs L)(s:L≠[]):∃g cap,v=D (some ⟨g,0,none⟩) L.length cap/\base<=g/\L.length<=cap/\cap<=maxLen/\D9 W g L.length (λj=>L.getD j []):=by
 rcases h with⟨rfl,rfl⟩|⟨g,cap,k,rfl,n,o,p,q,t,r⟩
 . exact absurd (AM.1 (by rw[<-d.1];rfl)) s
 . refine⟨g,cap,by rw[d.1],n,by rw[<-d.1];exact p,q,k,o,λj i=>?_⟩;obtain⟨x,b,f⟩:=d.2 j L[j] (Am i);obtain⟨a,l,c,e⟩:=f.form;cases e;refine⟨a,l,c,?_,?_⟩
   . rw[<-r,Fm]at b;split at b
     . rw[CB]at b;exact b
     . cases b
   . have m:L.getD j []=L[j]:=by simp[List.getD,i]
     show RowK true W _ (L.getD j []);rw[m];exact f.row
structure SrOk(K:Nat)(p:List Rat):Prop where
 ch:ChOk K p (Jb p)
 p0:p≠[]
theorem cH{q:List Rat}(f:ChOk K p q):∀(n:Nat) (a b:List Rat),b.length<=n->Chn p q (DX K p q) a b->a≠[]->∀x∈ET a b,Jd x=x/\Cd (DX K p q) x/\x.length<=max p.length q.length/\x≠[]:=by
 have one:∀a b,Chn p q (DX K p q) a b->a≠[]->Jd a=a/\Cd (DX K p q) a/\a.length<=max p.length q.length/\a≠[]:=λa b h e=>⟨h.ta,⟨1,DI,Sm.one _ f.bd.2.2.2,λi=>by
  obtain⟨z,g,j⟩:=h.wa i;exact⟨z,by rw[j,<-CZ ((z:Int):Rat)];simp,g⟩⟩,h.la,e⟩
 intro n;induction n with
 |zero=>
  intro a b hl h e x c;have d:b=[]:=KL Y;subst d;rw[Il]at c
  have:x=a:=by simpa using c
  subst this;exact one _ _ h e
 |succ n k=>
  intro a b hl h e x c;by_cases d:b=[]
  . subst d;rw[Il]at c
    have:x=a:=by simpa using c
    subst this;exact one _ _ h e
  . rw[Xu h.tb d]at c;rcases List.mem_cons.1 c with rfl|c
    . exact one _ _ h e
    . have g:=YS (a:=a) h.tb d;exact k b (YK a b) Y (Chn.next f.tp f.tq f.lp f.lq f.bd.2.2.1 h d) d x c
theorem SrOk.mem(h:SrOk K p):∀x∈XS p (Jb p),Jd x=x/\Cd (DX K p (Jb p)) x/\x.length<=max p.length (Jb p).length/\x≠[]:=by
 have a:=Chn.start h.ch.tp h.ch.tq h.ch.lp h.ch.lq h.ch.bd.2.2.1;refine cH h.ch _ (JE p) (JE (Jb p)) (Aa _) a λe=>h.p0 (AM.1 ?_);rw[<-J0 h.ch.tp,e];rfl
theorem SrOk.last(h:SrOk K p):∃g,(XS p (Jb p)).getLast?=some g/\g∈XS p (Jb p)/\Ju p=(XS p (Jb p)).map λa=>Js a g:=by
 have c:JE p≠[]:=λe=>h.p0 (AM.1 (by rw[<-J0 h.ch.tp,e];rfl));obtain⟨g,b,_⟩:=Nf _ (JE p) (JE (Jb p)) (Aa _) (Ye _) (Ye _) c;have b:(XS p (Jb p)).getLast?=some g:=b;refine⟨g,b,List.mem_of_getLast? b,?_⟩;unfold Ju;rw[b];rfl
theorem SrOk.fit{x:List Rat}(h:SrOk K p)(a:x.length<=max p.length (Jb p).length):2*(DX K p (Jb p)+x.length*(DX K p (Jb p)+1)+1)+2*(2*DX K p (Jb p)+1)<=1000000000:=by
 have b:=h.ch.le;have c:x.length*(DX K p (Jb p)+1)<=max p.length (Jb p).length*(DX K p (Jb p)+1):=Ah _ a;have d:(max p.length (Jb p).length+2)*(DX K p (Jb p)+1)=max p.length (Jb p).length*(DX K p (Jb p)+1)+2*(DX K p (Jb p)+1):=AD _ _ _;omega
theorem SrOk.sqs{K:Nat}{p:List Rat}(h:SrOk K p):Sqs p:=(show Cd K p from h.ch.cp).sqs h.ch.bd.2.1
theorem cI{α:Type}(i j:Nat)(s c:Nat->α):(if j=i then s i else if j<i then s j else c j)=if j<i+1 then s j else c j:=by
 by_cases e:j=i
 . subst e;rw[BH rfl,BH Y]
 . rw[BB e];by_cases a:j<i
   . rw[BH a,BH Y]
   . rw[BB a,BB Y]
def LZ(w wr:E)(g n i B4:Nat)(la:Option Addr)(ll a:Nat)(C S:List (List Rat))(q:List Rat):Prop:=
 D9 wr g n (λj=>if j<i then S.getD j []else C.getD j [])/\Db wr B4 la ll a/\Je wr (.agg #[D la ll a]) q/\Bl w wr/\B4≠g/\w.heap.size<=g
theorem cJ(K:Nat)(v:G)(p:List Rat)(w:E)(h:Je w v p)(l:SrOk K p)(aj:∀i,Sq (GM p i)):
 Calls F 105 #[v] w λe w'=>∃g cap,e=.returned (D (some ⟨g,0,none⟩) (Ju p).length cap)/\(Ju p).length<=cap/\cap<=maxLen/\D9 w' g (Ju p).length (λj=>(Ju p).getD j [])/\Bl w w':=by
 obtain⟨r,la,s,rfl⟩:=h.form;have d:Bl w (w.alloc (B #[D r la s] 25)):=Ba w _;obtain⟨W0,W⟩:=ex (w.alloc (B #[D r la s] 25));have n0:H W0 w.heap.size 25 (D r la s):=by rw[<-W];exact BI w _ _
 rw[W]at d;have Ql:=Ja W;have Qe:=Ja n0;have u:=n0.cell;obtain⟨HA,Qk,Qp,Qh⟩:=Dt d (λ(V:E) (hB:Bl W0 V)=>P2 (.agg #[D r la s]) p V ((h.below d).below hB) l.sqs aj) (λ(V:E) (hB:Bl W0 V) (y:G) (hy:Je V y (Jb p))=>cD (.agg #[D r la s]) y p (Jb p) V ((h.below d).below hB) hy) λ(V:E) (Bp Bq:Nat) (r qa:Option Addr) (pl s ql qc:Nat) (c:Db V Bp r pl s) (f:Db V Bq qa ql qc) (k:Je V (.agg #[D r pl s]) p) (o:Je V (.agg #[D qa ql qc]) (Jb p))=>cE K Bp Bq r qa pl s ql qc p (Jb p) V l.ch c f k o;obtain⟨q,P,af,R⟩:=l.last;obtain⟨tq,cq,lq,q0⟩:=l.mem q af;have Qn:=Ja λ(V:E) (a:List Rat) (x y:G) (ha:a∈XS p (Jb p)) (hx:Je V x a) (hy:Je V y q)=>bK (DX K p (Jb p)) (DX K p (Jb p)) x y a q V hx hy (l.mem a ha).2.1 cq (l.mem a ha).1 tq q0 (l.fit (l.mem a ha).2.2.1);have T:XS p (Jb p)≠[]:=λe=>by rw[e]at P;cases P
 have Qi:(XS p (Jb p)).length<=1000000000:=by
  have c:∀(n:Nat) (a b:List Rat),(EJ n a b).length<=n+1:=λn=>by
   induction n with
   |zero=>intro a b;exact Aa _
   |succ n ih=>
    intro a b;rw[EJ];split
    . simp
    . have:=ih b (YK a b);simp only[Ae];omega
  have f:=c (JE (Jb p)).length (JE p) (JE (Jb p));have k:=J0 l.ch.tq;have o:=l.ch.ln;show(EJ _ _ _).length<=_;omega
 obtain⟨C,hC⟩:=ex (XS p (Jb p));obtain⟨S,hS⟩:=ex (Ju p);rw[hC]at P af R T Qi Qh Qn;rw[hS]at R ⊢;have Qj:S.length=C.length:=by rw[R,C5]
 obtain⟨Qs,Qu,Qm⟩:=Dd (show ∀j (N:j<C.length),S.getD j []=Js C[j] q from λj N=>by rw[R];simp[List.getD,N]) T λj (N:j<C.length)=>(⟨by simp[List.getD,N],FA N⟩:C.getD j []=C[j]/\C[j]∈C);rw[Qj];have Qr:0<C.length:=Af.2 T;have Qa:=Ja (show C.getD (C.length-1) []=q by
  rw[List.getLast?_eq_getElem?]at P;rw[List.getD,P];rfl)
 obtain⟨n,hn⟩:=ex (C.length);have Qq:=Ja hn;rw[hn]at Qi Qr Qa ⊢;obtain⟨m,hm⟩:=ex (n-1:Nat);have aq:(n:Int)-1=(m:Int):=Y
 have aw:IntKind.i64.wrap (m:Int)=(m:Int):=by rw[BU];omega
 have ax:(m:Int)<(n:Int):=Y
 have Qt:m<n:=Y
 have ay:(n:Int)<=1000000000:=Y
 rw[hm]at Qa;clear h l aj d W n0 P af R tq cq lq q0 T hC hS Qj hn Qi hm;go_enter Tryz.func105,Tryz.ntmps105
 go_upto_region 1 with fail
 rw[Ql.o];clear Ql;have hq:Bl W0 W0.drew:=(BE _ W0).drew;go_region_held3 (λw'=>w'.cell? ⟨w.heap.size,0,none⟩=some (D r la s)) (first|(with_reducible exact u)|(go_keep;done))
  (first
   |(go_at_call 38;refine(Qk.o _ hq).mono ?_;clear Qk;rintro e w5 ⟨v5,rfl,g5,ad⟩;have hq:=Bt hq ad;clear u;have u:=(boxed_below Qe.o hq).cell)
   |(go_at_call 87;refine(Qp.o _ hq _ g5).mono ?_;clear Qp;rintro e w6 ⟨Bp,Bq,xa,xl,xc,ya,yl,yc,rfl,k1,k2,k3,k4,ae⟩;clear g5;have hq:=Bt hq ae;clear u;have u:=(boxed_below Qe.o hq).cell)
   |(go_at_call 153;refine(Qh.o _ _ _ _ _ _ _ _ _ k1 k2 k3 k4).mono ?_;clear Qh k1 k2 k3 k4;rintro e t ⟨v7,cs,rfl,o7,p7,ah⟩;have hq:=Bt hq ah;clear u;have u:=(boxed_below Qe.o hq).cell;obtain⟨g,cap,rfl,hg,ai,ak,hE⟩:=E9.els o7 p7 Qu.o;clear o7 p7))
 rw[Qq.o]at hE ai ⊢;obtain⟨z,I,A,e8,r8⟩:=hE.cell Qt;rw[Qa.o]at r8;have U:Bl t (t.alloc (B #[D z I A] 25)):=Ba t _;have Qf:Bl w t:=Bt HA.o hq;have Qv:=hE.lt;have Qo:w.heap.size<=g:=by
  have c:=HA.o.size;have f:W0.heap.size<=w5.heap.size:=ad.size;have k:=ae.size;omega
 have SR:Hid (LZ w (t.alloc (B #[D z I A] 25)) g n 0 t.heap.size z I A C S q):=Ja ⟨(hE.below U).cong λj _=>rfl,BI t _ _,⟨_,rfl,r8.below U⟩,Bt Qf U,Y,Qo⟩;clear hE r8 U Qf Qv Qo ad ae ah u;go_wp2;go_loopw [20] (λiv wr=>∃i:Nat,i<=n/\iv=.int .i64 (i:Int)/\Hid (LZ w wr g n i t.heap.size z I A C S q)) λiv _=>n-(intOf iv).toNat
 case atStart=>exact⟨0,AV _,rfl,SR⟩
 case round=>
  obtain⟨i,hi,rfl,HR⟩:=hrel;clear SR;by_cases X:i<n
  . have ap:(i:Int)<(n:Int):=Y
    have Qg:i<C.length:=by have:=Qq.o;omega
    obtain⟨c,f,k,o,L,M⟩:=HR.o;obtain⟨ya,yl,yc,e1,r1⟩:=c.cell X;rw[BB Y,(Qm.o i Qg).1]at r1;have d:Bl wr (wr.alloc (B #[D ya yl yc] 25)):=Ba wr _;have HC:=Ja (Qn.o _ C[i] (.agg #[D ya yl yc]) (.agg #[D z I A]) (Qm.o i Qg).2 ⟨_,rfl,r1.below d⟩ (k.below d));rw[<-Qs.o i Qg]at HC;have HI:=Ja (show LZ w (wr.alloc (B #[D ya yl yc] 25)) g n i t.heap.size z I A C S q from⟨c.below d,f.below d,k.below d,Bt o d,L,M⟩);have e2:=(f.below d).cell;clear c f k o L M r1 d HR;go_wp2_with(go_at_call 139;refine HC.o.mono ?_;clear HC;rintro e w9 ⟨u9,v9,rfl,g9,k9,Q⟩;obtain⟨a9,l9,c9,rfl⟩:=g9.form;obtain⟨am,az,an,rfl⟩:=k9.form;obtain⟨c,f,k,o,L,M⟩:=HI.o;have c:=c.below Q;obtain⟨xa,xl,xc,x0,_⟩:=c.cell X;have x1:=c.frozen i;have HE:=Ja (show LZ w (w9.setCell ⟨g,i,none⟩ (D a9 l9 c9)) g n (i+1) t.heap.size z I A C S q from⟨(c.set X g9.row).cong λj _=>cI i j (S.getD · []) (C.getD · []),Bx.far (cs:=#[D z I A]) (f.below Q) (p:=⟨g,i,none⟩) L _,c.setK X (k.below Q),(Bt o Q).setCell (p:=⟨g,i,none⟩) M _,L,M⟩);clear c f k o L M g9 k9 Q HI)
    go_roundw
    case rel=>exact⟨i+1,Y,by go_num,HE⟩
    case measure=>simp[intOf];omega
  . obtain rfl:i=n:=Y
    go_wp2;go_ret;obtain⟨c,f,k,o,L,M⟩:=HR.o;exact⟨g,cap,rfl,ai,ak,c.cong λj N=>BH N,o⟩
theorem take_snoc{α:Type}{L:List α}{k:Nat}(h:k<L.length):∃r,L[k]=r/\L.take k++[r] <+: L/\L.take k++[r]=L.take (k+1):=
 ⟨_,rfl,by rw[List.take_append_getElem h];exact List.take_prefix _ _,List.take_append_getElem h⟩
theorem cK(w0:E)(L:List (List Rat))(f g cap:Nat)(P:H w0 f 120 (D (some ⟨g,0,none⟩) L.length cap))(hE:D9 w0 g L.length λj=>L.getD j [])(hl:L.length<=1000000000)(hc:L.length<=cap):
 Gp 152 #[C (some ⟨f,0,none⟩)] w0 L LE:=by
 intro n l G W0 M z ad A N x;have c1:W0.cell? ⟨f,0,none⟩=some (D (some ⟨g,0,none⟩) L.length cap):=(boxed_below P M).cell;obtain⟨len,o⟩:=ex (L.length);obtain⟨m,S,X,T,W,V⟩:=I5 o hE z A N x;have ae:(len:Int)<=1000000000:=Y
 rw[o]at c1 hc;clear M z ad A N x P hE hl o;refine Bu Tryz.func152 rfl trivial ?_ rfl;simp only[Tryz.ntmps152,Ar,Ae,Az,Nat.reduceAdd,Nat.reduceSub,At,Au,AH,Ay,Aq,AA];gi_wp2;gi_loopw [7] (λq wr=>∃k:Nat,k<=len/\q=.int .i64 (k:Int)/\Hid (G (L.take k) wr/\W0.heap.size<=wr.heap.size)) λq _=>len-(intOf q).toNat
 case atStart=>exact⟨0,AV _,rfl,Ja ⟨V.o,Aa _⟩⟩
 case round=>
  obtain⟨k,hk,rfl,b⟩:=hrel;clear c1;by_cases af:k<len
  . have ah:(k:Int)<(len:Int):=Y
    obtain⟨a,l1,c,e0,p⟩:=(S.o.below (T.o _ _ b.o.1)).cell (j:=k) (by have:=m.o;omega);have d:Bl wr (wr.alloc (B #[D a l1 c] 25)):=Ba wr _;have i:k<L.length:=by have:=m.o;omega
    have v:L.getD k []=L[k]:=by simp[List.getD,i]
    obtain⟨r,w,Q,K⟩:=take_snoc i;rw[v,w]at p;obtain⟨fn,tmps,assign,body,hy,I⟩:=W.o (n-1) (L.take k) r (.agg #[D a l1 c]) _ (X.o _ _ _ b.o.1 d) ⟨_,rfl,p.below d⟩ Q (An b.o.2 d.size);have t:=Ja K;have s:=Ja (An b.o.2 d.size);clear p d v w Q K i b;gi_wp2;refine⟨λh=>by simp[Fence.wide]at h,I.mono ?_⟩;rintro e u ⟨rfl,y,R,_⟩;have U:=Ja (show G (L.take (k+1)) u/\W0.heap.size<=u.heap.size from⟨by rw[<-t.o];exact y,An s.o R⟩);clear y R hy I t s e0;gi_wp2;go_roundw
    case rel=>exact⟨k+1,Y,by go_num,U⟩
    case measure=>simp[intOf];omega
  . obtain rfl:k=len:=Y
    gi_wp2;go_end0;exact⟨⟨_,rfl⟩,by have h:=b.o.1;rw[<-m.o,List.take_length]at h;exact h⟩
theorem cL(w0:E)(p:List Rat)(j:Nat)(d:Option Addr)(i g:Nat)(v:H w0 j 25 (D d i g))(hp:Je w0 (.agg #[D d i g]) p)(hl:p.length<=1000000000):
 Gp 117 #[C (some ⟨j,0,none⟩)] w0 p.reverse Ms:=by
 intro n l G W0 t S ah T X Q;have c1:W0.cell? ⟨j,0,none⟩=some (D d i g):=(boxed_below v t).cell;have q:=Ja (J2 _ p W0 (hp.below t));obtain⟨len,w⟩:=ex (p.length);have aj:(len:Int)<=1000000000:=Y
 have I:=Ja w;have Qk:=Ja λ(V:E) (h:Bl w0 V)=>(boxed_below v h).cell;have Qi:=Ja (λ(V:E) (h:Bl w0 V) (k:Nat) (hk:k<len) (r:Rat) (hr:p.reverse[k]?=some r)=>show Calls F 74 #[.agg #[D d i g],.int .i64 ((len:Int)-1-k)] V λe w'=>∃u,e=.returned u/\Jh w' u r/\Bl V w' by
  have P:=Gn _ p ((len:Int)-1-k) V (hp.below h);rw[BB Y]at P;have e1:r=cf p ((len:Int)-1-k).toNat:=by
   rw[List.getElem?_reverse Y]at hr;have h2:((len:Int)-1-k).toNat=p.length-1-k:=Y
   rw[h2,cf,hr];rfl
  rw[e1];exact P)
 rw[w]at q;obtain⟨L,Qh,Qm,A⟩:=Dt S T X Q;clear t S ah T X Q v hp hl w;refine Bu Tryz.func117 rfl trivial ?_ rfl;simp only[Tryz.ntmps117,Ar,Ae,Az,Nat.reduceAdd,Nat.reduceSub,At,Au,AH,Ay,Aq,AA];gi_wp2_with(refine⟨trivial,λh=>by simp[Fence.wide]at h,?_⟩;gi_at_call 30;refine((BJ (n:=_)).2 q.o).mono ?_;clear q;rintro e w4 ⟨rfl,a⟩)
 have K:=Ja (L.o _ _ _ A.o a);have z:=Ja a.size;clear a A c1;gi_loopw [3] (λx wr=>∃k:Nat,k<=len/\x=.int .i64 ((len:Int)-1-k)/\Hid (G (p.reverse.take k) wr/\W0.heap.size<=wr.heap.size)) λx _=>(intOf x+1).toNat
 case atStart=>exact⟨0,AV _,Z,Ja ⟨K.o,z.o⟩⟩
 case round=>
  obtain⟨k,hk,rfl,b⟩:=hrel;clear K z;by_cases ai:k<len
  . have y:=Ja (Qh.o _ _ b.o.1);have e0:=Qk.o wr y.o;have s:k<p.reverse.length:=by rw[List.length_reverse];have:=I.o;omega
    obtain⟨r,N,ad,W⟩:=take_snoc s;have o:=Ja (Qi.o wr y.o k ai r (by rw[<-N];exact Am s));obtain⟨m,hm⟩:=ex (len-1-k:Nat);have c:(len:Int)-1-k=(m:Int):=Y
    have HM:=Ja hm;have ak:(m:Int)<=1000000000:=Y
    rw[c]at o ⊢;have HT:=Ja W;have Ql:=Ja ad;clear hm c W ad N s;gi_wp2_with(refine⟨trivial,λh=>by simp[Fence.wide]at h,?_⟩;gi_at_call 74;refine((BJ (n:=_)).2 o.o).mono ?_;clear o;rintro e w4 ⟨u4,rfl,af,a⟩;obtain⟨fn,tmps,assign,body,hy,U⟩:=Qm.o (n-1) (p.reverse.take k) r u4 w4 (L.o _ _ _ b.o.1 a) af Ql.o (An b.o.2 a.size))
    refine⟨λh=>by simp[Fence.wide]at h,U.mono ?_⟩;rintro e M ⟨rfl,R,ae,_⟩;have Qj:=Ja (show G (p.reverse.take (k+1)) M/\W0.heap.size<=M.heap.size from⟨by rw[<-HT.o];exact R,An b.o.2 (An a.size ae)⟩);clear R ae hy U af a b;gi_wp2;go_roundw
    case rel=>exact⟨k+1,Y,by(congr 1;have:=HM.o;omega),Qj⟩
    case measure=>simp[intOf]
  . obtain rfl:k=len:=Y
    have c:(k:Int)-1-k=-1:=Y
    rw[c];gi_wp2;refine⟨trivial,?_⟩;gi_wp2;all_goals(refine⟨λf h=>(by cases h),?_⟩;gi_wp2;go_end0;exact⟨⟨_,rfl⟩,by have h:=b.o.1;rw[Ac (by rw[List.length_reverse,I.o];exact Aa _)]at h;exact h⟩)
end M3
section
open Go.RowKit Go.Shelf
variable{A X:Nat}{x:Rat}
theorem RD(d:DT X x):∀l:List Rat,(∀i,DT A (cf l i))->DT (l.length*(A+X+1)+1) (ev l x):=by
 intro l;induction l with
 |nil=>intro _;exact DT.zero _ Z
 |cons c t e=>
  intro h;have b:=e (λi=>by have:=h (i+1);rwa[J1]at this);have a:=h 0;rw[YL]at a;rw[ev,Ae,AD];exact(a.add2 (d.mul2 b)).mono Y
theorem cM{ps:List Rat}(b:DT X x)(hp:∀i,DT A (cf ps i))(d:ps.length*(A+X+1)+1+X<=1000000000):M3.KD ps x:=λn=>by
 have a:=RD b (ps.drop n) (λi=>by
  have e:cf (ps.drop n) i=cf ps (n+i):=by simp[cf]
  rw[e];exact hp _)
 have c:(ps.drop n).length*(A+X+1)<=ps.length*(A+X+1):=Ah _ (by rw[AX];omega);exact⟨Sq.of a Y,Sq.of (a.mul2 b) Y⟩
end
theorem cN(l:List (List Rat)):l.map EZ=(Ec l).map Dh:=by simp[Ec,EZ,Function.comp_def]
theorem cO(n:Nat):((-1:Rat))^n=if n%2=0 then 1 else -1:=by
 induction n with
 |zero=>rfl
 |succ n a=>
  rw[Rat.pow_succ,a];by_cases h:n%2=0
  . rw[BH h,BB Y];grind
  . rw[BB h,BH Y];grind
theorem cP(l:List (List Rat))(h:∀p∈l,p≠[]):l.map GU=(X7 l).map Dh:=by
 unfold X7;rw[List.map_map];refine List.map_congr_left λp hp=>?_;have b:=Af.2 (h p hp);show GU p=Dh ((-1)^(p.length-1)*cf p (p.length-1));unfold GU EZ;rw[cO];by_cases a:p.length%2=0
 . rw[BH a,BB Y,<-WH];congr 1;grind
 . rw[BB a,BH Y,CG]
namespace M3
open Go.RowKit Go.Shelf
attribute [local go_sem] Oper.semAt_some
variable{pb:Array G}{f:List Rat->Int}{pf:Nat}
theorem cQ(a:Option Addr)(l c:Nat)(w:E):
 Calls F 104 #[D a l c] w λe b=>∃B,e=.returned (.func (.func 152) #[] #[C (some ⟨B,0,none⟩)])/\H b B 120 (D a l c)/\Bl w b:=by
 go_enter Tryz.func104,Tryz.ntmps104
 go_wp2_with fail
 go_ret;exact⟨_,rfl,BI w _ _,Ba w _⟩
theorem cR(g p:Nat)(lb pb:Array G)(w:E):
 Calls F 106 #[.func (.func g) #[] lb,.func (.func p) #[] pb] w λe b=>∃d c,e=.returned (.func (.func 154) #[] #[C (some ⟨d,0,none⟩),C (some ⟨c,0,none⟩)])/\H b d 125 (.func (.func g) #[] lb)/\H b c 39 (.func (.func p) #[] pb)/\Bl w b:=by
 have f:Bl w ((w.alloc (B #[.func (.func g) #[] lb] 125)).alloc (B #[.func (.func p) #[] pb] 39)):=(Ba w _).alloc (by rw[Ax];omega) _;have a:=BI (w.alloc (B #[.func (.func g) #[] lb] 125)) 39 (.func (.func p) #[] pb);rw[Ax]at a;have j:=Ja f;have i:=Ja a;clear f a;go_enter Tryz.func106,Tryz.ntmps106
 go_wp2_with fail
 go_ret;exact⟨_,_,rfl,(BI w _ _).alloc _,i.o,j.o⟩
theorem cS(g p:Nat)(lb pb:Array G)(w:E):
 Calls F 55 #[.func (.func g) #[] lb,.func (.func p) #[] pb] w λe b=>∃d c,e=.returned (.func (.func 116) #[] #[C (some ⟨d,0,none⟩),C (some ⟨c,0,none⟩)])/\H b d 96 (.func (.func g) #[] lb)/\H b c 61 (.func (.func p) #[] pb)/\Bl w b:=by
 have f:Bl w ((w.alloc (B #[.func (.func g) #[] lb] 96)).alloc (B #[.func (.func p) #[] pb] 61)):=(Ba w _).alloc (by rw[Ax];omega) _;have a:=BI (w.alloc (B #[.func (.func g) #[] lb] 96)) 61 (.func (.func p) #[] pb);rw[Ax]at a;have j:=Ja f;have i:=Ja a;clear f a;go_enter Tryz.func55,Tryz.ntmps55
 go_wp2_with fail
 go_ret;exact⟨_,_,rfl,(BI w _ _).alloc _,i.o,j.o⟩
structure Tells(pf:Nat)(pb:Array Value)(w:World)(xs:List (List Rat))(f:List Rat->Int):Prop where
 plc:IV pf pb w xs LE f
 ent:∀args w,(callFunc pf args).run Tryz.prog w=.ok (.enter pf args) w
 sg:∀x∈xs,-1<=f x/\f x<=1
theorem IV.later{α:Type}{w b:E}{xs:List α}{a:E->G->α->Prop}{f:α->Int}(h:IV pf pb w xs a f)(d:Bl w b):IV pf pb b xs a f:=
 λW v x c e g=>h W v x (Bt d c) e g
theorem RE(L:List (List Rat))(b g cap c a:Nat)(w:E)(k:H w b 120 (D (some ⟨g,0,none⟩) L.length cap))(hE:D9 w g L.length λj=>L.getD j [])(hl:L.length<=1000000000)(m:L.length<=cap)(d:Tells pf pb w L f)(l:H w c 125 (.func (.func 152) #[] #[C (some ⟨b,0,none⟩)]))(i:H w a 39 (.func (.func pf) #[] pb)):
 Calls F 54 #[.func (.func 154) #[] #[C (some ⟨c,0,none⟩),C (some ⟨a,0,none⟩)]] w λe p=>e=.returned (.int .i64 (FZ (L.map f):Int))/\Bl w p:=
 Pc w (L.map f) (WJ w L f c a (cK w L b g cap k hE hl m) (Bj Tryz.func152 (by kernel_rfl) rfl) d.ent l i d.plc) (Bj Tryz.func154 (by kernel_rfl) rfl)
  (λs n=>by obtain⟨x,o,rfl⟩:=C3.1 n;exact d.sg x o) (by rw[C5];exact hl)
theorem SrOk.len{K:Nat}{p:List Rat}(d:SrOk K p):(Ju p).length<=1000000000/\0<(Ju p).length:=by
 obtain⟨g,e,_,c⟩:=d.last;rw[c,C5];have e:∀(n:Nat) (a b:List Rat),(EJ n a b).length<=n+1/\0<(EJ n a b).length:=λn=>by
  induction n with
  |zero=>intro a b;exact⟨Aa _,Nat.one_pos⟩
  |succ n f=>
   intro a b;rw[EJ];split
   . simp
   . have:=f b (YK a b);simp only[Ae];omega
 have c:=e (JE (Jb p)).length (JE p) (JE (Jb p));have i:=J0 d.ch.tq;have j:=d.ch.ln;refine⟨?_,c.2⟩;show(EJ _ _ _).length<=_;omega
theorem RH(K:Nat)(v:G)(p:List Rat)(w:E)(h:Je w v p)(N:SrOk K p)(aj:∀i,Sq (GM p i)){z:Nat}{y:Array G}{f2:List Rat->Int}(o:Tells pf pb w (Ju p) f)(q:Tells z y w (Ju p) f2):
 Calls F 46 #[v,.func (.func pf) #[] pb,.func (.func z) #[] y] w λe w'=>e=.returned (.int .i64 ((FZ ((Ju p).map f):Int)-(FZ ((Ju p).map f2):Int)))/\Bl w w':=by
 obtain⟨pa,la,pc,rfl⟩:=h.form;have d:Bl w (w.alloc (B #[D pa la pc] 25)):=Ba w _;obtain⟨W0,A⟩:=ex (w.alloc (B #[D pa la pc] 25));have n0:H W0 w.heap.size 25 (D pa la pc):=by rw[<-A];exact BI w _ _
 rw[A]at d;have Qh:=Ja A;have Qj:=Ja n0;have R:=n0.cell;have HA:=Ja d;obtain⟨m,hm⟩:=ex (p.length-1:Nat);have Qi:(p.length:Int)-1=(m:Int):=by have:=Af.2 N.p0;omega
 have P:=Ja λ(V:E) (a:Bl W0 V)=>J2 _ p V ((h.below d).below a);rw[Qi]at P;obtain⟨X,r,Q,T⟩:=Dt (λ(V:E) (a:Bl W0 V)=>cJ K _ p V ((h.below d).below a) N aj) N.len (λ(V:E) (a:Bl W0 V)=>(⟨o.plc.later (Bt d a),o.ent,o.sg⟩:Tells pf pb V (Ju p) f)) λ(V:E) (a:Bl W0 V)=>(⟨q.plc.later (Bt d a),q.ent,q.sg⟩:Tells z y V (Ju p) f2);obtain⟨S,hS⟩:=ex (Ju p);rw[hS]at X r Q T ⊢;have U:∀(g:List Rat->Int),Tells pf pb w S g\/Tells z y w S g->FZ (S.map g)<=1000000000:=λg M=>by
  have t:∀x∈S,-1<=g x/\g x<=1:=by rcases M with M|M<;>exact M.sg
  have u:=(Pa (S.map g) (0,0) (λs hs=>by obtain⟨x,hx,rfl⟩:=C3.1 hs;exact t x hx) DI).2;rw[C5]at u;have:=r.o.1;show(List.foldl Dn (0,0) (S.map g)).1<=_;omega
 rw[hS]at o q;have l1:=U f (Or.inl o);have l2:=U f2 (Or.inr q);obtain⟨n1,ae⟩:=ex (FZ (S.map f));obtain⟨n2,af⟩:=ex (FZ (S.map f2));rw[ae]at l1 ⊢;rw[af]at l2 ⊢;have Qg:=Ja λ(b g cap n l:Nat) (V:E) (a:Bl W0 V) (t:H V b 120 (D (some ⟨g,0,none⟩) S.length cap)) (u:D9 V g S.length λj=>S.getD j []) (h3:S.length<=cap) (h4:H V n 125 (.func (.func 152) #[] #[C (some ⟨b,0,none⟩)])) (h5:H V l 39 (.func (.func pf) #[] pb))=>RE S b g cap n l V t u r.o.1 h3 (Q.o V a) h4 h5;have W:=Ja λ(b g cap n l:Nat) (V:E) (a:Bl W0 V) (t:H V b 120 (D (some ⟨g,0,none⟩) S.length cap)) (u:D9 V g S.length λj=>S.getD j []) (h3:S.length<=cap) (h4:H V n 125 (.func (.func 152) #[] #[C (some ⟨b,0,none⟩)])) (h5:H V l 39 (.func (.func z) #[] y))=>RE S b g cap n l V t u r.o.1 h3 (T.o V a) h4 h5;rw[ae]at Qg;rw[af]at W;clear h N aj o q d A n0 hm Qi hS U ae af r Q T;go_enter Tryz.func46,Tryz.ntmps46
 go_upto_region 1 with fail
 rw[Qh.o];clear Qh;have hq:=BE W0.heap.size W0;go_upto_region 3 with(go_at_call 30;refine(P.o _ hq).mono ?_;clear P;rintro e w5 ⟨rfl,ak⟩;have hq:=Bt hq ak;clear R;have R:=(boxed_below Qj.o hq).cell)
 go_upto_region 4 with(first
  |(go_at_call 105;refine(X.o _ hq).mono ?_;clear X;rintro e w6 ⟨g,cap,rfl,ai,an,hE,am⟩;have hq:=Bt hq am;clear R)
  |(go_at_call 104;refine(cQ _ _ _ _).mono ?_;rintro e w7 ⟨b,rfl,c,ah⟩;have hq:=Bt hq ah;have hE:=hE.below ah))
 go_wp2_with(first
  |(go_at_call 106;refine(cR _ _ _ _ _).mono ?_;rintro e w8 ⟨n,l,rfl,L,I,ad⟩;have hq:=Bt hq ad;have hE:=hE.below ad;have c:=boxed_below c ad)
  |(go_at_call 54;refine(Qg.o _ _ _ _ _ _ hq c hE ai L I).mono ?_;clear Qg L I;rintro e w9 ⟨rfl,k⟩;have hq:=Bt hq k;have hE:=hE.below k;have c:=boxed_below c k)
  |(go_at_call 54;refine(W.o _ _ _ _ _ _ hq c hE ai L I).mono ?_;clear W L I;rintro e w9 ⟨rfl,k⟩;have hq:=Bt hq k;have hE:=hE.below k;have c:=boxed_below c k))
 go_ret;exact⟨rfl,Bt HA.o hq⟩
end M3
section
open Go.RowKit Go.Shelf
def ER(p:List Rat):Int:=if p=[]then -1 else(DO (X7 (Ju p)):Int)-(DO (Ec (Ju p)):Int)
def ES(p:List Rat)(x:Rat):Int:=if p=[]then -1 else(DO (X7 (Ju p)):Int)-(DO (JM (Ju p) x):Int)
structure CtOk(K X:Nat)(p:List Rat):Prop where
 ch:M3.ChOk K p (Jb p)
 fit:max p.length (Jb p).length*(DX K p (Jb p)+max p.length (Jb p).length*(DX K p (Jb p)+1)+1+X+1)+1+X<=1000000000
variable{p:List Rat}{K X:Nat}
theorem CtOk.sr(h:CtOk K X p)(p0:p≠[]):M3.SrOk K p:=⟨h.ch,p0⟩
theorem CtOk.sl(h:CtOk K X p)(i:Nat):Sq (GM p i):=by
 have a:=(show Cd K (Jb p)from h.ch.cq).smq i;unfold Jb at a;rw[Yd,IA]at a;exact Sq.of a h.ch.bd.2.1
theorem CtOk.row(h:CtOk K X p)(p0:p≠[]):∀y∈Ju p,Sqs y/\y≠[]/\y.length<=1000000000/\∀x,DT X x->M3.KD y x/\Sq (ev y x):=by
 intro y b;have l:=(Yo h.ch.tp p0 y b).2;obtain⟨g,_,r,e⟩:=(h.sr p0).last;rw[e]at b;obtain⟨a,q,rfl⟩:=C3.1 b;obtain⟨ta,ca,la,m⟩:=(h.sr p0).mem a q;obtain⟨s,c,z,o⟩:=(h.sr p0).mem g r;have j:=h.fit;obtain⟨n,f⟩:=ex (max p.length (Jb p).length);obtain⟨A,d⟩:=ex (DX K p (Jb p));rw[f,d]at j;rw[f]at la;rw[d]at ca c;have c1:=ca.quoG c s o;have t:a.length*(A+1)<=n*(A+1):=Ah _ la;have c2:Cd (A+n*(A+1)+1) (Js a g):=c1.mono Y;have l1:(Js a g).length<=a.length:=by
  unfold Js;refine An (Y3 _) ?_;rw[(YN _ _ _ _ _).1];omega
 have k:0<n:=by have:=Af.2 m;omega
 have u:1*(A+n*(A+1)+1+X+1)<=n*(A+n*(A+1)+1+X+1):=Ah _ k;have v:(Js a g).length*(A+n*(A+1)+1+X+1)<=n*(A+n*(A+1)+1+X+1):=Ah _ Y;have w:n*1<=n*(A+n*(A+1)+1+X+1):=Ao _ Y;refine⟨c2.sqs Y,l,Y,λx i=>⟨cM i c2.smq Y,Sq.of (RD i _ c2.smq) Y⟩⟩
namespace M3
attribute [local go_sem] Oper.semAt_some
variable{p:List Rat}{K X:Nat}
theorem RI(e:CtOk K X p)(p0:p≠[])(w:E):Tells 47 #[] w (Ju p) GU where
 plc:=λW v y _ d f=>by
  obtain⟨a,b,c,_⟩:=e.row p0 y f;have:=WM v y W d a b c;simpa using this
 ent:=Bj Tryz.func47 (by kernel_rfl) rfl
 sg:=λy _=>by
  have:=KF (cf y (y.length-1));unfold GU EZ;split<;>omega
theorem cT(d:CtOk K X p)(p0:p≠[])(w:E):Tells 48 #[] w (Ju p) EZ where
 plc:=λW v y _ c e=>by
  obtain⟨a,b,f,_⟩:=d.row p0 y e;have:=Pd v y W c a b;simpa using this
 ent:=Bj Tryz.func48 (by kernel_rfl) rfl
 sg:=λy _=>KF _
theorem cU(i:CtOk K X p)(p0:p≠[])(w:E){B:Nat}{s t:Bool}{a b:Option Addr}{l c k d:Nat}{x:Rat}(e:DT X x)(n:JL w B 37 (.bool s) (D a l c) (.bool t) (D b k d))(q:Jh w (.agg #[.bool s,D a l c,.bool t,D b k d]) x):Tells 112 #[C (some ⟨B,0,none⟩)] w (Ju p) (λy=>Dh (ev y x)) where
 plc:=λW v y g o r=>by
  obtain⟨j,u,z,f⟩:=i.row p0 y r;have m:X<=1000000000:=by have:=i.fit;omega
  have:=WN v y x B s t a b l c k d W o (n.below g) (q.below g) j (Sq.of e m) (f x e).1 (f x e).2;simpa using this
 ent:=Bj Tryz.func112 (by kernel_rfl) rfl
 sg:=λy _=>KF _
theorem RJ(tp:Jd p=p)(p0:p≠[]):FZ ((Ju p).map GU)=DO (X7 (Ju p)):=by
 rw[cP _ λy a=>(Yo tp p0 y a).2,LD]
theorem cV(l:List (List Rat)):FZ (l.map EZ)=DO (Ec l):=by rw[cN,LD]
theorem cW(l:List (List Rat))(x:Rat):FZ (l.map λy=>Dh (ev y x))=DO (JM l x):=by
 rw[<-LD];unfold JM;rw[List.map_map];rfl
theorem RK(v:G)(w:E)(h:Je w v [])(f f2:G):
 Calls F 46 #[v,f,f2] w λe j=>e=.returned (.int .i64 (-1))/\Bl w j:=by
 obtain⟨g,la,i,rfl⟩:=h.form;have b:Bl w (w.alloc (B #[D g la i] 25)):=Ba w _;have a:=Ja (J2 _ [] _ (h.below b));rw[show(([]:List Rat).length:Int)-1=-1 from rfl]at a;have c:=Ja b;clear h b;go_enter Tryz.func46,Tryz.ntmps46
 go_wp2_with(go_at_call 30;refine a.o.mono ?_;clear a;rintro e k ⟨rfl,d⟩)
 go_ret;exact⟨rfl,Bt c.o d⟩
theorem Im(K X:Nat)(v:G)(p:List Rat)(w:E)(h:Je w v p)(a:CtOk K X p):
 Calls F 13 #[v] w λe g=>e=.returned (.int .i64 (ER p))/\Bl w g:=by
 obtain⟨b,la,c,rfl⟩:=h.form;have d:Bl w (w.alloc (B #[D b la c] 25)):=Ba w _;have f:=Ja (show Calls F 46 #[.agg #[D b la c],.func (.func 47) #[] #[],.func (.func 48) #[] #[]] (w.alloc (B #[D b la c] 25)) λe g=>e=.returned (.int .i64 (ER p))/\Below (w.alloc (B #[D b la c] 25)).heap.size (w.alloc (B #[D b la c] 25)) g by
  unfold ER;by_cases p0:p=[]
  . rw[BH p0];rw[p0]at h;exact RK _ _ (h.below d) _ _
  . rw[BB p0];have i:=RH K _ p _ (h.below d) (a.sr p0) a.sl (RI a p0 _) (cT a p0 _);rw[RJ a.ch.tp p0,cV]at i;exact i)
 have k:=Ja d;obtain⟨n,j⟩:=ex (ER p);rw[j]at f ⊢;clear h a d j;go_enter Tryz.func13,Tryz.ntmps13
 go_wp2_with(go_at_call 46;refine f.o.mono ?_;clear f;rintro e m ⟨rfl,l⟩)
 go_ret;exact⟨rfl,Bt k.o l⟩
end M3
end
variable{a b p q u v w y:List Rat}
theorem cY(p:List Rat){B:Rat}(a:0<=B):∃K,0<K/\∀x y,Wi B x->Wi B y->x<=y->Wi (K*((y-x)*(y-x))) (ev p y-ev p x-(y-x)*dv p x):=by
 induction p with
 |nil=>exact⟨1,DI,λx y _ _ _=>by
  have:=El (y-x);constructor<;>simp[ev,dv]<;>grind⟩
 |cons c t m=>
  obtain⟨K,j,h⟩:=m;obtain⟨D,hD,k⟩:=XB (Jb t) a;refine⟨B*K+D+1,by have:=Rat.mul_nonneg a (Rat.le_of_lt j);grind,λx y d f l=>?_⟩;have n:=El (y-x);have g:Wi ((y-x)*(y-x)) ((y-x)*(y-x)):=⟨by grind,by grind⟩;have b:=k x d;rw[Xr]at b;have i:=(f.mul (h x y d f l)).add (g.mul b);have e:ev (c::t) y-ev (c::t) x-(y-x)*dv (c::t) x=y*(ev t y-ev t x-(y-x)*dv t x)+(y-x)*(y-x)*dv t x:=by
   rw[Iv,Iv,show dv (c::t) x=ev t x+x*dv t x from rfl];grind
  rw[e];refine i.mono ?_;grind
def Xv(p:List Rat)(x y:Rat):Nat:=if ev p x≠0/\ev p x*ev p y<=0 then 1 else 0
theorem Io{x y:Rat}(h:Dg p x y):Xv p x y=0:=by
 unfold Xv Dg at *;rw[BB λq=>by have:=q.2;grind]
theorem cg{B k:Rat}(i:0<=B)(f:0<k)(s:Sh B λx z=>¬Dg w x z->k<=ev y x*ev (Jb w) x/\k<=ev y z*ev (Jb w) z):Sh B λx z=>¬Dg w x z->x<z->0<ev (Jb w) x*(ev w z-ev w x):=by
 obtain⟨c,n,M⟩:=XB y i;obtain⟨D,U,hD⟩:=XB (Jb w) i;obtain⟨K,V,L⟩:=cY w i;obtain⟨e,o,N⟩:=small (K:=(c*c)*(D*K)) (r:=k*k/2) (Rat.le_of_lt (Rat.mul_pos (Rat.mul_pos n n) (Rat.mul_pos U V))) (by have:=Rat.mul_pos f f;grind);have W:Sh B λx z=>z-x<=e:=⟨e,o,λ_ _ _ _ _ h=>h⟩;refine(s.and W).mono λx z j S R ⟨p,l⟩ P ad=>?_;obtain⟨X,_⟩:=p P;have g:=L x z j S R;rw[<-Xr]at g;have A:=M x j;have I:=hD x j;generalize ev (Jb w) x=d at *;generalize ev y x=v at *;generalize ev w z-ev w x=t at *;obtain⟨u,Q⟩:=ex (z-x);rw[Q]at l g;have u0:0<u:=by grind
 have h7:k*k<=(c*c)*(d*d):=by
  have m:=Rat.mul_nonneg (a:=v*d-k) (b:=v*d+k) (by grind) (by grind);have T:=Rat.mul_nonneg (a:=c*c-v*v) (b:=d*d) (by have:=Lu A;grind) (El d);grind
 have h8:u*(d*d)-(D*K)*(u*u)<=d*t:=by
  have m:=(I.mul g).1;grind
 have h9:=N u l;have hp:0<(c*c)*(d*t):=by
  have m:=Rat.mul_nonneg (a:=c*c) (b:=d*t-(u*(d*d)-(D*K)*(u*u))) (El c) (by grind);have T:=Rat.mul_nonneg (a:=u) (b:=(c*c)*(d*d)-k*k) (by grind) (by grind);have i3:=Rat.mul_nonneg (a:=u) (b:=k*k/2-(c*c)*(D*K)*u) (by grind) (by grind);have i4:=Rat.mul_pos u0 (Rat.mul_pos f f);grind
 rcases Yt (d*t) 0 with q|q
 . have:=Rat.mul_nonneg (a:=c*c) (b:=-(d*t)) (El c) (by grind);grind
 . rcases Rat.le_iff_lt_or_eq.1 q with q|q
   . exact q
   . rw[<-q]at hp;grind
theorem cx{R:List Rat}(h:Yun R w y){B:Rat}(a:0<=B):Sh B λx z=>¬Dg w x z->x<z->0<ev (Jb w) x*(ev w z-ev w x):=by
 obtain⟨k,b,s⟩:=QW _ _ _ _ (Aa _) h a;exact cg a b s
theorem Nk{a b:Rat}(h:0<(a*a)*b):0<b:=by
 rcases Yt b 0 with q|q
 . have:=Rat.mul_nonneg (a:=a*a) (b:=-b) (El a) (by grind);grind
 . rcases Rat.le_iff_lt_or_eq.1 q with q|q
   . exact q
   . rw[<-q]at h;grind
theorem dA{a b u v:Rat}(c:0<a*(v-u))(i:0<b*(v-u))(e:u*v<=0):
 (if u*a<0 then 1 else 0)=(if v*b<0 then 1 else 0)+(if u≠0/\u*v<=0 then 1 else 0:Nat):=by
 by_cases u0:u=0
 . subst u0;rw[BB (by grind),BB (by grind),BB Z]
 . have f:u*a<0:=by
    rcases Yt 0 (u*a)with q|q
    . exfalso
      have d:=(Ya c).1;have q:0<u*a:=by
       rcases Rat.le_iff_lt_or_eq.1 q with q|q
       . exact q
       . rcases Cj.1 q.symm with q|q
         . exact absurd q u0
         . exact absurd q d
      have:=Rat.mul_pos q (show 0<v*a by grind);have:=Nk (a:=a) (b:=u*v) (by grind);grind
    . rcases Rat.le_iff_lt_or_eq.1 q with q|q
      . exact q
      . rcases Cj.1 q with q|q
        . exact absurd q u0
        . exact absurd q (Ya c).1
   have g:¬v*b<0:=λq=>by
    have:=Rat.mul_pos (a:=-(v*b)) (b:=-(u*b)) (by grind) (by grind);have:=Nk (a:=b) (b:=u*v) (by grind);grind
   rw[BH f,BB g,BH ⟨u0,e⟩]
theorem dB{f1:List Rat}{n:Nat}{d:List (List Rat)}(a:Ey n w b=w::f1::d):b≠[]/\f1=Ym b:=by
 cases n with
 |zero=>
  have c:[w]=w::f1::d:=a;exact absurd (List.cons.inj c).2 Z
 |succ n=>
  by_cases w0:b=[]
  . rw[Ey,BH w0]at a;exact absurd (List.cons.inj a).2 Z
  . rw[Ey,BB w0]at a;have c:=(List.cons.inj a).2;obtain⟨t,e⟩:=KZ n (Ym b) (DP (-1) (JH w (Ym b)));rw[e]at c;exact⟨w0,(List.cons.inj c).1.symm⟩
theorem XV(tp:Jd p=p)(p0:p≠[]){B:Rat}(j:0<=B):Sh B λx z=>DO (JM (YQ p) x)=DO (JM (YQ p) z)+Xv (DK p) x z:=by
 have d:Yun (Jz p) (DK p) (Hz p):=Yun.start (Xe p) (Ig tp p0) (Ih tp);have n:=Ng _ _ _ _ (Aa _) d;have l:=RC _ (DK p) (Jb (DK p)) (Aa _) d.tw (JF _) n;refine((l.gd j).and (cx d j)).mono λx z _ _ A ⟨b,y⟩=>?_;show DO (JM (YQ p) x)=DO (JM (YQ p) z)+Xv (DK p) x z;obtain⟨m,f⟩:=KZ (Jb (DK p)).length (DK p) (Jb (DK p));unfold YQ;rw[f]at b ⊢;by_cases st:Dg (DK p) x z
 . rw[Io st,b.stay st];rfl
 . cases m with
   |nil=>exact absurd b.o st
   |cons f1 K=>
    obtain⟨w0,k⟩:=dB f;have o:=Nh (JF (DK p)) w0;obtain⟨c,e⟩:∃c,1/Xi (cf (Jb (DK p)) ((Jb (DK p)).length-1))=c:=⟨_,rfl⟩;rw[e]at o;have t:ev f1 x=ev (Jb (DK p)) x*c:=by rw[k,<-e];exact JJ _ _ _
    have g:=(b.adj).resolve_left st;obtain⟨L,M⟩:=Ya g;have sm:=b.tail.same _ K f1 (Aa _) g;rw[JZ,JZ,JZ,JZ,IC L,IC M,sm];clear sm f l n d b k e w0;have r:ev (DK p) x*ev (DK p) z<=0:=Rat.not_lt.1 st;rcases Rat.le_iff_lt_or_eq.1 A with w|v
    . have i:0<ev f1 x*(ev (DK p) z-ev (DK p) x):=by
       rw[t];have:=Rat.mul_pos (y st w) o;grind
      have s:0<ev f1 z*(ev (DK p) z-ev (DK p) x):=Nk (a:=ev f1 x) (by
       have:=Rat.mul_pos (show 0<ev f1 x*ev f1 z from g) i;grind)
      have:=dA i s r;unfold Xv;rw[this];omega
    . subst v;have u0:ev (DK p) x=0:=by
       have u:=El (ev (DK p) x);rcases Cj.1 (Rat.le_antisymm r u)with q|q<;>exact q
      have I:Xv (DK p) x x=0:=by
       unfold Xv;exact BB λq=>q.1 u0
      rw[I];omega
theorem Nl(h:DS u v){B:Rat}(i:0<=B):Sh B λx z=>Xv (Jm u v) x z=Xv u x z+Xv v x z:=by
 obtain⟨s,t,w⟩:=h;obtain⟨S,k,o⟩:=XB s i;obtain⟨T,l,p⟩:=XB t i;have d:∀ {r K:Rat},0<K->K*(r/K)=r:=λI=>by rw[CI,Ap (by grind)]
 refine((Ge u i (YE Gg k)).and (Ge v i (YE Gg l))).mono λx z j _ _ ⟨m,n⟩=>?_;have e:∀y,ev (Jm u v) y=ev u y*ev v y:=λy=>Jg _ _ _;by_cases g:Dg u x z
 . by_cases c:Dg v x z
   . have:Dg (Jm u v) x z:=by
      unfold Dg at *;rw[e,e];have:=Rat.mul_pos g c;grind
     rw[Io this,Io g,Io c]
   . rw[Io g,Ce];unfold Xv Dg at *;rw[e,e];obtain⟨u1,u2⟩:=Ya g;by_cases q:ev v x≠0/\ev v x*ev v z<=0
     . rw[BH q,BH ⟨λf=>by rcases Cj.1 f with f|f;exact u1 f;exact q.1 f,by have:=Rat.mul_nonneg (a:=ev u x*ev u z) (b:=-(ev v x*ev v z)) (by grind) (by grind);grind⟩]
     . rw[BB q,BB];rintro⟨f1,f2⟩;refine q ⟨λf=>f1 (by rw[f];grind),?_⟩;exact Rat.not_lt.1 c
 . have c:Dg v x z:=Classical.byContradiction λc=>by
    have L:=Lt (w x) (o x j) (m g).1 (by rw[d k];exact Rat.le_refl);have A:=((p x j).mul (n c).1).2;rw[d l]at A;grind
   rw[Io c,Cn];unfold Xv Dg at *;rw[e,e];obtain⟨u1,u2⟩:=Ya c;by_cases q:ev u x≠0/\ev u x*ev u z<=0
   . rw[BH q,BH ⟨λf=>by rcases Cj.1 f with f|f;exact q.1 f;exact u1 f,by have:=Rat.mul_nonneg (a:=ev v x*ev v z) (b:=-(ev u x*ev u z)) (by grind) (by grind);grind⟩]
   . rw[BB q,BB];rintro⟨f1,f2⟩;refine q ⟨λf=>f1 (by rw[f];grind),?_⟩;exact Rat.not_lt.1 g
theorem DS.of_unit(h:Dv a [1])(c:List Rat):DS a c:=by
 obtain⟨d,b⟩:=h;refine⟨d,[],λx=>?_⟩;have:=b x;rw[Jy]at this;simp[ev];grind
theorem DS.mul_left{c:List Rat}(h:DS a c)(d:DS b c):DS (Jm a b) c:=(h.symm.mul d.symm).symm
theorem dC:∀(n:Nat) (R w y:List Rat),R.length<=n->Yun R w y->∀c,DS w c->DS R c:=by
 intro n;induction n with
 |zero=>intro R w y k h;exact absurd (AM.1 Y) h.R0
 |succ n l=>
  intro R w y k h c e;by_cases hl:w.length<=1
  . obtain⟨d,j⟩:=KU h.tw h.w0 hl;refine DS.of_unit (NS h.tR h.R0 ⟨Jm d y,λx=>?_⟩) c;have o:=h.eq x;have a:=j x;rw[Jy]at a;rw[Jg]
    have:ev (Jb R) x=(ev w x*ev d x)*ev (Jb R) x:=by rw[<-a,CG]
    rw[this];grind
  . obtain⟨_,_,a,b,_,g⟩:=h.step;have m:(Js R w).length<=n:=by
     have:=JG h.tw a.tR h.w0 a.R0;rw[<-b]at this;omega
    have f:Dv (Js w (Jr w (Yl y (Jb w)))) w:=⟨Jr w (Yl y (Jb w)),λx=>by
     have:=Jg (Jr w (Yl y (Jb w))) (Js w (Jr w (Yl y (Jb w)))) x;rw[<-g]at this;rw[this];grind⟩
    have i:=l _ _ _ m a c (e.of_dv f);rw[b];exact e.mul_left i
def Dy(u:List Rat):Prop:=DS u (Jb u)
theorem Dy.parts(h:Dy (Jm a b)):DS a b:=by
 obtain⟨u,v,e⟩:=h;refine⟨Xw (Jm u b) (Jm v (Jb b)),Jm v (Jb a),λx=>?_⟩;have c:=e x;have d:=Yc a b x;rw[Jg]at c;rw[d]at c;rw[YA,Jg,Jg,Jg];grind
theorem Dy.of_dv(h:Dy b)(tb:Jd b=b)(i:Dv a b):Dy a:=by
 obtain⟨c,_,e⟩:=i.some tb;obtain⟨u,v,d⟩:=h;rw[e]at d;refine⟨Xw (Jm u c) (Jm v (Jb c)),Jm v c,λx=>?_⟩;have f:=d x;have g:=Yc a c x;rw[Jg,g]at f;rw[YA,Jg,Jg,Jg];grind
theorem Dy.mul{a b:List Rat}(e:Dy a)(f:Dy b)(h:DS a b):Dy (Jm a b):=by
 have c:=Yc a b;have c1:DS a (Jb (Jm a b)):=(DS.mul e h).shift (d:=Jm [-1] (Jb b)) λx=>by
  rw[Jg,Jg,Jy,c];grind
 have c2:DS b (Jb (Jm a b)):=(h.symm.mul f).shift (d:=Jm [-1] (Jb a)) λx=>by
  rw[Jg,Jg,Jy,c];grind
 exact c1.mul_left c2
theorem Dy.dv(j:Jd u=u)(l:Jd v=v)(U:v≠[])(S:Dy v)(h:∀c,DS u c->DS v c):Dv v u:=by
 have n:=YM j l (Or.inr U);have z:=JO u v;obtain⟨o,p,s,t,w⟩:=YB j l;obtain⟨d,R⟩:=ex (Jr u v);rw[R]at n z o p w;have f:=(JP z n p).2;obtain⟨e,y⟩:=ex (Js v d);rw[y]at f;have M:v=Jm d e:=XA l (JY _ _) λx=>by rw[Jg,f]
 have K:DS d e:=Dy.parts (by rw[<-M];exact S);have L:DS u e:=by
  obtain⟨a,b,Q⟩:=K;have T:Jd e=e:=by rw[<-y];exact Yq _ _
  obtain⟨f1,f2,m,k,f3⟩:=YB j T;have N:Dv (Jr u e) d:=f1.comb (f2.mul' d) s t λx=>by
   rw[w,Jg,f]
  have P:Dv (Jr u e) [1]:=N.comb f2 a b λx=>by rw[Jy,Q]
  obtain⟨r,i⟩:=P;refine⟨Jm r m,Jm r k,λx=>?_⟩;have g:=i x;rw[Jy,f3]at g;rw[Jg,Jg];grind
 have A:=h e L;have I:DS e e:=A.of_dv ⟨d,λx=>by rw[f];grind⟩;obtain⟨r,i⟩:=I.unit (Dv.refl e);obtain⟨q,hq⟩:=o;refine⟨Jm r q,λx=>?_⟩;have g:=i x;rw[Jy]at g;rw[Jg,hq,f]
 have:ev d x*ev q x=ev d x*ev q x*(ev e x*ev r x):=by rw[<-g,Rat.mul_one]
 rw[this];grind
theorem Xk(tp:Jd p=p)(p0:p≠[]):Yun (Jz p) (DK p) (Hz p):=Yun.start (Xe p) (Ig tp p0) (Ih tp)
theorem Ka(tp:Jd p=p)(p0:p≠[]):Dy (DK p):=Ng _ _ _ _ (Aa _) (Xk tp p0)
theorem RL(tp:Jd p=p)(p0:p≠[]):Dv (Jz p) p/\Dv p (Jz p):=by
 obtain⟨c,b⟩:=Nd tp p0;have a:Dv (Jz p) p:=⟨[cf p (p.length-1)],λx=>by
  conv=>lhs;rw[b]
  rw[JJ,Jy]⟩
 exact⟨a,⟨[1/cf p (p.length-1)],λx=>by rw[LU,Jy]⟩⟩
theorem Ga(tp:Jd p=p)(p0:p≠[]):Dv (DK p) p:=(Xk tp p0).dv.trans (RL tp p0).1
theorem Gb(tp:Jd p=p)(p0:p≠[])(c:List Rat):DS (DK p) c↔DS p c:=by
 constructor
 . intro h;exact(dC _ _ _ _ (Aa _) (Xk tp p0) c h).of_dv (RL tp p0).2
 . intro h;exact h.of_dv (Ga tp p0)
theorem dD(tp:Jd p=p)(p0:p≠[])(tq:Jd q=q)(q0:q≠[]):
 ∃a b c:List Rat,DS a b/\DS a c/\DS (Jm a b) c/\DK p=Jm a b/\DK q=Jm a c/\DK (Jm p q)=Jm (Jm a b) c/\DK (Jr p q)=a:=by
 have e:=Xk tp p0;have f:=Xk tq q0;have K:=Ka tp p0;have V:=Ka tq q0;have y:=JY p q;have z:Jm p q≠[]:=Xo tp tq p0 q0;have r:=JO p q;have o:=YM tp tq (Or.inl p0);have n:=Xk y z;have l:=Xk r o;obtain⟨t,A,_⟩:=YB e.tw f.tw;have ta:=JO (DK p) (DK q);have ma:=XT e.tw f.tw;have m:=YM e.tw f.tw (Or.inl e.w0);have s:=LV e.tw f.tw m;obtain⟨mb,_,b0,i⟩:=KV e.tw e.w0 e.mw ta ma t;obtain⟨I,_,c0,j⟩:=KV f.tw f.w0 f.mw ta ma A;have R:∀d,Dv d (DK p)->Dv d (DK q)->Dv d (Jr (DK p) (DK q)):=λd g k=>KS e.tw f.tw g k;obtain⟨a,ha⟩:=ex (Jr (DK p) (DK q));rw[ha]at t A ta ma m s mb b0 i I c0 j R;obtain⟨b,T⟩:=ex (Js (DK p) a);obtain⟨c,U⟩:=ex (Js (DK q) a);have tb:Jd b=b:=by rw[<-T];exact Yq _ _
 have L:Jd c=c:=by rw[<-U];exact Yq _ _
 rw[T]at s mb b0 i;rw[U]at s I c0 j;have Qj:DS a b:=Dy.parts (by rw[<-i];exact K);have P:DS a c:=Dy.parts (by rw[<-j];exact V);have M:DS (Jm a b) c:=P.mul_left s;have sc:Dy c:=V.of_dv f.tw ⟨a,λx=>by rw[j,Jg];grind⟩;have Qe:Dy (Jm (Jm a b) c):=(by rw[<-i];exact K:Dy (Jm a b)).mul sc M;refine⟨a,b,c,Qj,P,M,i,j,?_,?_⟩
 . have w:=JY (Jm a b) c;have Q:Jm a b≠[]:=Xo ta tb m b0;have X0:Jm (Jm a b) c≠[]:=Xo (JY _ _) L Q c0;have mX:Jz (Jm (Jm a b) c)=Jm (Jm a b) c:=by
    have g:=Q6 (JY a b) L Q c0;have k:=Q6 ta tb m b0;rw[k,KW ta m ma,KW tb b0 mb,KW L c0 I]at g;exact XA (Xe _) w λx=>by rw[LU,g];grind
   have N:∀d,DS (DK (Jm p q)) d↔DS (Jm (Jm a b) c) d:=λd=>by
    rw[Gb y z];constructor
    . intro h;have g:DS p d:=h.of_dv ((Dv.refl p).mul q);have k:DS q d:=h.of_dv ((Dv.refl q).mul' p);have S:=(Gb tp p0 d).2 g;have h4:=(Gb tq q0 d).2 k;rw[i]at S;exact S.mul_left (h4.of_dv ⟨a,λx=>by rw[j,Jg];grind⟩)
    . intro h;have g:DS (DK p) d:=h.of_dv (by rw[i];exact(Dv.refl _).mul c);have k:DS (DK q) d:=h.of_dv (by rw[j];exact⟨b,λx=>by rw[Jg,Jg,Jg];grind⟩);exact((Gb tp p0 d).1 g).mul_left ((Gb tq q0 d).1 k)
   have d1:=Dy.dv (u:=DK (Jm p q)) (v:=Jm (Jm a b) c) n.tw w X0 Qe λd h=>(N d).1 h;have d2:=Dy.dv (u:=Jm (Jm a b) c) (v:=DK (Jm p q)) w n.tw n.w0 (Ka y z) λd h=>(N d).2 h;exact Dv.eq n.tw w n.mw mX d2 d1
 . have sa:Dy a:=K.of_dv e.tw t;have sg:=Ka r o;obtain⟨W,X,_⟩:=YB tp tq;have f1:Dv (DK (Jr p q)) (DK p):=Dy.dv e.tw l.tw l.w0 sg λd h=>((Gb tp p0 d).1 h).of_dv ((Ga r o).trans W);have f2:Dv (DK (Jr p q)) (DK q):=Dy.dv f.tw l.tw l.w0 sg λd h=>((Gb tq q0 d).1 h).of_dv ((Ga r o).trans X);have f3:=R _ f1 f2;have f4:Dv a (DK (Jr p q)):=Dy.dv l.tw ta m sa λd h=>((Gb r o d).1 h).of_dv (KS tp tq (t.trans (Ga tp p0)) (A.trans (Ga tq q0)));exact Dv.eq l.tw ta l.mw ma f3 f4
theorem dE(tp:Jd p=p)(p0:p≠[])(tq:Jd q=q)(q0:q≠[]){B:Rat}(d:0<=B):
 Sh B λx z=>Xv (DK (Jm p q)) x z+Xv (DK (Jr p q)) x z=Xv (DK p) x z+Xv (DK q) x z:=by
 obtain⟨a,b,c,j,k,l,e,f,g,i⟩:=dD tp p0 tq q0;refine(((Nl j d).and (Nl k d)).and (Nl l d)).mono λx z _ _ _ ⟨⟨m,n⟩,o⟩=>?_;show Xv (DK (Jm p q)) x z+Xv (DK (Jr p q)) x z=Xv (DK p) x z+Xv (DK q) x z;rw[e,f,g,i,o,m,n];omega

