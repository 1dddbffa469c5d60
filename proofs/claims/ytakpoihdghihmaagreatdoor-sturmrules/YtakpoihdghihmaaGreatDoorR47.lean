import Derived.Test.YtakpoihdghihmaaGreatDoorR46
import Derived.Test.YtakpoihdghihmaaGreatDoorR29
open Go.Value renaming slice->D,pointer->C
open Go renaming World->E,Value->G,Boxed->H
open Go.Obj renaming cells->B
open Go.Proofs.Tryz renaming prog->F
set_option maxRecDepth 100000
set_option maxHeartbeats 16000000
namespace Go.Proofs.YtakpoihdghihmaaGreatDoor
def OT(p w y:List Rat):Nat->List Rat
 |0=>p
 |n+1=>Jo (OT p w y n) (DH w y n).1
section
variable {p q w y:List Rat}
theorem eG(h:Yun q w y)(c:Jp q=q)(n:Nat):(DH w y (n+1)).1=Jo (DH w y n).1 (yP (DH w y n)):=by
 obtain⟨a,_⟩:=X8 h c n;have b:Jz (DH w y n).1 (JD (DH w y n).2 (Jb (DH w y n).1))≠[]:=Xm a.tw (Yh _ _) (Or.inl a.w0);rw[DH];unfold Gj yP;exact GS b
end
theorem Ih{p:List Rat}(tp:Jd p=p)(p0:p≠[]):cf p (p.length-1)≠0/\p=DN (cf p (p.length-1)) (Jp p):=by
 have h:=Js tp p0;refine⟨h,?_⟩;unfold Jp;rw[Kk,show 1/cf p (p.length-1)*cf p (p.length-1)=1 by grind,Ic tp]
theorem eH{q g:List Rat}(tq:Jd q=q)(q0:q≠[])(lq:q.length<=25)(cq:Cd 75 q)(a:Jd g=g)(c:Jp g=g)(h:Dv g q):Cd 80 g:=by
 have b:=h.lnN (n:=24) tq q0 O L6 cq.ln a;have:=Ly a (b.mono (L:=80) O) O;rwa[c]at this
structure StR(K M:Nat)(r f:List Rat):Prop where
 tr:Jd r=r
 cr:Cd M r
 tf:Jd f=f
 f0:f≠[]
 mf:Jp f=f
 ca:Cd M f
 lr:(r.length+3)*(M+1)<=1000000000
 lf:(f.length+3)*(M+1)<=1000000000
 r1:r.length<=1000
 f1:f.length<=1000
 ch:M3.ChOk K f (Jo r f)
structure ReOk(K M N:Nat)(p w y:List Rat):Prop where
 fr:M3.FrOk K p
 w0:dJ p=w
 nN:N<=1000000000
 st:∀n,n<N->1<(DH w y n).1.length/\StR K M (OT p w y n) (DH w y n).1/\Cd M (DH w y (n+1)).1/\Jd (DH w y (n+1)).1=(DH w y (n+1)).1/\(DH w y (n+1)).1≠[]/\Jp (DH w y (n+1)).1=(DH w y (n+1)).1/\
  Jz (DH w y n).1 (OT p w y (n+1))=(DH w y (n+1)).1/\Jo (DH w y n).1 (DH w y (n+1)).1=yP (DH w y n)/\Jp (yP (DH w y n))=yP (DH w y n)/\
  Jd (yP (DH w y n))=yP (DH w y n)/\Cd M (yP (DH w y n))/\(yP (DH w y n)).length<=25
 en:(DH w y N).1.length<=1
section
variable {a b c d p q r w y R:List Rat}
theorem DU.shift(h:DU a b)(f:∀x,ev b x=ev c x+ev a x*ev d x):DU a c:=by
 obtain⟨u,v,e⟩:=h;refine⟨XI u (Jr v d),v,λx=>?_⟩;rw[YK,Jg];have:=e x;rw[f]at this;grind
theorem DU.left(h:DU a (Jr b c)):DU a b:=(h.symm.of_dv ((Dv.refl b).mul c)).symm
theorem DU.right(h:DU a (Jr b c)):DU a c:=(h.symm.of_dv ((Dv.refl c).mul' b)).symm
theorem eI(a:List Rat):Dv [1] a:=⟨a,λx=>by simp[ev];grind⟩
theorem eJ:Jp [1]=[1]:=Xr (YF _) DF λx=>by rw[L2];simp[cf,ev];grind
theorem Yun.part(h:Yun R w y):DU (Jz w (JD y (Jb w))) (Jb (Jz w (JD y (Jb w))))/\DU (Jz w (JD y (Jb w))) (Jo w (Jz w (JD y (Jb w)))):=by
 obtain⟨b,c,_⟩:=Y4 h.tw (Yh y (Jb w));have a:=h.step.2.2.2.2.2;obtain⟨P,f⟩:=ex (Jz w (JD y (Jb w)));rw[f]at b c a ⊢;obtain⟨e,i⟩:=ex (Jo w P);rw[i]at a ⊢;have c1:DU P y:=h.cop.of_dv b;obtain⟨t,g⟩:=c;have c2:DU P (Jb w):=c1.shift (d:=t) λx=>by
  have:=g x;rw[Y9]at this;grind
 have c3:DU P (Jr (Jb P) e):=c2.shift (d:=Jb e) λx=>by
  have:=Bw (λr=>ev (Jb r) x) a;simp only[Yo]at this;rw[Jg];exact this
 exact⟨c3.left,c3.right⟩
end
def GT:List (List Rat × Nat)->Rat->Rat
 |[],_=>1
 |a::l,x=>ev a.1 x^a.2*GT l x
theorem eK(l m:List (List Rat × Nat))(x:Rat):GT (l++m) x=GT l x*GT m x:=by
 induction l with
 |nil=>simp[GT]
 |cons a l b=>simp only[Au,GT,b];grind
theorem eL(a b:Rat)(n:Nat):(a*b)^n=a^n*b^n:=by
 induction n with
 |zero=>simp
 |succ n c=>rw[Rat.pow_succ,Rat.pow_succ,Rat.pow_succ,c];grind
theorem R1(n:Nat):(1:Rat)^n=1:=by
 induction n with
 |zero=>simp
 |succ n a=>rw[Rat.pow_succ,a];grind
section
variable {q w y:List Rat}
theorem L8(h:Yun q w y)(b:Jp q=q)(n:Nat):Jd (yP (DH w y n))=yP (DH w y n)/\Jp (yP (DH w y n))=yP (DH w y n)/\(DH w y n).1=Jr (yP (DH w y n)) (DH w y (n+1)).1/\
 DU (yP (DH w y n)) (Jb (yP (DH w y n)))/\DU (yP (DH w y n)) (DH w y (n+1)).1/\D8 q w y n=Jr (DH w y n).1 (D8 q w y (n+1)):=by
 have a:=(X8 h b n).1;rw[eG h b n];obtain⟨_,_,_,c,_,d⟩:=a.step;obtain⟨c1,c2⟩:=a.part;exact⟨Yi _ _,X3 a.tw (Yh _ _),d,c1,c2,c⟩
theorem R3(h:Yun q w y)(o:Jp q=q):∀N,(∀x∈yL w y N,1<x.1.length/\1<=x.2/\x.2<=N/\DU x.1 (Jb x.1)/\Jd x.1=x.1/\Jp x.1=x.1/\Dv x.1 q/\DU x.1 (DH w y N).1)/\
 (yL w y N).Pairwise (λa b=>a.2<b.2/\DU a.1 b.1):=by
 intro N;induction N with
 |zero=>exact⟨λx c=>by simp[yL]at c,by simp[yL]⟩
 |succ N e=>
  obtain⟨s,t,i,u,v,_⟩:=L8 h o N;have p:Dv (DH w y (N+1)).1 (DH w y N).1:=⟨yP (DH w y N),λx=>by
   have:=Bw (λr=>ev r x) i;simp only[Jg]at this;rw[this];exact Ck _ _⟩
  have g:Dv (yP (DH w y N)) (DH w y N).1:=⟨(DH w y (N+1)).1,λx=>by
   have:=Bw (λr=>ev r x) i;simp only[Jg]at this;exact this⟩
  rw[yL];refine⟨λx c=>?_,?_⟩
  . rcases Fd.1 c with c|c
    . obtain⟨j,k,A,l,m,n,I,f⟩:=e.1 x c;exact⟨j,k,O,l,m,n,I,(f.symm.of_dv p).symm⟩
    . split at c
      . next hl=>
        simp at c;subst c;exact⟨hl,Z,Aa _,u,s,t,g.trans (X8 h o N).2.2.2,v⟩
      . simp at c
  . refine List.pairwise_append.2 ⟨e.2,by split<;>simp,λx c z d=>?_⟩;split at d
    . simp at d;subst d;obtain⟨j,k,A,l,m,n,_,f⟩:=e.1 x c;exact⟨by simp only;omega,(f.symm.of_dv g).symm⟩
    . simp at d
theorem eM(h:Yun q w y)(b:Jp q=q)(x:Rat):∀N,ev q x=GT (yL w y N) x*(ev (DH w y N).1 x^N*ev (D8 q w y N) x):=by
 intro N;induction N with
 |zero=>simp[yL,GT,D8]
 |succ N o=>
  obtain⟨i,j,k,_,_,l⟩:=L8 h b N;have d:=Bw (λr=>ev r x) k;have f:=Bw (λr=>ev r x) l;simp only[Jg]at d f;rw[o,yL,eK];have e:GT (if 1<(yP (DH w y N)).length then [(yP (DH w y N),N+1)]else []) x=ev (yP (DH w y N)) x^(N+1):=by
   split
   . simp[GT]
   . next hl=>
     have n:yP (DH w y N)=[1]:=by
      have g:yP (DH w y N)≠[]:=Xm (X8 h b N).1.tw (Yh _ _) (Or.inl (X8 h b N).1.w0);have a:=L7 i g j;have:=Ae.2 g;generalize yP (DH w y N)=P at *;match P,hl,this,a with
      |[c],_,_,a=>simp[cf]at a;rw[a]
      |_::_::_,hl,_,_=>exact absurd Z hl
     rw[n];have m:ev [1] x=1:=by simp[ev];grind
     rw[m,R1];rfl
  rw[e,f];have hp:(ev (DH w y N).1 x)^(N+1)=ev (yP (DH w y N)) x^(N+1)*ev (DH w y (N+1)).1 x^(N+1):=by rw[d,eL]
  rw[Rat.pow_succ]at hp;grind
theorem eN{a:List Rat}(ta:Jd a=a)(ma:Jp a=a)(d:a≠[])(hl:a.length<=1):a=[1]:=by
 have b:=L7 ta d ma;have:=Ae.2 d;match a,hl,this,b with
 |[c],_,_,b=>simp[cf]at b;rw[b]
 |_::_::_,hl,_,_=>simp at hl
theorem eO(h:Yun q w y)(c:Jp q=q):∀N,(∀n,n<N->1<(DH w y n).1.length)->(D8 q w y N).length+N<=q.length:=by
 intro N;induction N with
 |zero=>intro _;exact Aa _
 |succ N b=>
  intro a;have d:=b λn f=>a n O;have e:=OS h c N (a N O);omega
theorem R4(h:Yun q w y)(c:Jp q=q){N:Nat}(j:∀n,n<N->1<(DH w y n).1.length)(g:(DH w y N).1.length<=1):N+1<=q.length/\∀x,ev q x=GT (yL w y N) x:=by
 obtain⟨a,_,i,_⟩:=X8 h c N;have e:=eN a.tw a.mw a.w0 g;have d:D8 q w y N=[1]:=by
  have f:Dv (D8 q w y N) (Jb (D8 q w y N)):=⟨(DH w y N).2,λx=>by
   have:=a.eq x;rw[e]at this;have b:ev [1] x=1:=by simp[ev];grind
   rw[b]at this;grind⟩
  exact Dv.eq a.tR DF i eJ (KG a.tR a.R0 f) (eI _)
 have hl:=eO h c N j;refine⟨by rw[d]at hl;simp at hl;omega,λx=>?_⟩;have b:ev [1] x=1:=by simp[ev];grind
 rw[eM h c x N,e,d,b,R1];grind
end
section
variable{a b p:List Rat}{c:Rat}
theorem L9(h:c≠0):0<Xu c:=by
 unfold Xu;split<;>grind
theorem eQ(h:0<c):∀n:Nat,0<c^n:=by
 intro n;induction n with
 |zero=>rw[Rat.pow_zero];decide
 |succ n a=>rw[Rat.pow_succ];exact Rat.mul_pos a h
theorem eS{q:List Rat}(hq:Jd q=q)(a:q≠[]):0<EF p q:=eQ (L9 (Js hq a)) _
theorem R5(tb:Jd b=b)(b0:b≠[]):∃(q:List Rat) (c:Rat),0<c/\∀x,EF a b*ev a x=ev q x*ev b x-c*ev (YP a b) x:=by
 obtain⟨k,f,e⟩:=F9 (p:=JK (YO a b) b) (J5 _);refine⟨Jo (YO a b) b,1/k,Yy DF f,λx=>?_⟩;have g:=(YT (YO a b) b tb b0).1 x;have i:ev (YO a b) x=ev a x*EF a b:=JJ _ _ _;have d:ev (YP a b) x=-(ev (JK (YO a b) b) x*k):=by
  unfold YP;rw[Y9,e,JJ];simp[ev];grind
 have j:1/k*k=1:=Ap (by grind);rw[d];grind
theorem chnL_head(a b:List Rat):∃t,EU a b=a::t:=by
 unfold EU;cases b.length with
 |zero=>exact⟨_,rfl⟩
 |succ n=>
  unfold EK;split
  . exact⟨_,rfl⟩
  . exact⟨_,rfl⟩
theorem R6(ta:Jd a=a)(b:a≠[])(x:Rat):ev (Jo a a) x=1:=by
 have h:=Yt (u:=Jo a a) (v:=[1]) ta b (λx=>by
  rw[<-(JO ta b (Dv.refl a)).2 x,Jm];grind) x
 rwa[Jm]at h
theorem OU:∀(n:Nat) (a b:List Rat),b.length<=n->Jd a=a->Jd b=b->a≠[]->∃g,(EU a b).getLast?=some g/\Jd g=g/\g≠[]/\Dv g a/\Dv g b/\(∀d,Dv d a->Dv d b->Dv d g)/\StC ((EU a b).map λp=>Jo p g):=by
 intro n;induction n with
 |zero=>
  intro a b P ta _ e
  have:b=[]:=Az.1 O
  subst this;exact⟨a,rfl,ta,e,Dv.refl a,Dv.zero a,λ_ h _=>h,StC.one (c:=1) DF λx=>R6 ta e x⟩
 |succ n V=>
  intro a b P ta tb e;by_cases b0:b=[]
  . subst b0;exact⟨a,rfl,ta,e,Dv.refl a,Dv.zero a,λ_ h _=>h,StC.one (c:=1) DF λx=>R6 ta e x⟩
  . have hl:=YZ (a:=a) tb b0;obtain⟨g,K,i,f,k,r,L,j⟩:=V b (YP a b) O tb (Hs _ _) b0;obtain⟨q,c,c0,l⟩:=R5 (a:=a) tb b0;have w0:=eS (p:=a) tb b0;have w:1/EF a b*EF a b=1:=Ap (by grind);have y:1/c*c=1:=Ap (by grind);have m:Dv g a:=k.comb r (Jr [1/EF a b] q) [-(1/EF a b*c)] λx=>by
     rw[Jg,Jm,Jm];have:=l x
     have:ev a x=1/EF a b*(EF a b*ev a x):=by rw[<-Rat.mul_assoc,w,Cn]
     grind
    refine⟨g,?_,i,f,m,k,λd d1 o=>L d o (o.comb d1 (Jr [1/c] q) [-(1/c*EF a b)] λx=>?_),?_⟩
    . rw[XC tb b0,List.getLast?_cons,K];rfl
    . rw[Jg,Jm,Jm];have:=l x
      have:ev (YP a b) x=1/c*(c*ev (YP a b) x):=by rw[<-Rat.mul_assoc,y,Cn]
      grind
    . rw[XC tb b0];by_cases s:YP a b=[]
      . rw[s,KF]at j ⊢;obtain⟨_,M,N⟩:=j.o;exact StC.two M N
      . obtain⟨t,Q⟩:=chnL_head (YP a b) (YP b (YP a b));rw[XC (Hs _ _) s,Q]at j ⊢;have z:=(JO i f m).2;have A:=(JO i f k).2;have I:=(JO i f r).2;refine StC.more (q:=q) w0 c0 (λx=>?_) j;have:=Yt (u:=Jr [EF a b] (Jo a g)) (v:=JD (Jr q (Jo b g)) (Jr [c] (Jo (YP a b) g))) i f (λx=>by
         rw[Jg,Y9,Jg,Jg,Jm,Jm];have R:=z x;have S:=A x;have T:=I x;have U:=l x;rw[R,S,T]at U;grind) x
        rwa[Jg,Y9,Jg,Jg,Jm,Jm]at this
theorem MA:∀(n:Nat) (R w y:List Rat),R.length<=n->Yun R w y->DU w (Jb w):=by
 intro n;induction n with
 |zero=>intro R w y p h;exact absurd (Az.1 O) h.R0
 |succ n r=>
  intro R w y p h;by_cases hl:w.length<=1
  . obtain⟨c,o⟩:=Ig h.tw h.w0 hl;refine⟨c,[],λx=>?_⟩;have:=o x;rw[Jm]at this;simp[ev];grind
  . obtain⟨j,g⟩:=h.part;obtain⟨_,_,b,k,_,f⟩:=h.step;obtain⟨a,m⟩:=ex (Jz w (JD y (Jb w)));rw[m]at j g b f;obtain⟨e,q⟩:=ex (Jo w a);rw[q]at g b f;have s:(Jo R w).length<=n:=by
     have:=JA h.tw b.tR h.w0 b.R0;rw[<-k]at this;omega
    have l:=r _ _ _ s b;have i:∀x,ev (Jb w) x=ev (Jb a) x*ev e x+ev a x*ev (Jb e) x:=λx=>by
     have:=Yo a e x;rwa[<-f]at this
    have c1:DU a (Jb w):=(j.mul g).shift (d:=Jr [-1] (Jb e)) λx=>by
     rw[Jg,Jg,Jm,i];grind
    have c2:DU e (Jb w):=(g.symm.mul l).shift (d:=Jr [-1] (Jb a)) λx=>by
     rw[Jg,Jg,Jm,i];grind
    have c3:=(c1.symm.mul c2.symm).symm;rwa[<-f]at c3
theorem MB(c:Rat)(p:List Rat)(x:Rat):ev (Jb (DN c p)) x=c*ev (Jb p) x:=by
 rw[Xk,Xk];unfold DN;rw[Oo (Yf _),Ot,Ck]
def Jy(p:List Rat):List (List Rat):=(X2 p (Jb p)).map λa=>Jo a ((X2 p (Jb p)).getLast?.getD [])
def DK(p:List Rat):List Rat:=Jo (Jp p) (Jz (Jp p) (Jb (Jp p)))
def Dc(p:List Rat):List Rat:=Jo (Jb (Jp p)) (Jz (Jp p) (Jb (Jp p)))
theorem eT(tp:Jd p=p)(p0:p≠[]):StC (Jy p)/\∃f l k,Jy p=f::l/\k≠0/\(∀x,ev f x=k*ev (DK p) x)/\∀f1 l1,l=f1::l1->∃W,0<k*W/\∀x,ev f1 x=W*ev (Dc p) x:=by
 have ts:=Jq p;obtain⟨α,α0,hα⟩:=F9 tp;obtain⟨β,β0,hβ⟩:=F9 ts;obtain⟨y,s⟩:=Ih tp p0;obtain⟨b,hl⟩:=ex (cf p (p.length-1));rw[hl]at y s;have tR:=YF p;have R0:=KC tp p0;obtain⟨R,U⟩:=ex (Jp p);rw[U]at s tR R0;have z:=Jq R;have a0:JI p≠[]:=λe=>p0 (Az.1 (by rw[<-J4 tp,e];rfl));have A:∀x,ev (JI p) x=α*b*ev R x:=λx=>by
  rw[hα,JJ];conv=>lhs;rw[s]
  rw[JJ];grind
 have I:∀x,ev (JI (Jb p)) x=β*b*ev (Jb R) x:=λx=>by
  rw[hβ,JJ];have:=MB b R x;rw[<-s]at this;rw[this];grind
 obtain⟨g,h1,K,Q,S,T,h4,h5⟩:=OU _ (JI p) (JI (Jb p)) (Aa _) (Yj _) (Yj _) a0;obtain⟨L,M,_⟩:=Y4 tR z;have q:=Yi R (Jb R);have r:=Xm tR z (Or.inl R0);have fW:=(JO q r L).2;have fY:=(JO q r M).2;have X:Dv (Jz R (Jb R)) g:=h4 _ (by
  obtain⟨c,j⟩:=L;exact⟨DN (α*b) c,λx=>by rw[A,j,JJ];grind⟩) (by obtain⟨c,j⟩:=M;exact⟨DN (β*b) c,λx=>by rw[I,j,JJ];grind⟩)
 have V:∀ {k:Rat},0<k->1/(k*b)*(k*b)=1:=λhk=>Ap (by
  intro e;rcases AM.1 e with e|e
  . grind
  . exact y e)
 have Qc:Dv g (Jz R (Jb R)):=OG tR z (by
  obtain⟨c,j⟩:=S;refine⟨DN (1/(α*b)) c,λx=>?_⟩;have i:=j x;rw[A]at i
  have:ev R x=1/(α*b)*(α*b*ev R x):=by rw[<-Rat.mul_assoc,V α0,Cn]
  rw[this,i,JJ];grind) (by
  obtain⟨c,j⟩:=T;refine⟨DN (1/(β*b)) c,λx=>?_⟩;have i:=j x;rw[I]at i
  have:ev (Jb R) x=1/(β*b)*(β*b*ev (Jb R) x):=by rw[<-Rat.mul_assoc,V β0,Cn]
  rw[this,i,JJ];grind)
 obtain⟨m,m0,hm⟩:=Dv.anti q K X Qc;have N:∀x,ev g x=m*ev (Jz R (Jb R)) x:=λx=>by rw[hm,JJ];grind
 have w:1/m*m=1:=Ap m0;have qa:=(JO K Q S).2;have qb:=(JO K Q T).2;have P:Jy p=(EU (JI p) (JI (Jb p))).map λa=>Jo a g:=by
  unfold Jy X2;rw[h1];rfl
 refine⟨by rw[P];exact h5,?_⟩;obtain⟨t,d⟩:=chnL_head (JI p) (JI (Jb p));unfold DK Dc;rw[U];refine⟨Jo (JI p) g,t.map λa=>Jo a g,1/m*(α*b),by rw[P,d];rfl,?_,λx=>?_,λf1 l1 n=>⟨1/m*(β*b),?_,λx=>?_⟩⟩
 . intro e;rcases AM.1 e with e|e
   . rw[e]at w;grind
   . rcases AM.1 e with e|e
     . grind
     . exact y e
 . have:=Yt (u:=Jo (JI p) g) (v:=DN (1/m*(α*b)) (Jo R (Jz R (Jb R)))) q r (λx=>by
    have o:=qa x;rw[N,A,fW]at o;rw[JJ]
    have:ev (Jz R (Jb R)) x*ev (Jo (JI p) g) x=1/m*(m*ev (Jz R (Jb R)) x*ev (Jo (JI p) g) x):=by
     rw[<-Rat.mul_assoc,<-Rat.mul_assoc,w,Cn]
    rw[this,<-o];grind) x
   rw[this,JJ];grind
 . have i:1/m*(α*b)*(1/m*(β*b))=(1/m*b)*(1/m*b)*(α*β):=by grind
   rw[i];refine Rat.mul_pos ?_ (Rat.mul_pos α0 β0);have c0:1/m*b≠0:=λe=>by
    rcases AM.1 e with e|e
    . rw[e]at w;grind
    . exact y e
   have:=Yr (f:=[1/m*b]) c0 (λx=>Jm _ x) 0 0;unfold DR at this;rwa[Jm]at this
 . have hb:f1=Jo (JI (Jb p)) g:=by
    by_cases b0:JI (Jb p)=[]
    . rw[b0,KF]at d;injection d with _ d
      rw[<-d]at n;cases n
    . rw[XC (Yj _) b0]at d;injection d with _ d
      obtain⟨t2,ad⟩:=chnL_head (JI (Jb p)) (YP (JI p) (JI (Jb p)));rw[<-d,ad]at n;injection n with n _
      exact n.symm
   rw[hb];have:=Yt (u:=Jo (JI (Jb p)) g) (v:=DN (1/m*(β*b)) (Jo (Jb R) (Jz R (Jb R)))) q r (λx=>by
    have o:=qb x;rw[N,I,fY]at o;rw[JJ]
    have:ev (Jz R (Jb R)) x*ev (Jo (JI (Jb p)) g) x=1/m*(m*ev (Jz R (Jb R)) x*ev (Jo (JI (Jb p)) g) x):=by
     rw[<-Rat.mul_assoc,<-Rat.mul_assoc,w,Cn]
    rw[this,<-o];grind) x
   rw[this,JJ];grind
def Yq(b:List Rat):List Rat:=DN (1/Xu (cf b (b.length-1))) b
def E2:Nat->List Rat->List Rat->List (List Rat)
 |0,a,_=>[a]
 |n+1,a,b=>if b=[]then [a]else a::E2 n (Yq b) (DN (-1) (JK a (Yq b)))
theorem Ku(n:Nat)(a b:List Rat):∃t,E2 n a b=a::t:=by
 cases n with
 |zero=>exact⟨_,rfl⟩
 |succ n=>
  unfold E2;split
  . exact⟨_,rfl⟩
  . exact⟨_,rfl⟩
theorem OV(tb:Jd b=b)(b0:b≠[]):0<1/Xu (cf b (b.length-1)):=Yy DF (L9 (Js tb b0))
theorem OW(g:c≠0)(tb:Jd b=b):(DN c b).length=b.length:=by
 have e:DN (1/c) (DN c b)=b:=by rw[Kk,Ck,Ap g,Ic tb]
 have a:∀(d:Rat) (q:List Rat),(DN d q).length<=q.length:=λd q=>by
  unfold DN;refine An (YR _) ?_;unfold Y0;simp
 have i:=a c b;have f:=a (1/c) (DN c b);rw[e]at f;omega
theorem R7(ta:Jd a=a)(h:DU a []):∃c,c≠0/\∀x,ev a x=c:=by
 obtain⟨u,v,b⟩:=h;have f:Dv a [1]:=⟨u,λx=>by rw[Jm,<-b x];simp[ev];grind⟩;have g:=(f.len ta DF DF).1;have d:a≠[]:=λe=>by
  have:=b 0;rw[e]at this;simp[ev]at this;grind
 match a,d,g with
 |[c],_,_=>
  refine⟨c,λe=>?_,λx=>Jm c x⟩;have:=b 0;rw[e]at this;simp[ev]at this;grind
theorem R8:∀(n:Nat) (a b:List Rat),b.length<=n->Jd a=a->Jd b=b->DU a b->StC (E2 n a b):=by
 intro n;induction n with
 |zero=>
  intro a b p ta _ d
  have:b=[]:=Az.1 O
  subst this;obtain⟨c,c0,f⟩:=R7 ta d;exact StC.one c0 f
 |succ n w=>
  intro a b p ta tb d;by_cases b0:b=[]
  . subst b0;obtain⟨c,c0,f⟩:=R7 ta d;rw[E2,BC rfl];exact StC.one c0 f
  . rw[E2,BA b0];have S:=OV tb b0;have lb:(Yq b).length=b.length:=OW (by grind) tb;have j:Jd (Yq b)=Yq b:=JP _ _;have l:Yq b≠[]:=λe=>b0 (Az.1 (by rw[<-lb,e];rfl));obtain⟨k,sl⟩:=YT a (Yq b) j l;have tr:Jd (JK a (Yq b))=JK a (Yq b):=J5 _;have o:∀x,ev (Yq b) x=ev b x*(1/Xu (cf b (b.length-1))):=λx=>JJ _ _ _;have m:DU (Yq b) (DN (-1) (JK a (Yq b))):=by
     obtain⟨u,v,s⟩:=d;have y:Xu (cf b (b.length-1))*(1/Xu (cf b (b.length-1)))=1:=by
      rw[Ck];exact Ap (by have:=L9 (Js tb b0);grind)
     refine⟨XI (Jr u (Jo a (Yq b))) (Jr [Xu (cf b (b.length-1))] v),Jr [-1] u,λx=>?_⟩;rw[YK,Jg,Jg,Jg,Jm,Jm,JJ];have z:=s x;have i:=k x;have A:=o x;have I:ev b x=Xu (cf b (b.length-1))*ev (Yq b) x:=by
      rw[A,Ck,Rat.mul_assoc,Ck (1/_),y,Rat.mul_one]
     rw[I,i]at z;grind
    have g:=w (Yq b) (DN (-1) (JK a (Yq b))) (by rw[OW DF tr];omega) j (JP _ _) m;by_cases r0:DN (-1) (JK a (Yq b))=[]
    . rw[r0]at g ⊢;have e:E2 n (Yq b) []=[Yq b]:=by cases n<;>rfl
      rw[e]at g ⊢;obtain⟨_,d,f⟩:=g.o;exact StC.two d f
    . have R:=JP (-1) (JK a (Yq b));cases n with
      |zero=>
       exact absurd (Az.1 (by have:=OW (c:=-1) DF tr;omega)) r0
      |succ n=>
       obtain⟨t,r⟩:=Ku n (Yq (DN (-1) (JK a (Yq b)))) (DN (-1) (JK (Yq b) (Yq (DN (-1) (JK a (Yq b))))));rw[E2,BA r0,r]at g ⊢;have Q:=L9 (Js R r0);refine StC.more (q:=Jo a (Yq b)) (a:=1) (c:=Xu (cf (DN (-1) (JK a (Yq b))) ((DN (-1) (JK a (Yq b))).length-1))) DF Q (λx=>?_) g;have i:=k x;have L:ev (Yq (DN (-1) (JK a (Yq b)))) x=ev (DN (-1) (JK a (Yq b))) x*(1/Xu (cf (DN (-1) (JK a (Yq b))) ((DN (-1) (JK a (Yq b))).length-1))):=JJ _ _ _;have M:ev (DN (-1) (JK a (Yq b))) x=ev (JK a (Yq b)) x*(-1):=JJ _ _ _;have N:1/Xu (cf (DN (-1) (JK a (Yq b))) ((DN (-1) (JK a (Yq b))).length-1))*Xu (cf (DN (-1) (JK a (Yq b))) ((DN (-1) (JK a (Yq b))).length-1))=1:=Ap (by grind);rw[L,M];generalize Xu (cf (DN (-1) (JK a (Yq b))) ((DN (-1) (JK a (Yq b))).length-1))=K at *;have P:K*(ev (JK a (Yq b)) x*(-1)*(1/K))=- ev (JK a (Yq b)) x:=by
        have:K*(ev (JK a (Yq b)) x*(-1)*(1/K))=(1/K*K)*(- ev (JK a (Yq b)) x):=by grind
        rw[this,N];grind
       rw[P,Cn,i];grind
def GU(p:List Rat):List (List Rat):=E2 (Jb (DK p)).length (DK p) (Jb (DK p))
theorem eU(tp:Jd p=p)(p0:p≠[]){a b:Rat}(I:a<=b):DO (JQ (Jy p) a)+DO (JQ (GU p) b)=DO (JQ (Jy p) b)+DO (JQ (GU p) a):=by
 obtain⟨S,f,l,k,L,V,K,u⟩:=eT tp p0;have d:=Yun.start (YF p) (KC tp p0) (Hr tp);have d:Yun (Jp p) (DK p) (Dc p):=d;have U:=MA _ _ _ _ (Aa _) d;have R:=R8 _ (DK p) (Jb (DK p)) (Aa _) d.tw (Jq _) U;obtain⟨A,A0,v⟩:=H7 a;obtain⟨C,C0,w⟩:=H7 b;have g:0<=A+C:=by grind
 obtain⟨e,e0,sg⟩:=L4 _ _ _ _ (Aa _) d g;refine glue (B:=A+C) (F:=λx=>DO (JQ (Jy p) x)) (G:=λx=>DO (JQ (GU p) x)) ?_ (v.mono (by grind)) (w.mono (by grind)) I;refine(((S.gd g).and (R.gd g)).and sg).mono λx y _ _ _ i=>?_;have d1:=i.1.1;have j:=i.1.2;have s:=i.2;obtain⟨m,c⟩:=Ku (Jb (DK p)).length (DK p) (Jb (DK p));show DO (JQ (Jy p) x)+DO (JQ (GU p) y)=DO (JQ (Jy p) y)+DO (JQ (GU p) x);unfold GU;rw[L]at d1 ⊢;rw[c]at j ⊢;refine d1.both j V K λP f1 l1 o m1 hl q=>?_;obtain⟨k1,W,M⟩:=u f1 l1 hl;obtain⟨X,s2⟩:=s P;by_cases w0:Jb (DK p)=[]
 . exfalso
   rw[w0]at c;rw[q]at c;simp[E2]at c
 . obtain⟨n,Q⟩:∃n,(Jb (DK p)).length=n+1:=⟨_,(Nat.succ_pred_eq_of_pos (Ae.2 w0)).symm⟩;rw[Q,E2,BA w0]at c;injection c with _ c
   obtain⟨t,T⟩:=Ku n (Yq (Jb (DK p))) (DN (-1) (JK (DK p) (Yq (Jb (DK p)))));rw[T,q]at c;injection c with N _
   have sp:=OV (Jq (DK p)) w0;have r:∀z,ev o z=ev (Jb (DK p)) z*(1/Xu (cf (Jb (DK p)) ((Jb (DK p)).length-1))):=λz=>by rw[<-N];exact JJ _ _ _
   have fin:∀z,e<=ev (Dc p) z*ev (Jb (DK p)) z->0<k*ev f1 z*ev o z:=λz hz=>by
    rw[M,r];have:=Rat.mul_pos (Rat.mul_pos W sp) (show 0<ev (Dc p) z*ev (Jb (DK p)) z by grind);grind
   exact⟨fin x X,fin y s2⟩
def MC(l:List (List Rat)):Prop:=∀p∈l,Jd p=p/\p≠[]
def X9(l:List (List Rat)):List Rat:=l.map λp=>cf p (p.length-1)
def Ei(l:List (List Rat)):List Rat:=l.map λp=>(-1)^(p.length-1)*cf p (p.length-1)
theorem MD{l:List (List Rat)}(h:MC l):∃B,0<B/\(∀x,B<=x->DO (JQ l x)=DO (X9 l))/\∀x,x<=-B->DO (JQ l x)=DO (Ei l):=by
 have m:∃B,0<B/\(∀x,B<=x->∀p∈l,0<ev p x*cf p (p.length-1))/\∀x,x<=-B->∀p∈l,0<ev p x*((-1)^(p.length-1)*cf p (p.length-1)):=by
  induction l with
  |nil=>exact⟨1,DF,(λ_ _ _ hp=>absurd hp (List.not_mem_nil)),(λ_ _ _ hp=>absurd hp (List.not_mem_nil))⟩
  |cons p l g=>
   obtain⟨B,d,b,c⟩:=g λq hq=>h q (C9 _ hq);obtain⟨tp,p0⟩:=h p (Cc);obtain⟨C,n,e⟩:=TQ tp p0;obtain⟨D,o,f⟩:=TR tp p0;refine⟨B+C+D,by grind,λx a q hq=>?_,λx a q hq=>?_⟩
   . rcases FN.1 hq with rfl|hq
     . rw[Ck];exact e x (by grind)
     . exact b x (by grind) q hq
   . rcases FN.1 hq with rfl|hq
     . rw[Ck];exact f x (by grind)
     . exact c x (by grind) q hq
 obtain⟨B,d,b,c⟩:=m;refine⟨B,d,λx a=>?_,λx a=>?_⟩
 . refine O3 _ _ 0 0 (by simp[JQ,X9]) (λi j k=>?_) (Or.inr ⟨rfl,rfl⟩);simp only[JQ,X9,List.getElem_map];exact b x a _ (FA _)
 . refine O3 _ _ 0 0 (by simp[JQ,Ei]) (λi j k=>?_) (Or.inr ⟨rfl,rfl⟩);simp only[JQ,Ei,List.getElem_map];exact c x a _ (FA _)
theorem eV:∀(n:Nat) (a b g:List Rat),b.length<=n->Jd a=a->Jd b=b->a≠[]->Dv g a->Dv g b->Jd g=g->g≠[]->MC ((EU a b).map λp=>Jo p g):=by
 intro n;induction n with
 |zero=>
  intro a b g s ta tb j f k i d
  have:b=[]:=Az.1 O
  subst this;intro p hp;rw[KF]at hp;rcases C1.1 hp with⟨q,hq,rfl⟩
  have:q=a:=by simpa using hq
  subst this;exact⟨YV _ _,λe=>j (Yv ta λx=>by rw[(JO i d f).2,e];simp[ev])⟩
 |succ n u=>
  intro a b g s ta tb j f k i d;have l:Jd (Jo a g)=Jo a g/\Jo a g≠[]:=⟨YV _ _,λe=>j (Yv ta λx=>by rw[(JO i d f).2,e];simp[ev])⟩;by_cases b0:b=[]
  . subst b0;intro p hp;rw[KF]at hp;rcases C1.1 hp with⟨q,hq,rfl⟩
    have:q=a:=by simpa using hq
    subst this;exact l
  . have hl:=YZ (a:=a) tb b0;obtain⟨q,c,c0,t⟩:=R5 (a:=a) tb b0;have m:1/c*c=1:=Ap (by grind);have o:Dv g (YP a b):=k.comb f (Jr [1/c] q) [-(1/c*EF a b)] λx=>by
     rw[Jg,Jm,Jm];have:=t x
     have:ev (YP a b) x=1/c*(c*ev (YP a b) x):=by rw[<-Rat.mul_assoc,m,Cn]
     grind
    have r:=u b (YP a b) g O tb (Hs _ _) b0 k o i d;rw[XC tb b0];intro p hp;rcases FN.1 hp with rfl|hp
    . exact l
    . exact r p hp
theorem Kv(tp:Jd p=p)(p0:p≠[]):MC (Jy p):=by
 have b:JI p≠[]:=λe=>p0 (Az.1 (by rw[<-J4 tp,e];rfl));obtain⟨g,f,k,d,i,j,_,_⟩:=OU _ (JI p) (JI (Jb p)) (Aa _) (Yj _) (Yj _) b;have c:Jy p=(EU (JI p) (JI (Jb p))).map λa=>Jo a g:=by
  unfold Jy X2;rw[f];rfl
 rw[c];exact eV _ _ _ g (Aa _) (Yj _) (Yj _) b i j k d
end
namespace M3
open Go.RowKit Go.Shelf
attribute [local go_sem] Oper.semAt_some
variable{p:List Rat}{K:Nat}{v:G}
theorem eX(r s:G)(p q:List Rat)(w:E)(m:Je w r p)(o:Je w s q):
 Calls F 87 #[r,s] w λe i=>∃k l a c b d g f,e=.returned (.func (.func 136) #[] #[C (some ⟨k,0,none⟩),C (some ⟨l,0,none⟩)])/\Da i k a c b/\Da i l d g f/\Je i (.agg #[D a c b]) p/\Je i (.agg #[D d g f]) q/\Bl w i:=by
 obtain⟨a,c,b,rfl⟩:=m.form;obtain⟨d,g,f,rfl⟩:=o.form;refine((BH (n:=1)).1 (Ro 1 a d c b g f w)).mono ?_;rintro e i ⟨rfl,rfl⟩;have j:Bl w ((w.alloc (B #[D a c b] 25)).alloc (B #[D d g f] 25)):=(Ba w _).alloc (by rw[Ax];omega) _;refine⟨_,_,a,c,b,d,g,f,rfl,(BG w 25 (D a c b)).alloc _,?_,m.below j,o.below j,j⟩;have:=BG (w.alloc (B #[D a c b] 25)) 25 (D d g f);rwa[Ax]at this
theorem eY(K:Nat)(a b:Nat)(f j:Option Addr)(i g l k:Nat)(p q:List Rat)(w:E)(u:ChOk K p q)(s:Da w a f i g)(t:Da w b j l k)(x:Je w (.agg #[D f i g]) p)(y:Je w (.agg #[D j l k]) q):
 Calls F 153 #[.func (.func 136) #[] #[C (some ⟨a,0,none⟩),C (some ⟨b,0,none⟩)]] w λe m=>∃v cs,e=.returned v/\XQ 25 (w.heap.size+1) m v cs/\FW m cs (X2 p q)/\Bl w m:=by
 have n:=Ja (dC K a b f j i g l k p q w u s t x y);clear u s t x y;go_enter Tryz.func153,Tryz.ntmps153
 go_wp2_with(go_at_call 186;refine n.o.mono ?_;clear n;rintro e N ⟨v,cs,rfl,d,o,r⟩;obtain⟨A,I,z,L,M⟩:=d.form;subst z;have c:=Ja (And.intro d (And.intro o r));clear d o r)
 go_ret;exact⟨_,cs,rfl,c.o.1,c.o.2.1,c.o.2.2⟩
theorem EA.setK{V:E}{g n:Nat}{f:Nat->List Rat}(h:EA V g n f){j:Nat}(d:j<n){x:G}(hp:Je V v p):Je (V.setCell ⟨g,j,none⟩ x) v p:=by
 obtain⟨cs,b,c⟩:=h;obtain⟨k,l,c0,a,_⟩:=c j d;obtain⟨u,e,i⟩:=hp;exact⟨u,e,IW b a rfl true DF _ _ _ i⟩
theorem FW.els{W:E}{cs:List G}{L:List (List Rat)}{base:Nat}(h:XQ 25 base W v cs)(d:FW W cs L)(s:L≠[]):∃g cap,v=D (some ⟨g,0,none⟩) L.length cap/\base<=g/\L.length<=cap/\cap<=maxLen/\EA W g L.length (λj=>L.getD j []):=by
 rcases h with⟨rfl,rfl⟩|⟨g,cap,k,rfl,n,o,p,q,t,r⟩
 . exact absurd (Az.1 (by rw[<-d.1];rfl)) s
 . refine⟨g,cap,by rw[d.1],n,by rw[<-d.1];exact p,q,k,o,λj i=>?_⟩;obtain⟨x,b,f⟩:=d.2 j L[j] (Am i);obtain⟨a,l,c,e⟩:=f.form;cases e;refine⟨a,l,c,?_,?_⟩
   . rw[<-r,C5]at b;split at b
     . rw[Cr]at b;exact b
     . cases b
   . have m:L.getD j []=L[j]:=by simp[List.getD,i]
     show RowK true W _ (L.getD j []);rw[m];exact f.row
structure SrOk(K:Nat)(p:List Rat):Prop where
 ch:ChOk K p (Jb p)
 p0:p≠[]
theorem eZ{q:List Rat}(f:ChOk K p q):∀(n:Nat) (a b:List Rat),b.length<=n->Chn p q (DY K p q) a b->a≠[]->∀x∈EU a b,Jd x=x/\Cd (DY K p q) x/\x.length<=max p.length q.length/\x≠[]:=by
 have one:∀a b,Chn p q (DY K p q) a b->a≠[]->Jd a=a/\Cd (DY K p q) a/\a.length<=max p.length q.length/\a≠[]:=λa b h e=>⟨h.ta,⟨1,DF,Sm.one _ f.bd.2.2.2,λi=>by
  obtain⟨z,g,j⟩:=h.wa i;exact⟨z,by rw[j,<-CX ((z:Int):Rat)];simp,g⟩⟩,h.la,e⟩
 intro n;induction n with
 |zero=>
  intro a b hl h e x c;have d:b=[]:=Kl O;subst d;rw[KF]at c
  have:x=a:=by simpa using c
  subst this;exact one _ _ h e
 |succ n k=>
  intro a b hl h e x c;by_cases d:b=[]
  . subst d;rw[KF]at c
    have:x=a:=by simpa using c
    subst this;exact one _ _ h e
  . rw[XC h.tb d]at c;rcases FN.1 c with rfl|c
    . exact one _ _ h e
    . have g:=YZ (a:=a) h.tb d;exact k b (YP a b) O (Chn.next f.tp f.tq f.lp f.lq f.bd.2.2.1 h d) d x c
theorem SrOk.mem(h:SrOk K p):∀x∈X2 p (Jb p),Jd x=x/\Cd (DY K p (Jb p)) x/\x.length<=max p.length (Jb p).length/\x≠[]:=by
 have a:=Chn.start h.ch.tp h.ch.tq h.ch.lp h.ch.lq h.ch.bd.2.2.1;refine eZ h.ch _ (JI p) (JI (Jb p)) (Aa _) a λe=>h.p0 (Az.1 ?_);rw[<-J4 h.ch.tp,e];rfl
theorem SrOk.last(h:SrOk K p):∃g,(X2 p (Jb p)).getLast?=some g/\g∈X2 p (Jb p)/\Jy p=(X2 p (Jb p)).map λa=>Jo a g:=by
 have c:JI p≠[]:=λe=>h.p0 (Az.1 (by rw[<-J4 h.ch.tp,e];rfl));obtain⟨g,b,_⟩:=OU _ (JI p) (JI (Jb p)) (Aa _) (Yj _) (Yj _) c;have b:(X2 p (Jb p)).getLast?=some g:=b;refine⟨g,b,List.mem_of_getLast? b,?_⟩;unfold Jy;rw[b];rfl
theorem SrOk.fit{x:List Rat}(h:SrOk K p)(a:x.length<=max p.length (Jb p).length):2*(DY K p (Jb p)+x.length*(DY K p (Jb p)+1)+1)+2*(2*DY K p (Jb p)+1)<=1000000000:=by
 have b:=h.ch.le;have c:x.length*(DY K p (Jb p)+1)<=max p.length (Jb p).length*(DY K p (Jb p)+1):=Aj _ a;have d:(max p.length (Jb p).length+2)*(DY K p (Jb p)+1)=max p.length (Jb p).length*(DY K p (Jb p)+1)+2*(DY K p (Jb p)+1):=AJ _ _ _;omega
theorem SrOk.sqs{K:Nat}{p:List Rat}(h:SrOk K p):Sqs p:=(show Cd K p from h.ch.cp).sqs h.ch.bd.2.1
theorem ec{α:Type}(i j:Nat)(s c:Nat->α):(if j=i then s i else if j<i then s j else c j)=if j<i+1 then s j else c j:=by
 by_cases e:j=i
 . subst e;rw[BC rfl,BC O]
 . rw[BA e];by_cases a:j<i
   . rw[BC a,BC O]
   . rw[BA a,BA O]
def ME(w wr:E)(g n i B4:Nat)(la:Option Addr)(ll a:Nat)(C S:List (List Rat))(q:List Rat):Prop:=
 EA wr g n (λj=>if j<i then S.getD j []else C.getD j [])/\Da wr B4 la ll a/\Je wr (.agg #[D la ll a]) q/\Bl w wr/\B4≠g/\w.heap.size<=g
theorem ef(K:Nat)(v:G)(p:List Rat)(w:E)(h:Je w v p)(l:SrOk K p)(aj:∀i,Sq (Gg p i)):
 Calls F 105 #[v] w λe w'=>∃g cap,e=.returned (D (some ⟨g,0,none⟩) (Jy p).length cap)/\(Jy p).length<=cap/\cap<=maxLen/\EA w' g (Jy p).length (λj=>(Jy p).getD j [])/\Bl w w':=by
 obtain⟨r,la,s,rfl⟩:=h.form;have d:Bl w (w.alloc (B #[D r la s] 25)):=Ba w _;obtain⟨W0,W⟩:=ex (w.alloc (B #[D r la s] 25));have n0:H W0 w.heap.size 25 (D r la s):=by rw[<-W];exact BG w _ _
 rw[W]at d;have Ql:=Ja W;have Qe:=Ja n0;have u:=n0.cell;obtain⟨HA,Qk,Qp,Qh⟩:=Dr d (λ(V:E) (hB:Bl W0 V)=>Lp (.agg #[D r la s]) p V ((h.below d).below hB) l.sqs aj) (λ(V:E) (hB:Bl W0 V) (y:G) (hy:Je V y (Jb p))=>eX (.agg #[D r la s]) y p (Jb p) V ((h.below d).below hB) hy) λ(V:E) (Bp Bq:Nat) (r qa:Option Addr) (pl s ql qc:Nat) (c:Da V Bp r pl s) (f:Da V Bq qa ql qc) (k:Je V (.agg #[D r pl s]) p) (o:Je V (.agg #[D qa ql qc]) (Jb p))=>eY K Bp Bq r qa pl s ql qc p (Jb p) V l.ch c f k o;obtain⟨q,P,af,R⟩:=l.last;obtain⟨tq,cq,lq,q0⟩:=l.mem q af;have Qn:=Ja λ(V:E) (a:List Rat) (x y:G) (ha:a∈X2 p (Jb p)) (hx:Je V x a) (hy:Je V y q)=>dM (DY K p (Jb p)) (DY K p (Jb p)) x y a q V hx hy (l.mem a ha).2.1 cq (l.mem a ha).1 tq q0 (l.fit (l.mem a ha).2.2.1);have T:X2 p (Jb p)≠[]:=λe=>by rw[e]at P;cases P
 have Qi:(X2 p (Jb p)).length<=1000000000:=by
  have c:∀(n:Nat) (a b:List Rat),(EK n a b).length<=n+1:=λn=>by
   induction n with
   |zero=>intro a b;exact Aa _
   |succ n ih=>
    intro a b;rw[EK];split
    . simp
    . have:=ih b (YP a b);simp only[Af];omega
  have f:=c (JI (Jb p)).length (JI p) (JI (Jb p));have k:=J4 l.ch.tq;have o:=l.ch.ln;show(EK _ _ _).length<=_;omega
 obtain⟨C,hC⟩:=ex (X2 p (Jb p));obtain⟨S,hS⟩:=ex (Jy p);rw[hC]at P af R T Qi Qh Qn;rw[hS]at R ⊢;have Qj:S.length=C.length:=by rw[R,CQ]
 obtain⟨Qs,Qu,Qm⟩:=Db (show ∀j (N:j<C.length),S.getD j []=Jo C[j] q from λj N=>by rw[R];simp[List.getD,N]) T λj (N:j<C.length)=>(⟨by simp[List.getD,N],FA N⟩:C.getD j []=C[j]/\C[j]∈C);rw[Qj];have Qr:0<C.length:=Ae.2 T;have Qa:=Ja (show C.getD (C.length-1) []=q by
  rw[List.getLast?_eq_getElem?]at P;rw[List.getD,P];rfl)
 obtain⟨n,hn⟩:=ex (C.length);have Qq:=Ja hn;rw[hn]at Qi Qr Qa ⊢;obtain⟨m,hm⟩:=ex (n-1:Nat);have aq:(n:Int)-1=(m:Int):=O
 have aw:IntKind.i64.wrap (m:Int)=(m:Int):=by rw[BO];omega
 have ax:(m:Int)<(n:Int):=O
 have Qt:m<n:=O
 have ay:(n:Int)<=1000000000:=O
 rw[hm]at Qa;clear h l aj d W n0 P af R tq cq lq q0 T hC hS Qj hn Qi hm;go_enter Tryz.func105,Tryz.ntmps105
 go_upto_region 1 with fail
 rw[Ql.o];clear Ql;have hq:Bl W0 W0.drew:=(BF _ W0).drew;go_region_held3 (λw'=>w'.cell? ⟨w.heap.size,0,none⟩=some (D r la s)) (first|(with_reducible exact u)|(go_keep;done))
  (first
   |(go_at_call 38;refine(Qk.o _ hq).mono ?_;clear Qk;rintro e w5 ⟨v5,rfl,g5,ad⟩;have hq:=Bt hq ad;clear u;have u:=(boxed_below Qe.o hq).cell)
   |(go_at_call 87;refine(Qp.o _ hq _ g5).mono ?_;clear Qp;rintro e w6 ⟨Bp,Bq,xa,xl,xc,ya,yl,yc,rfl,k1,k2,k3,k4,ae⟩;clear g5;have hq:=Bt hq ae;clear u;have u:=(boxed_below Qe.o hq).cell)
   |(go_at_call 153;refine(Qh.o _ _ _ _ _ _ _ _ _ k1 k2 k3 k4).mono ?_;clear Qh k1 k2 k3 k4;rintro e t ⟨v7,cs,rfl,o7,p7,ah⟩;have hq:=Bt hq ah;clear u;have u:=(boxed_below Qe.o hq).cell;obtain⟨g,cap,rfl,hg,ai,ak,hE⟩:=FW.els o7 p7 Qu.o;clear o7 p7))
 rw[Qq.o]at hE ai ⊢;obtain⟨z,I,A,e8,r8⟩:=hE.cell Qt;rw[Qa.o]at r8;have U:Bl t (t.alloc (B #[D z I A] 25)):=Ba t _;have Qf:Bl w t:=Bt HA.o hq;have Qv:=hE.lt;have Qo:w.heap.size<=g:=by
  have c:=HA.o.size;have f:W0.heap.size<=w5.heap.size:=ad.size;have k:=ae.size;omega
 have SR:Hid (ME w (t.alloc (B #[D z I A] 25)) g n 0 t.heap.size z I A C S q):=Ja ⟨(hE.below U).cong λj _=>rfl,BG t _ _,⟨_,rfl,r8.below U⟩,Bt Qf U,O,Qo⟩;clear hE r8 U Qf Qv Qo ad ae ah u;go_wp2;go_loopw [20] (λiv wr=>∃i:Nat,i<=n/\iv=.int .i64 (i:Int)/\Hid (ME w wr g n i t.heap.size z I A C S q)) λiv _=>n-(intOf iv).toNat
 case atStart=>exact⟨0,AO _,rfl,SR⟩
 case round=>
  obtain⟨i,hi,rfl,HR⟩:=hrel;clear SR;by_cases X:i<n
  . have ap:(i:Int)<(n:Int):=O
    have Qg:i<C.length:=by have:=Qq.o;omega
    obtain⟨c,f,k,o,L,M⟩:=HR.o;obtain⟨ya,yl,yc,e1,r1⟩:=c.cell X;rw[BA O,(Qm.o i Qg).1]at r1;have d:Bl wr (wr.alloc (B #[D ya yl yc] 25)):=Ba wr _;have HC:=Ja (Qn.o _ C[i] (.agg #[D ya yl yc]) (.agg #[D z I A]) (Qm.o i Qg).2 ⟨_,rfl,r1.below d⟩ (k.below d));rw[<-Qs.o i Qg]at HC;have HI:=Ja (show ME w (wr.alloc (B #[D ya yl yc] 25)) g n i t.heap.size z I A C S q from⟨c.below d,f.below d,k.below d,Bt o d,L,M⟩);have e2:=(f.below d).cell;clear c f k o L M r1 d HR;go_wp2_with(go_at_call 139;refine HC.o.mono ?_;clear HC;rintro e w9 ⟨u9,v9,rfl,g9,k9,Q⟩;obtain⟨a9,l9,c9,rfl⟩:=g9.form;obtain⟨am,az,an,rfl⟩:=k9.form;obtain⟨c,f,k,o,L,M⟩:=HI.o;have c:=c.below Q;obtain⟨xa,xl,xc,x0,_⟩:=c.cell X;have x1:=c.frozen i;have HE:=Ja (show ME w (w9.setCell ⟨g,i,none⟩ (D a9 l9 c9)) g n (i+1) t.heap.size z I A C S q from⟨(c.set X g9.row).cong λj _=>ec i j (S.getD · []) (C.getD · []),Bx.far (cs:=#[D z I A]) (f.below Q) (p:=⟨g,i,none⟩) L _,c.setK X (k.below Q),(Bt o Q).setCell (p:=⟨g,i,none⟩) M _,L,M⟩);clear c f k o L M g9 k9 Q HI)
    go_roundw
    case rel=>exact⟨i+1,O,by go_num,HE⟩
    case measure=>simp[intOf];omega
  . obtain rfl:i=n:=O
    go_wp2;go_ret;obtain⟨c,f,k,o,L,M⟩:=HR.o;exact⟨g,cap,rfl,ai,ak,c.cong λj N=>BC N,o⟩
theorem take_snoc{α:Type}{L:List α}{k:Nat}(h:k<L.length):∃r,L[k]=r/\L.take k++[r] <+: L/\L.take k++[r]=L.take (k+1):=
 ⟨_,rfl,by rw[List.take_append_getElem h];exact List.take_prefix _ _,List.take_append_getElem h⟩
theorem eh(w0:E)(L:List (List Rat))(f g cap:Nat)(P:H w0 f 120 (D (some ⟨g,0,none⟩) L.length cap))(hE:EA w0 g L.length λj=>L.getD j [])(hl:L.length<=1000000000)(hc:L.length<=cap):
 Hm 152 #[C (some ⟨f,0,none⟩)] w0 L Le:=by
 intro n l G W0 M z ad A N x;have c1:W0.cell? ⟨f,0,none⟩=some (D (some ⟨g,0,none⟩) L.length cap):=(boxed_below P M).cell;obtain⟨len,o⟩:=ex (L.length);obtain⟨m,S,X,T,W,V⟩:=Is o hE z A N x;have ae:(len:Int)<=1000000000:=O
 rw[o]at c1 hc;clear M z ad A N x P hE hl o;refine Br Tryz.func152 rfl trivial ?_ rfl;simp only[Tryz.ntmps152,As,Af,Ay,Nat.reduceAdd,Nat.reduceSub,Av,Aw,AG,AC,Ar,Au];gi_wp2;gi_loopw [7] (λq wr=>∃k:Nat,k<=len/\q=.int .i64 (k:Int)/\Hid (G (L.take k) wr/\W0.heap.size<=wr.heap.size)) λq _=>len-(intOf q).toNat
 case atStart=>exact⟨0,AO _,rfl,Ja ⟨V.o,Aa _⟩⟩
 case round=>
  obtain⟨k,hk,rfl,b⟩:=hrel;clear c1;by_cases af:k<len
  . have ah:(k:Int)<(len:Int):=O
    obtain⟨a,l1,c,e0,p⟩:=(S.o.below (T.o _ _ b.o.1)).cell (j:=k) (by have:=m.o;omega);have d:Bl wr (wr.alloc (B #[D a l1 c] 25)):=Ba wr _;have i:k<L.length:=by have:=m.o;omega
    have v:L.getD k []=L[k]:=by simp[List.getD,i]
    obtain⟨r,w,Q,K⟩:=take_snoc i;rw[v,w]at p;obtain⟨fn,tmps,assign,body,hy,I⟩:=W.o (n-1) (L.take k) r (.agg #[D a l1 c]) _ (X.o _ _ _ b.o.1 d) ⟨_,rfl,p.below d⟩ Q (An b.o.2 d.size);have t:=Ja K;have s:=Ja (An b.o.2 d.size);clear p d v w Q K i b;gi_wp2;refine⟨λh=>by simp[Fence.wide]at h,I.mono ?_⟩;rintro e u ⟨rfl,y,R,_⟩;have U:=Ja (show G (L.take (k+1)) u/\W0.heap.size<=u.heap.size from⟨by rw[<-t.o];exact y,An s.o R⟩);clear y R hy I t s e0;gi_wp2;go_roundw
    case rel=>exact⟨k+1,O,by go_num,U⟩
    case measure=>simp[intOf];omega
  . obtain rfl:k=len:=O
    gi_wp2;go_end0;exact⟨⟨_,rfl⟩,by have h:=b.o.1;rw[<-m.o,List.take_length]at h;exact h⟩
theorem ej(w0:E)(p:List Rat)(j:Nat)(d:Option Addr)(i g:Nat)(v:H w0 j 25 (D d i g))(hp:Je w0 (.agg #[D d i g]) p)(hl:p.length<=1000000000):
 Hm 117 #[C (some ⟨j,0,none⟩)] w0 p.reverse Ni:=by
 intro n l G W0 t S ah T X Q;have c1:W0.cell? ⟨j,0,none⟩=some (D d i g):=(boxed_below v t).cell;have q:=Ja (JX _ p W0 (hp.below t));obtain⟨len,w⟩:=ex (p.length);have aj:(len:Int)<=1000000000:=O
 have I:=Ja w;have Qk:=Ja λ(V:E) (h:Bl w0 V)=>(boxed_below v h).cell;have Qi:=Ja (λ(V:E) (h:Bl w0 V) (k:Nat) (hk:k<len) (r:Rat) (hr:p.reverse[k]?=some r)=>show Calls F 74 #[.agg #[D d i g],.int .i64 ((len:Int)-1-k)] V λe w'=>∃u,e=.returned u/\Jh w' u r/\Bl V w' by
  have P:=Hl _ p ((len:Int)-1-k) V (hp.below h);rw[BA O]at P;have e1:r=cf p ((len:Int)-1-k).toNat:=by
   rw[List.getElem?_reverse O]at hr;have h2:((len:Int)-1-k).toNat=p.length-1-k:=O
   rw[h2,cf,hr];rfl
  rw[e1];exact P)
 rw[w]at q;obtain⟨L,Qh,Qm,A⟩:=Dr S T X Q;clear t S ah T X Q v hp hl w;refine Br Tryz.func117 rfl trivial ?_ rfl;simp only[Tryz.ntmps117,As,Af,Ay,Nat.reduceAdd,Nat.reduceSub,Av,Aw,AG,AC,Ar,Au];gi_wp2_with(refine⟨trivial,λh=>by simp[Fence.wide]at h,?_⟩;gi_at_call 30;refine((BH (n:=_)).2 q.o).mono ?_;clear q;rintro e w4 ⟨rfl,a⟩)
 have K:=Ja (L.o _ _ _ A.o a);have z:=Ja a.size;clear a A c1;gi_loopw [3] (λx wr=>∃k:Nat,k<=len/\x=.int .i64 ((len:Int)-1-k)/\Hid (G (p.reverse.take k) wr/\W0.heap.size<=wr.heap.size)) λx _=>(intOf x+1).toNat
 case atStart=>exact⟨0,AO _,Z,Ja ⟨K.o,z.o⟩⟩
 case round=>
  obtain⟨k,hk,rfl,b⟩:=hrel;clear K z;by_cases ai:k<len
  . have y:=Ja (Qh.o _ _ b.o.1);have e0:=Qk.o wr y.o;have s:k<p.reverse.length:=by rw[List.length_reverse];have:=I.o;omega
    obtain⟨r,N,ad,W⟩:=take_snoc s;have o:=Ja (Qi.o wr y.o k ai r (by rw[<-N];exact Am s));obtain⟨m,hm⟩:=ex (len-1-k:Nat);have c:(len:Int)-1-k=(m:Int):=O
    have HM:=Ja hm;have ak:(m:Int)<=1000000000:=O
    rw[c]at o ⊢;have HT:=Ja W;have Ql:=Ja ad;clear hm c W ad N s;gi_wp2_with(refine⟨trivial,λh=>by simp[Fence.wide]at h,?_⟩;gi_at_call 74;refine((BH (n:=_)).2 o.o).mono ?_;clear o;rintro e w4 ⟨u4,rfl,af,a⟩;obtain⟨fn,tmps,assign,body,hy,U⟩:=Qm.o (n-1) (p.reverse.take k) r u4 w4 (L.o _ _ _ b.o.1 a) af Ql.o (An b.o.2 a.size))
    refine⟨λh=>by simp[Fence.wide]at h,U.mono ?_⟩;rintro e M ⟨rfl,R,ae,_⟩;have Qj:=Ja (show G (p.reverse.take (k+1)) M/\W0.heap.size<=M.heap.size from⟨by rw[<-HT.o];exact R,An b.o.2 (An a.size ae)⟩);clear R ae hy U af a b;gi_wp2;go_roundw
    case rel=>exact⟨k+1,O,by(congr 1;have:=HM.o;omega),Qj⟩
    case measure=>simp[intOf]
  . obtain rfl:k=len:=O
    have c:(k:Int)-1-k=-1:=O
    rw[c];gi_wp2;refine⟨trivial,?_⟩;gi_wp2;all_goals(refine⟨λf h=>(by cases h),?_⟩;gi_wp2;go_end0;exact⟨⟨_,rfl⟩,by have h:=b.o.1;rw[Ad (by rw[List.length_reverse,I.o];exact Aa _)]at h;exact h⟩)
end M3
section
open Go.RowKit Go.Shelf
variable{A X:Nat}{x:Rat}
theorem R9(d:DQ X x):∀l:List Rat,(∀i,DQ A (cf l i))->DQ (l.length*(A+X+1)+1) (ev l x):=by
 intro l;induction l with
 |nil=>intro _;exact DQ.zero _ Z
 |cons c t e=>
  intro h;have b:=e (λi=>by have:=h (i+1);rwa[J3]at this);have a:=h 0;rw[YQ]at a;rw[ev,Af,AJ];exact(a.add2 (d.mul2 b)).mono O
theorem er{ps:List Rat}(b:DQ X x)(hp:∀i,DQ A (cf ps i))(d:ps.length*(A+X+1)+1+X<=1000000000):M3.Ke ps x:=λn=>by
 have a:=R9 b (ps.drop n) (λi=>by
  have e:cf (ps.drop n) i=cf ps (n+i):=by simp[cf]
  rw[e];exact hp _)
 have c:(ps.drop n).length*(A+X+1)<=ps.length*(A+X+1):=Aj _ (by rw[AU];omega);exact⟨Sq.of a O,Sq.of (a.mul2 b) O⟩
end
theorem ey(l:List (List Rat)):l.map Ee=(X9 l).map Di:=by simp[X9,Ee,Function.comp_def]
theorem ez(n:Nat):((-1:Rat))^n=if n%2=0 then 1 else -1:=by
 induction n with
 |zero=>rfl
 |succ n a=>
  rw[Rat.pow_succ,a];by_cases h:n%2=0
  . rw[BC h,BA O];grind
  . rw[BA h,BC O];grind
theorem fA(l:List (List Rat))(h:∀p∈l,p≠[]):l.map Gu=(Ei l).map Di:=by
 unfold Ei;rw[List.map_map];refine List.map_congr_left λp hp=>?_;have b:=Ae.2 (h p hp);show Gu p=Di ((-1)^(p.length-1)*cf p (p.length-1));unfold Gu Ee;rw[ez];by_cases a:p.length%2=0
 . rw[BC a,BA O,<-Zi];congr 1;grind
 . rw[BA a,BC O,Cn]
namespace M3
open Go.RowKit Go.Shelf
attribute [local go_sem] Oper.semAt_some
variable{pb:Array G}{f:List Rat->Int}{pf:Nat}
theorem fB(a:Option Addr)(l c:Nat)(w:E):
 Calls F 104 #[D a l c] w λe b=>∃B,e=.returned (.func (.func 152) #[] #[C (some ⟨B,0,none⟩)])/\H b B 120 (D a l c)/\Bl w b:=by
 go_enter Tryz.func104,Tryz.ntmps104
 go_wp2_with fail
 go_ret;exact⟨_,rfl,BG w _ _,Ba w _⟩
theorem fC(g p:Nat)(lb pb:Array G)(w:E):
 Calls F 106 #[.func (.func g) #[] lb,.func (.func p) #[] pb] w λe b=>∃d c,e=.returned (.func (.func 154) #[] #[C (some ⟨d,0,none⟩),C (some ⟨c,0,none⟩)])/\H b d 125 (.func (.func g) #[] lb)/\H b c 39 (.func (.func p) #[] pb)/\Bl w b:=by
 have f:Bl w ((w.alloc (B #[.func (.func g) #[] lb] 125)).alloc (B #[.func (.func p) #[] pb] 39)):=(Ba w _).alloc (by rw[Ax];omega) _;have a:=BG (w.alloc (B #[.func (.func g) #[] lb] 125)) 39 (.func (.func p) #[] pb);rw[Ax]at a;have j:=Ja f;have i:=Ja a;clear f a;go_enter Tryz.func106,Tryz.ntmps106
 go_wp2_with fail
 go_ret;exact⟨_,_,rfl,(BG w _ _).alloc _,i.o,j.o⟩
theorem fD(g p:Nat)(lb pb:Array G)(w:E):
 Calls F 55 #[.func (.func g) #[] lb,.func (.func p) #[] pb] w λe b=>∃d c,e=.returned (.func (.func 116) #[] #[C (some ⟨d,0,none⟩),C (some ⟨c,0,none⟩)])/\H b d 96 (.func (.func g) #[] lb)/\H b c 61 (.func (.func p) #[] pb)/\Bl w b:=by
 have f:Bl w ((w.alloc (B #[.func (.func g) #[] lb] 96)).alloc (B #[.func (.func p) #[] pb] 61)):=(Ba w _).alloc (by rw[Ax];omega) _;have a:=BG (w.alloc (B #[.func (.func g) #[] lb] 96)) 61 (.func (.func p) #[] pb);rw[Ax]at a;have j:=Ja f;have i:=Ja a;clear f a;go_enter Tryz.func55,Tryz.ntmps55
 go_wp2_with fail
 go_ret;exact⟨_,_,rfl,(BG w _ _).alloc _,i.o,j.o⟩
structure Tells(pf:Nat)(pb:Array Value)(w:World)(xs:List (List Rat))(f:List Rat->Int):Prop where
 plc:I4 pf pb w xs Le f
 ent:∀args w,(callFunc pf args).run Tryz.prog w=.ok (.enter pf args) w
 sg:∀x∈xs,-1<=f x/\f x<=1
theorem I4.later{α:Type}{w b:E}{xs:List α}{a:E->G->α->Prop}{f:α->Int}(h:I4 pf pb w xs a f)(d:Bl w b):I4 pf pb b xs a f:=
 λW v x c e g=>h W v x (Bt d c) e g
theorem SA(L:List (List Rat))(b g cap c a:Nat)(w:E)(k:H w b 120 (D (some ⟨g,0,none⟩) L.length cap))(hE:EA w g L.length λj=>L.getD j [])(hl:L.length<=1000000000)(m:L.length<=cap)(d:Tells pf pb w L f)(l:H w c 125 (.func (.func 152) #[] #[C (some ⟨b,0,none⟩)]))(i:H w a 39 (.func (.func pf) #[] pb)):
 Calls F 54 #[.func (.func 154) #[] #[C (some ⟨c,0,none⟩),C (some ⟨a,0,none⟩)]] w λe p=>e=.returned (.int .i64 (F7 (L.map f):Int))/\Bl w p:=
 QT w (L.map f) (Zk w L f c a (eh w L b g cap k hE hl m) (Bg Tryz.func152 (by kernel_rfl) rfl) d.ent l i d.plc) (Bg Tryz.func154 (by kernel_rfl) rfl)
  (λs n=>by obtain⟨x,o,rfl⟩:=C1.1 n;exact d.sg x o) (by rw[CQ];exact hl)
theorem SrOk.len{K:Nat}{p:List Rat}(d:SrOk K p):(Jy p).length<=1000000000/\0<(Jy p).length:=by
 obtain⟨g,e,_,c⟩:=d.last;rw[c,CQ];have e:∀(n:Nat) (a b:List Rat),(EK n a b).length<=n+1/\0<(EK n a b).length:=λn=>by
  induction n with
  |zero=>intro a b;exact⟨Aa _,Nat.one_pos⟩
  |succ n f=>
   intro a b;rw[EK];split
   . simp
   . have:=f b (YP a b);simp only[Af];omega
 have c:=e (JI (Jb p)).length (JI p) (JI (Jb p));have i:=J4 d.ch.tq;have j:=d.ch.ln;refine⟨?_,c.2⟩;show(EK _ _ _).length<=_;omega
theorem OX(K:Nat)(v:G)(p:List Rat)(w:E)(h:Je w v p)(N:SrOk K p)(aj:∀i,Sq (Gg p i)){z:Nat}{y:Array G}{f2:List Rat->Int}(o:Tells pf pb w (Jy p) f)(q:Tells z y w (Jy p) f2):
 Calls F 46 #[v,.func (.func pf) #[] pb,.func (.func z) #[] y] w λe w'=>e=.returned (.int .i64 ((F7 ((Jy p).map f):Int)-(F7 ((Jy p).map f2):Int)))/\Bl w w':=by
 obtain⟨pa,la,pc,rfl⟩:=h.form;have d:Bl w (w.alloc (B #[D pa la pc] 25)):=Ba w _;obtain⟨W0,A⟩:=ex (w.alloc (B #[D pa la pc] 25));have n0:H W0 w.heap.size 25 (D pa la pc):=by rw[<-A];exact BG w _ _
 rw[A]at d;have Qh:=Ja A;have Qj:=Ja n0;have R:=n0.cell;have HA:=Ja d;obtain⟨m,hm⟩:=ex (p.length-1:Nat);have Qi:(p.length:Int)-1=(m:Int):=by have:=Ae.2 N.p0;omega
 have P:=Ja λ(V:E) (a:Bl W0 V)=>JX _ p V ((h.below d).below a);rw[Qi]at P;obtain⟨X,r,Q,T⟩:=Dr (λ(V:E) (a:Bl W0 V)=>ef K _ p V ((h.below d).below a) N aj) N.len (λ(V:E) (a:Bl W0 V)=>(⟨o.plc.later (Bt d a),o.ent,o.sg⟩:Tells pf pb V (Jy p) f)) λ(V:E) (a:Bl W0 V)=>(⟨q.plc.later (Bt d a),q.ent,q.sg⟩:Tells z y V (Jy p) f2);obtain⟨S,hS⟩:=ex (Jy p);rw[hS]at X r Q T ⊢;have U:∀(g:List Rat->Int),Tells pf pb w S g\/Tells z y w S g->F7 (S.map g)<=1000000000:=λg M=>by
  have t:∀x∈S,-1<=g x/\g x<=1:=by rcases M with M|M<;>exact M.sg
  have u:=(QR (S.map g) (0,0) (λs hs=>by obtain⟨x,hx,rfl⟩:=C1.1 hs;exact t x hx) DF).2;rw[CQ]at u;have:=r.o.1;show(List.foldl Do (0,0) (S.map g)).1<=_;omega
 rw[hS]at o q;have l1:=U f (Or.inl o);have l2:=U f2 (Or.inr q);obtain⟨n1,ae⟩:=ex (F7 (S.map f));obtain⟨n2,af⟩:=ex (F7 (S.map f2));rw[ae]at l1 ⊢;rw[af]at l2 ⊢;have Qg:=Ja λ(b g cap n l:Nat) (V:E) (a:Bl W0 V) (t:H V b 120 (D (some ⟨g,0,none⟩) S.length cap)) (u:EA V g S.length λj=>S.getD j []) (h3:S.length<=cap) (h4:H V n 125 (.func (.func 152) #[] #[C (some ⟨b,0,none⟩)])) (h5:H V l 39 (.func (.func pf) #[] pb))=>SA S b g cap n l V t u r.o.1 h3 (Q.o V a) h4 h5;have W:=Ja λ(b g cap n l:Nat) (V:E) (a:Bl W0 V) (t:H V b 120 (D (some ⟨g,0,none⟩) S.length cap)) (u:EA V g S.length λj=>S.getD j []) (h3:S.length<=cap) (h4:H V n 125 (.func (.func 152) #[] #[C (some ⟨b,0,none⟩)])) (h5:H V l 39 (.func (.func z) #[] y))=>SA S b g cap n l V t u r.o.1 h3 (T.o V a) h4 h5;rw[ae]at Qg;rw[af]at W;clear h N aj o q d A n0 hm Qi hS U ae af r Q T;go_enter Tryz.func46,Tryz.ntmps46
 go_upto_region 1 with fail
 rw[Qh.o];clear Qh;have hq:=BF W0.heap.size W0;go_upto_region 3 with(go_at_call 30;refine(P.o _ hq).mono ?_;clear P;rintro e w5 ⟨rfl,ak⟩;have hq:=Bt hq ak;clear R;have R:=(boxed_below Qj.o hq).cell)
 go_upto_region 4 with(first
  |(go_at_call 105;refine(X.o _ hq).mono ?_;clear X;rintro e w6 ⟨g,cap,rfl,ai,an,hE,am⟩;have hq:=Bt hq am;clear R)
  |(go_at_call 104;refine(fB _ _ _ _).mono ?_;rintro e w7 ⟨b,rfl,c,ah⟩;have hq:=Bt hq ah;have hE:=hE.below ah))
 go_wp2_with(first
  |(go_at_call 106;refine(fC _ _ _ _ _).mono ?_;rintro e w8 ⟨n,l,rfl,L,I,ad⟩;have hq:=Bt hq ad;have hE:=hE.below ad;have c:=boxed_below c ad)
  |(go_at_call 54;refine(Qg.o _ _ _ _ _ _ hq c hE ai L I).mono ?_;clear Qg L I;rintro e w9 ⟨rfl,k⟩;have hq:=Bt hq k;have hE:=hE.below k;have c:=boxed_below c k)
  |(go_at_call 54;refine(W.o _ _ _ _ _ _ hq c hE ai L I).mono ?_;clear W L I;rintro e w9 ⟨rfl,k⟩;have hq:=Bt hq k;have hE:=hE.below k;have c:=boxed_below c k))
 go_ret;exact⟨rfl,Bt HA.o hq⟩
end M3
section
open Go.RowKit Go.Shelf
def ES(p:List Rat):Int:=if p=[]then -1 else(DO (Ei (Jy p)):Int)-(DO (X9 (Jy p)):Int)
def Gz(p:List Rat)(x:Rat):Int:=if p=[]then -1 else(DO (Ei (Jy p)):Int)-(DO (JQ (Jy p) x):Int)
def E5(p:List Rat)(x y:Rat):Int:=if p=[]then -1 else if y<=x then 0 else(DO (JQ (Jy p) x):Int)-(DO (JQ (Jy p) y):Int)
structure CtOk(K X:Nat)(p:List Rat):Prop where
 ch:M3.ChOk K p (Jb p)
 fit:max p.length (Jb p).length*(DY K p (Jb p)+max p.length (Jb p).length*(DY K p (Jb p)+1)+1+X+1)+1+X<=1000000000
variable{p:List Rat}{K X:Nat}
theorem CtOk.sr(h:CtOk K X p)(p0:p≠[]):M3.SrOk K p:=⟨h.ch,p0⟩
theorem CtOk.sl(h:CtOk K X p)(i:Nat):Sq (Gg p i):=by
 have a:=(show Cd K (Jb p)from h.ch.cq).smq i;unfold Jb at a;rw[Yf,Im]at a;exact Sq.of a h.ch.bd.2.1
theorem CtOk.row(h:CtOk K X p)(p0:p≠[]):∀y∈Jy p,Sqs y/\y≠[]/\y.length<=1000000000/\∀x,DQ X x->M3.Ke y x/\Sq (ev y x):=by
 intro y b;have l:=(Kv h.ch.tp p0 y b).2;obtain⟨g,_,r,e⟩:=(h.sr p0).last;rw[e]at b;obtain⟨a,q,rfl⟩:=C1.1 b;obtain⟨ta,ca,la,m⟩:=(h.sr p0).mem a q;obtain⟨s,c,z,o⟩:=(h.sr p0).mem g r;have j:=h.fit;obtain⟨n,f⟩:=ex (max p.length (Jb p).length);obtain⟨A,d⟩:=ex (DY K p (Jb p));rw[f,d]at j;rw[f]at la;rw[d]at ca c;have c1:=ca.quoG c s o;have t:a.length*(A+1)<=n*(A+1):=Aj _ la;have c2:Cd (A+n*(A+1)+1) (Jo a g):=c1.mono O;have l1:(Jo a g).length<=a.length:=by
  unfold Jo;refine An (YR _) ?_;rw[(YS _ _ _ _ _).1];omega
 have k:0<n:=by have:=Ae.2 m;omega
 have u:1*(A+n*(A+1)+1+X+1)<=n*(A+n*(A+1)+1+X+1):=Aj _ k;have v:(Jo a g).length*(A+n*(A+1)+1+X+1)<=n*(A+n*(A+1)+1+X+1):=Aj _ O;have w:n*1<=n*(A+n*(A+1)+1+X+1):=Aq _ O;refine⟨c2.sqs O,l,O,λx i=>⟨er i c2.smq O,Sq.of (R9 i _ c2.smq) O⟩⟩
namespace M3
attribute [local go_sem] Oper.semAt_some
variable{p:List Rat}{K X:Nat}
theorem SB(e:CtOk K X p)(p0:p≠[])(w:E):Tells 47 #[] w (Jy p) Gu where
 plc:=λW v y _ d f=>by
  obtain⟨a,b,c,_⟩:=e.row p0 y f;have:=Zn v y W d a b c;simpa using this
 ent:=Bg Tryz.func47 (by kernel_rfl) rfl
 sg:=λy _=>by
  have:=Kg (cf y (y.length-1));unfold Gu Ee;split<;>omega
theorem fE(d:CtOk K X p)(p0:p≠[])(w:E):Tells 48 #[] w (Jy p) Ee where
 plc:=λW v y _ c e=>by
  obtain⟨a,b,f,_⟩:=d.row p0 y e;have:=QU v y W c a b;simpa using this
 ent:=Bg Tryz.func48 (by kernel_rfl) rfl
 sg:=λy _=>Kg _
theorem OY(i:CtOk K X p)(p0:p≠[])(w:E){B:Nat}{s t:Bool}{a b:Option Addr}{l c k d:Nat}{x:Rat}(e:DQ X x)(n:JM w B 37 (.bool s) (D a l c) (.bool t) (D b k d))(q:Jh w (.agg #[.bool s,D a l c,.bool t,D b k d]) x):Tells 112 #[C (some ⟨B,0,none⟩)] w (Jy p) (λy=>Di (ev y x)) where
 plc:=λW v y g o r=>by
  obtain⟨j,u,z,f⟩:=i.row p0 y r;have m:X<=1000000000:=by have:=i.fit;omega
  have:=Zo v y x B s t a b l c k d W o (n.below g) (q.below g) j (Sq.of e m) (f x e).1 (f x e).2;simpa using this
 ent:=Bg Tryz.func112 (by kernel_rfl) rfl
 sg:=λy _=>Kg _
theorem SC(tp:Jd p=p)(p0:p≠[]):F7 ((Jy p).map Gu)=DO (Ei (Jy p)):=by
 rw[fA _ λy a=>(Kv tp p0 y a).2,Ld]
theorem fF(l:List (List Rat)):F7 (l.map Ee)=DO (X9 l):=by rw[ey,Ld]
theorem OZ(l:List (List Rat))(x:Rat):F7 (l.map λy=>Di (ev y x))=DO (JQ l x):=by
 rw[<-Ld];unfold JQ;rw[List.map_map];rfl
theorem Oa(v:G)(w:E)(h:Je w v [])(f f2:G):
 Calls F 46 #[v,f,f2] w λe j=>e=.returned (.int .i64 (-1))/\Bl w j:=by
 obtain⟨g,la,i,rfl⟩:=h.form;have b:Bl w (w.alloc (B #[D g la i] 25)):=Ba w _;have a:=Ja (JX _ [] _ (h.below b));rw[show(([]:List Rat).length:Int)-1=-1 from rfl]at a;have c:=Ja b;clear h b;go_enter Tryz.func46,Tryz.ntmps46
 go_wp2_with(go_at_call 30;refine a.o.mono ?_;clear a;rintro e k ⟨rfl,d⟩)
 go_ret;exact⟨rfl,Bt c.o d⟩
theorem MF(K X:Nat)(v:G)(p:List Rat)(w:E)(h:Je w v p)(a:CtOk K X p):
 Calls F 13 #[v] w λe g=>e=.returned (.int .i64 (ES p))/\Bl w g:=by
 obtain⟨b,la,c,rfl⟩:=h.form;have d:Bl w (w.alloc (B #[D b la c] 25)):=Ba w _;have f:=Ja (show Calls F 46 #[.agg #[D b la c],.func (.func 47) #[] #[],.func (.func 48) #[] #[]] (w.alloc (B #[D b la c] 25)) λe g=>e=.returned (.int .i64 (ES p))/\Below (w.alloc (B #[D b la c] 25)).heap.size (w.alloc (B #[D b la c] 25)) g by
  unfold ES;by_cases p0:p=[]
  . rw[BC p0];rw[p0]at h;exact Oa _ _ (h.below d) _ _
  . rw[BA p0];have i:=OX K _ p _ (h.below d) (a.sr p0) a.sl (SB a p0 _) (fE a p0 _);rw[SC a.ch.tp p0,fF]at i;exact i)
 have k:=Ja d;obtain⟨n,j⟩:=ex (ES p);rw[j]at f ⊢;clear h a d j;go_enter Tryz.func13,Tryz.ntmps13
 go_wp2_with(go_at_call 46;refine f.o.mono ?_;clear f;rintro e m ⟨rfl,l⟩)
 go_ret;exact⟨rfl,Bt k.o l⟩
end M3
end
variable{a b p u v w y:List Rat}
theorem fG(p:List Rat){B:Rat}(a:0<=B):∃K,0<K/\∀x y,Wi B x->Wi B y->x<=y->Wi (K*((y-x)*(y-x))) (ev p y-ev p x-(y-x)*dv p x):=by
 induction p with
 |nil=>exact⟨1,DF,λx y _ _ _=>by
  have:=Ec (y-x);constructor<;>simp[ev,dv]<;>grind⟩
 |cons c t m=>
  obtain⟨K,j,h⟩:=m;obtain⟨D,hD,k⟩:=Xp (Jb t) a;refine⟨B*K+D+1,by have:=Rat.mul_nonneg a (Rat.le_of_lt j);grind,λx y d f l=>?_⟩;have n:=Ec (y-x);have g:Wi ((y-x)*(y-x)) ((y-x)*(y-x)):=⟨by grind,by grind⟩;have b:=k x d;rw[Xk]at b;have i:=(f.mul (h x y d f l)).add (g.mul b);have e:ev (c::t) y-ev (c::t) x-(y-x)*dv (c::t) x=y*(ev t y-ev t x-(y-x)*dv t x)+(y-x)*(y-x)*dv t x:=by
   rw[Hc,Hc,show dv (c::t) x=ev t x+x*dv t x from rfl];grind
  rw[e];refine i.mono ?_;grind
def JS(p:List Rat)(x y:Rat):Nat:=if ev p x≠0/\ev p x*ev p y<=0 then 1 else 0
theorem YI{x y:Rat}(h:DR p x y):JS p x y=0:=by
 unfold JS DR at *;rw[BA λq=>by have:=q.2;grind]
theorem fH{B k:Rat}(i:0<=B)(f:0<k)(s:Sh B λx z=>¬DR w x z->k<=ev y x*ev (Jb w) x/\k<=ev y z*ev (Jb w) z):Sh B λx z=>¬DR w x z->x<z->0<ev (Jb w) x*(ev w z-ev w x):=by
 obtain⟨c,n,M⟩:=Xp y i;obtain⟨D,U,hD⟩:=Xp (Jb w) i;obtain⟨K,V,L⟩:=fG w i;obtain⟨e,o,N⟩:=small (K:=(c*c)*(D*K)) (r:=k*k/2) (Rat.le_of_lt (Rat.mul_pos (Rat.mul_pos n n) (Rat.mul_pos U V))) (by have:=Rat.mul_pos f f;grind);have W:Sh B λx z=>z-x<=e:=⟨e,o,λ_ _ _ _ _ h=>h⟩;refine(s.and W).mono λx z j S R ⟨p,l⟩ P ad=>?_;obtain⟨X,_⟩:=p P;have g:=L x z j S R;rw[<-Xk]at g;have A:=M x j;have I:=hD x j;generalize ev (Jb w) x=d at *;generalize ev y x=v at *;generalize ev w z-ev w x=t at *;obtain⟨u,Q⟩:=ex (z-x);rw[Q]at l g;have u0:0<u:=by grind
 have h7:k*k<=(c*c)*(d*d):=by
  have m:=Rat.mul_nonneg (a:=v*d-k) (b:=v*d+k) (by grind) (by grind);have T:=Rat.mul_nonneg (a:=c*c-v*v) (b:=d*d) (by have:=Ma A;grind) (Ec d);grind
 have h8:u*(d*d)-(D*K)*(u*u)<=d*t:=by
  have m:=(I.mul g).1;grind
 have h9:=N u l;have hp:0<(c*c)*(d*t):=by
  have m:=Rat.mul_nonneg (a:=c*c) (b:=d*t-(u*(d*d)-(D*K)*(u*u))) (Ec c) (by grind);have T:=Rat.mul_nonneg (a:=u) (b:=(c*c)*(d*d)-k*k) (by grind) (by grind);have i3:=Rat.mul_nonneg (a:=u) (b:=k*k/2-(c*c)*(D*K)*u) (by grind) (by grind);have i4:=Rat.mul_pos u0 (Rat.mul_pos f f);grind
 rcases J9 (d*t) 0 with q|q
 . have:=Rat.mul_nonneg (a:=c*c) (b:=-(d*t)) (Ec c) (by grind);grind
 . rcases Rat.le_iff_lt_or_eq.1 q with q|q
   . exact q
   . rw[<-q]at hp;grind
theorem Ob{R:List Rat}(h:Yun R w y){B:Rat}(a:0<=B):Sh B λx z=>¬DR w x z->x<z->0<ev (Jb w) x*(ev w z-ev w x):=by
 obtain⟨k,b,s⟩:=L4 _ _ _ _ (Aa _) h a;exact fH a b s
theorem XE{a b:Rat}(h:0<(a*a)*b):0<b:=by
 rcases J9 b 0 with q|q
 . have:=Rat.mul_nonneg (a:=a*a) (b:=-b) (Ec a) (by grind);grind
 . rcases Rat.le_iff_lt_or_eq.1 q with q|q
   . exact q
   . rw[<-q]at h;grind
theorem fI{a b u v:Rat}(c:0<a*(v-u))(i:0<b*(v-u))(e:u*v<=0):
 (if u*a<0 then 1 else 0)=(if v*b<0 then 1 else 0)+(if u≠0/\u*v<=0 then 1 else 0:Nat):=by
 by_cases u0:u=0
 . subst u0;rw[BA (by grind),BA (by grind),BA Z]
 . have f:u*a<0:=by
    rcases J9 0 (u*a)with q|q
    . exfalso
      have d:=(Jv c).1;have q:0<u*a:=by
       rcases Rat.le_iff_lt_or_eq.1 q with q|q
       . exact q
       . rcases AM.1 q.symm with q|q
         . exact absurd q u0
         . exact absurd q d
      have:=Rat.mul_pos q (show 0<v*a by grind);have:=XE (a:=a) (b:=u*v) (by grind);grind
    . rcases Rat.le_iff_lt_or_eq.1 q with q|q
      . exact q
      . rcases AM.1 q with q|q
        . exact absurd q u0
        . exact absurd q (Jv c).1
   have g:¬v*b<0:=λq=>by
    have:=Rat.mul_pos (a:=-(v*b)) (b:=-(u*b)) (by grind) (by grind);have:=XE (a:=b) (b:=u*v) (by grind);grind
   rw[BC f,BA g,BC ⟨u0,e⟩]
theorem fJ{f1:List Rat}{n:Nat}{d:List (List Rat)}(a:E2 n w b=w::f1::d):b≠[]/\f1=Yq b:=by
 cases n with
 |zero=>
  have c:[w]=w::f1::d:=a;exact absurd (List.cons.inj c).2 Z
 |succ n=>
  by_cases w0:b=[]
  . rw[E2,BC w0]at a;exact absurd (List.cons.inj a).2 Z
  . rw[E2,BA w0]at a;have c:=(List.cons.inj a).2;obtain⟨t,e⟩:=Ku n (Yq b) (DN (-1) (JK w (Yq b)));rw[e]at c;exact⟨w0,(List.cons.inj c).1.symm⟩
theorem fK(tp:Jd p=p)(p0:p≠[]){B:Rat}(j:0<=B):Sh B λx z=>DO (JQ (GU p) x)=DO (JQ (GU p) z)+JS (DK p) x z:=by
 have d:Yun (Jp p) (DK p) (Dc p):=Yun.start (YF p) (KC tp p0) (Hr tp);have n:=MA _ _ _ _ (Aa _) d;have l:=R8 _ (DK p) (Jb (DK p)) (Aa _) d.tw (Jq _) n;refine((l.gd j).and (Ob d j)).mono λx z _ _ A ⟨b,y⟩=>?_;show DO (JQ (GU p) x)=DO (JQ (GU p) z)+JS (DK p) x z;obtain⟨m,f⟩:=Ku (Jb (DK p)).length (DK p) (Jb (DK p));unfold GU;rw[f]at b ⊢;by_cases st:DR (DK p) x z
 . rw[YI st,b.stay st];rfl
 . cases m with
   |nil=>exact absurd b.o st
   |cons f1 K=>
    obtain⟨w0,k⟩:=fJ f;have o:=OV (Jq (DK p)) w0;obtain⟨c,e⟩:∃c,1/Xu (cf (Jb (DK p)) ((Jb (DK p)).length-1))=c:=⟨_,rfl⟩;rw[e]at o;have t:ev f1 x=ev (Jb (DK p)) x*c:=by rw[k,<-e];exact JJ _ _ _
    have g:=(b.adj).resolve_left st;obtain⟨L,M⟩:=Jv g;have sm:=b.tail.same _ K f1 (Aa _) g;rw[JL,JL,JL,JL,IB L,IB M,sm];clear sm f l n d b k e w0;have r:ev (DK p) x*ev (DK p) z<=0:=Rat.not_lt.1 st;rcases Rat.le_iff_lt_or_eq.1 A with w|v
    . have i:0<ev f1 x*(ev (DK p) z-ev (DK p) x):=by
       rw[t];have:=Rat.mul_pos (y st w) o;grind
      have s:0<ev f1 z*(ev (DK p) z-ev (DK p) x):=XE (a:=ev f1 x) (by
       have:=Rat.mul_pos (show 0<ev f1 x*ev f1 z from g) i;grind)
      have:=fI i s r;unfold JS;rw[this];omega
    . subst v;have u0:ev (DK p) x=0:=by
       have u:=Ec (ev (DK p) x);rcases AM.1 (Rat.le_antisymm r u)with q|q<;>exact q
      have I:JS (DK p) x x=0:=by
       unfold JS;exact BA λq=>q.1 u0
      rw[I];omega
theorem Oc(h:DU u v){B:Rat}(i:0<=B):Sh B λx z=>JS (Jr u v) x z=JS u x z+JS v x z:=by
 obtain⟨s,t,w⟩:=h;obtain⟨S,k,o⟩:=Xp s i;obtain⟨T,l,p⟩:=Xp t i;have d:∀ {r K:Rat},0<K->K*(r/K)=r:=λI=>by rw[Ck,Ap (by grind)]
 refine((GX u i (Yy GY k)).and (GX v i (Yy GY l))).mono λx z j _ _ ⟨m,n⟩=>?_;have e:∀y,ev (Jr u v) y=ev u y*ev v y:=λy=>Jg _ _ _;by_cases g:DR u x z
 . by_cases c:DR v x z
   . have:DR (Jr u v) x z:=by
      unfold DR at *;rw[e,e];have:=Rat.mul_pos g c;grind
     rw[YI this,YI g,YI c]
   . rw[YI g,AY];unfold JS DR at *;rw[e,e];obtain⟨u1,u2⟩:=Jv g;by_cases q:ev v x≠0/\ev v x*ev v z<=0
     . rw[BC q,BC ⟨λf=>by rcases AM.1 f with f|f;exact u1 f;exact q.1 f,by have:=Rat.mul_nonneg (a:=ev u x*ev u z) (b:=-(ev v x*ev v z)) (by grind) (by grind);grind⟩]
     . rw[BA q,BA];rintro⟨f1,f2⟩;refine q ⟨λf=>f1 (by rw[f];grind),?_⟩;exact Rat.not_lt.1 c
 . have c:DR v x z:=Classical.byContradiction λc=>by
    have L:=K0 (w x) (o x j) (m g).1 (by rw[d k];exact Rat.le_refl);have A:=((p x j).mul (n c).1).2;rw[d l]at A;grind
   rw[YI c,Cj];unfold JS DR at *;rw[e,e];obtain⟨u1,u2⟩:=Jv c;by_cases q:ev u x≠0/\ev u x*ev u z<=0
   . rw[BC q,BC ⟨λf=>by rcases AM.1 f with f|f;exact q.1 f;exact u1 f,by have:=Rat.mul_nonneg (a:=ev v x*ev v z) (b:=-(ev u x*ev u z)) (by grind) (by grind);grind⟩]
   . rw[BA q,BA];rintro⟨f1,f2⟩;refine q ⟨λf=>f1 (by rw[f];grind),?_⟩;exact Rat.not_lt.1 g
theorem DU.of_unit(h:Dv a [1])(c:List Rat):DU a c:=by
 obtain⟨d,b⟩:=h;refine⟨d,[],λx=>?_⟩;have:=b x;rw[Jm]at this;simp[ev];grind
theorem DU.mul_left{c:List Rat}(h:DU a c)(d:DU b c):DU (Jr a b) c:=(h.symm.mul d.symm).symm
theorem SF:∀(n:Nat) (R w y:List Rat),R.length<=n->Yun R w y->∀c,DU w c->DU R c:=by
 intro n;induction n with
 |zero=>intro R w y k h;exact absurd (Az.1 O) h.R0
 |succ n l=>
  intro R w y k h c e;by_cases hl:w.length<=1
  . obtain⟨d,j⟩:=Ig h.tw h.w0 hl;refine DU.of_unit (KG h.tR h.R0 ⟨Jr d y,λx=>?_⟩) c;have o:=h.eq x;have a:=j x;rw[Jm]at a;rw[Jg]
    have:ev (Jb R) x=(ev w x*ev d x)*ev (Jb R) x:=by rw[<-a,Cn]
    rw[this];grind
  . obtain⟨_,_,a,b,_,g⟩:=h.step;have m:(Jo R w).length<=n:=by
     have:=JA h.tw a.tR h.w0 a.R0;rw[<-b]at this;omega
    have f:Dv (Jo w (Jz w (JD y (Jb w)))) w:=⟨Jz w (JD y (Jb w)),λx=>by
     have:=Jg (Jz w (JD y (Jb w))) (Jo w (Jz w (JD y (Jb w)))) x;rw[<-g]at this;rw[this];grind⟩
    have i:=l _ _ _ m a c (e.of_dv f);rw[b];exact e.mul_left i
def E9(u:List Rat):Prop:=DU u (Jb u)
theorem E9.parts(h:E9 (Jr a b)):DU a b:=by
 obtain⟨u,v,e⟩:=h;refine⟨XI (Jr u b) (Jr v (Jb b)),Jr v (Jb a),λx=>?_⟩;have c:=e x;have d:=Yo a b x;rw[Jg]at c;rw[d]at c;rw[YK,Jg,Jg,Jg];grind
theorem E9.dv(j:Jd u=u)(l:Jd v=v)(U:v≠[])(S:E9 v)(h:∀c,DU u c->DU v c):Dv v u:=by
 have n:=Xm j l (Or.inr U);have z:=Yi u v;obtain⟨o,p,s,t,w⟩:=Y4 j l;obtain⟨d,R⟩:=ex (Jz u v);rw[R]at n z o p w;have f:=(JO z n p).2;obtain⟨e,y⟩:=ex (Jo v d);rw[y]at f;have M:v=Jr d e:=Xr l (J2 _ _) λx=>by rw[Jg,f]
 have K:DU d e:=E9.parts (by rw[<-M];exact S);have L:DU u e:=by
  obtain⟨a,b,Q⟩:=K;have T:Jd e=e:=by rw[<-y];exact YV _ _
  obtain⟨f1,f2,m,k,f3⟩:=Y4 j T;have N:Dv (Jz u e) d:=f1.comb (f2.mul' d) s t λx=>by
   rw[w,Jg,f]
  have P:Dv (Jz u e) [1]:=N.comb f2 a b λx=>by rw[Jm,Q]
  obtain⟨r,i⟩:=P;refine⟨Jr r m,Jr r k,λx=>?_⟩;have g:=i x;rw[Jm,f3]at g;rw[Jg,Jg];grind
 have A:=h e L;have I:DU e e:=A.of_dv ⟨d,λx=>by rw[f];grind⟩;obtain⟨r,i⟩:=I.unit (Dv.refl e);obtain⟨q,hq⟩:=o;refine⟨Jr r q,λx=>?_⟩;have g:=i x;rw[Jm]at g;rw[Jg,hq,f]
 have:ev d x*ev q x=ev d x*ev q x*(ev e x*ev r x):=by rw[<-g,Rat.mul_one]
 rw[this];grind
theorem Xo(tp:Jd p=p)(p0:p≠[]):Yun (Jp p) (DK p) (Dc p):=Yun.start (YF p) (KC tp p0) (Hr tp)
theorem Od(tp:Jd p=p)(p0:p≠[]):E9 (DK p):=MA _ _ _ _ (Aa _) (Xo tp p0)
theorem Oe(tp:Jd p=p)(p0:p≠[]):Dv (Jp p) p/\Dv p (Jp p):=by
 obtain⟨c,b⟩:=Ih tp p0;have a:Dv (Jp p) p:=⟨[cf p (p.length-1)],λx=>by
  conv=>lhs;rw[b]
  rw[JJ,Jm]⟩
 exact⟨a,⟨[1/cf p (p.length-1)],λx=>by rw[L2,Jm]⟩⟩
theorem MG(tp:Jd p=p)(p0:p≠[]):Dv (DK p) p:=(Xo tp p0).dv.trans (Oe tp p0).1
theorem SG(tp:Jd p=p)(p0:p≠[])(c:List Rat):DU (DK p) c↔DU p c:=by
 constructor
 . intro h;exact(SF _ _ _ _ (Aa _) (Xo tp p0) c h).of_dv (Oe tp p0).2
 . intro h;exact h.of_dv (MG tp p0)

