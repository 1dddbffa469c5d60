import Derived.Test.YtakpoihdghihmaaGreatDoorC44
open Go.Proofs.Tryz renaming prog->C
open Go.Value renaming slice->E,pointer->G
open Go renaming World->F
set_option maxRecDepth 100000
set_option maxHeartbeats 16000000
namespace Go.Proofs.YtakpoihdghihmaaGreatDoor
attribute [local go_sem] Oper.semAt_some
section
def Dv(a b:List Rat):Prop:=∃c:List Rat,∀x,ev b x=ev a x*ev c x
def Dx(a b:List Rat):Prop:=∃u v:List Rat,∀x,ev u x*ev a x+ev v x*ev b x=1
section
variable {a b c d p q:List Rat}
theorem Dv.refl(a:List Rat):Dv a a:=⟨[1],λx=>by simp[ev];grind⟩
theorem Dv.trans(h:Dv a b)(d:Dv b c):Dv a c:=by
 obtain⟨u,e⟩:=h;obtain⟨v,f⟩:=d;exact⟨JB u v,λx=>by rw[f,e,Jk];grind⟩
theorem Dv.zero(a:List Rat):Dv a []:=⟨[],λx=>by simp[ev]⟩
theorem Dv.mul(h:Dv a b)(c:List Rat):Dv a (JB b c):=by
 obtain⟨u,d⟩:=h;exact⟨JB u c,λx=>by rw[Jk,d,Jk];grind⟩
theorem Dv.mul'(h:Dv a b)(c:List Rat):Dv a (JB c b):=by
 obtain⟨u,d⟩:=h;exact⟨JB u c,λx=>by rw[Jk,d,Jk];grind⟩
theorem Dv.comb(h:Dv d a)(e:Dv d b)(u v:List Rat)(f:∀x,ev c x=ev u x*ev a x+ev v x*ev b x):Dv d c:=by
 obtain⟨s,g⟩:=h;obtain⟨t,i⟩:=e;exact⟨XR (JB u s) (JB v t),λx=>by rw[f,g,i,Xl,Jk,Jk];grind⟩
theorem Dv.of_sc{k:Rat}(c:k≠0)(h:Dv a b):Dv (DU k a) b:=by
 obtain⟨u,d⟩:=h;have e:(1/k)*k=1:=Ar c;exact⟨DU (1/k) u,λx=>by rw[d,JW,JW];grind⟩
theorem Dv.sc(h:Dv a b)(k:Rat):Dv a (DU k b):=by
 obtain⟨u,c⟩:=h;exact⟨DU k u,λx=>by rw[JW,c,JW];grind⟩
theorem Dx.symm(h:Dx a b):Dx b a:=by
 obtain⟨u,v,h⟩:=h;exact⟨v,u,λx=>by rw[<-h x];grind⟩
theorem Dx.of_dv(h:Dx a b)(c:Dv d a):Dx d b:=by
 obtain⟨u,v,h⟩:=h;obtain⟨s,e⟩:=c;exact⟨JB u s,v,λx=>by rw[<-h x,e x,Jk];grind⟩
theorem Dx.dv(h:Dx a b)(e:Dv a (JB b c)):Dv a c:=by
 obtain⟨u,v,h⟩:=h;obtain⟨k,f⟩:=e;refine⟨XR (JB u c) (JB v k),λx=>?_⟩;have g:=h x;have d:=f x;rw[Jk]at d;rw[Xl,Jk,Jk];grind
theorem Dx.mul(h:Dx a b)(d:Dx a c):Dx a (JB b c):=by
 obtain⟨u,v,h⟩:=h;obtain⟨s,t,d⟩:=d;refine⟨XR u (JB (JB v b) s),JB v t,λx=>?_⟩;have e:=h x;have f:=d x;rw[Xl,Jk,Jk,Jk,Jk];grind
end
theorem P4{p:List Rat}(x:Rat):ev (Jy p) x=ev p x*(1/cf p (p.length-1)):=JW _ _ _
theorem jt:∀(n:Nat) (p q:List Rat),Jd p=p->Jd q=q->q.length<=n->Dv (EW n p q) p/\Dv (EW n p q) q/\∃u v:List Rat,∀x,ev (EW n p q) x=ev u x*ev p x+ev v x*ev q x:=by
 intro n;induction n with
 |zero=>
  intro p q hp hq hl;have a:q=[]:=L7 O;subst a;rw[EW];refine⟨?_,Dv.zero _,[1/cf p (p.length-1)],[],λx=>by rw[P4];simp[ev];grind⟩;by_cases b:p=[]
  . subst b;exact Dv.refl _
  . exact Dv.of_sc (IA (Js hp b)) (Dv.refl _)
 |succ n g=>
  intro p q hp hq hl;by_cases a:q=[]
  . subst a;simp only[EW,BC];refine⟨?_,Dv.zero _,[1/cf p (p.length-1)],[],λx=>by rw[P4];simp[ev];grind⟩;by_cases b:p=[]
    . subst b;exact Dv.refl _
    . exact Dv.of_sc (IA (Js hp b)) (Dv.refl _)
  . simp only[EW,BB a];obtain⟨d,j,k,i⟩:=Yh p q hq a;obtain⟨c,e,u,v,f⟩:=g q (JE p q) hq i O;refine⟨c.comb e (Jz p q) [1] (λx=>by rw[d x];simp[ev];grind),c,v,YA u (JB v (Jz p q)),λx=>?_⟩;rw[f x,d x,Xp,Jk];grind
section
variable {p q d:List Rat}
theorem XU(hp:Jd p=p)(hq:Jd q=q):Dv (JQ p q) p/\Dv (JQ p q) q/\∃u v:List Rat,∀x,ev (JQ p q) x=ev u x*ev p x+ev v x*ev q x:=jt _ p q hp hq (Aa _)
theorem P5(hp:Jd p=p)(hq:Jd q=q)(a:Dv d p)(b:Dv d q):Dv d (JQ p q):=by
 obtain⟨_,_,u,v,h⟩:=XU hp hq;exact a.comb b u v h
theorem ju:∀(n:Nat) (p q:List Rat),Jd p=p->Jd q=q->q.length<=n->Jy (EW n p q)=EW n p q:=by
 intro n;induction n with
 |zero=>intro p q hp _ _;exact I1 hp
 |succ n b=>
  intro p q hp hq hl;rw[EW];split
  . exact I1 hp
  . rename_i a;have:=(Yh p q hq a).2.1;exact b _ _ hq (Y5 _ _) O
theorem MF(hp:Jd p=p)(hq:Jd q=q):Jy (JQ p q)=JQ p q:=ju _ p q hp hq (Aa _)
end
variable{a b g p q:List Rat}
theorem Xu(hp:Jd p=p)(h:∀x,ev p x=0):p=[]:=GA hp rfl (λx=>by rw[h x];rfl)
theorem Dv.some(d:Jd b=b)(h:Dv a b):∃c,Jd c=c/\b=JB a c:=by
 obtain⟨c,e⟩:=h;exact⟨Jd c,Yf _,GA d (YJ _ _) λx=>by rw[Jk,X3,e]⟩
theorem Xw(a:List Rat):JB a []=[]:=Xu (YJ _ _) λx=>by rw[Jk];simp[ev]
theorem Dv.anti(o:Jd a=a)(j:Jd b=b)(h:Dv a b)(r:Dv b a):∃k:Rat,k≠0/\b=DU k a:=by
 obtain⟨c,p,e⟩:=h.some j;obtain⟨d,s,i⟩:=r.some o;by_cases g:a=[]
 . refine⟨1,DO,?_⟩;rw[e,g];rfl
 . have n:b≠[]:=λf=>g (by rw[i,f];rfl);have m:c≠[]:=λf=>n (by rw[e,f];exact Xw _);have l:d≠[]:=λf=>g (by rw[i,f];exact Xw _);have l1:=JX o p g m;have l2:=JX j s n l;rw[<-e]at l1;rw[<-i]at l2;have u:0<c.length:=Ae.2 m;have v:0<d.length:=Ae.2 l;have w:0<a.length:=Ae.2 g;have q:c.length=1:=O
   match c,q with
   |[k],_=>
    have t:k≠0:=by
     have:=Js p Z;simpa[Y6]using this
    refine⟨k,t,GA j (JM _ _) λx=>?_⟩;rw[e,Jk,JW];simp[ev];grind
theorem Dv.eq(c:Jd a=a)(f:Jd b=b)(ma:Jy a=a)(mb:Jy b=b)(h:Dv a b)(d:Dv b a):a=b:=by
 obtain⟨k,g,e⟩:=h.anti c f d;rw[<-mb,e,L9 g c,ma]
theorem JZ(e:Jd g=g)(a:g≠[])(h:Dv g p):JE p g=[]/\∀x,ev p x=ev g x*ev (Jz p g) x:=by
 obtain⟨c,d⟩:=h;have b:=Nn (p:=p) (u:=Jd c) (v:=[]) e a (Yf _) rfl (Ae.2 a) (λx=>by rw[d,X3];simp[ev];grind);refine⟨b.2.symm,λx=>?_⟩;rw[<-b.1,X3,d]
theorem Xd{u v:List Rat}(i:Jd g=g)(b:g≠[])(h:∀x,ev g x*ev u x=ev g x*ev v x):∀x,ev u x=ev v x:=by
 have d:JB g (YA u v)=[]:=Xu (YJ _ _) λx=>by rw[Jk,Xp];have:=h x;grind
 have e:YA u v=[]:=by
  by_cases a:YA u v=[]
  . exact a
  . exfalso
    have l:=JX i (Xy u v) b a;rw[d]at l;have j:0<g.length:=Ae.2 b;have k:0<(YA u v).length:=Ae.2 a;simp at l;omega
 intro x;have c:=congrArg (λr=>ev r x) e;simp only[Xp]at c;have f:ev [] x=0:=rfl;rw[f]at c;grind
theorem P6(hp:Jd p=p)(hq:Jd q=q)(a:JQ p q≠[]):Dx (Jz p (JQ p q)) (Jz q (JQ p q)):=by
 obtain⟨f,g,u,v,i⟩:=XU hp hq;have c:=YE p q;have d:=(JZ c a f).2;have e:=(JZ c a g).2;refine⟨u,v,?_⟩;have j:=Xd (u:=XR (JB u (Jz p (JQ p q))) (JB v (Jz q (JQ p q)))) (v:=[1]) c a (λx=>by
  rw[Xl,Jk,Jk];have b:=i x;have k:=d x;have l:=e x;simp[ev];grind)
 intro x;have b:=j x;rw[Xl,Jk,Jk]at b;rw[b];simp[ev];grind
theorem I5(hp:Jd p=p)(hq:Jd q=q)(h:p≠[]\/q≠[]):JQ p q≠[]:=λe=>by
 obtain⟨a,b,_⟩:=XU hp hq;rw[e]at a b;obtain⟨c,f⟩:=a;obtain⟨d,g⟩:=b;rcases h with h|h
 . exact h (Xu hp λx=>by rw[f];simp[ev])
 . exact h (Xu hq λx=>by rw[g];simp[ev])
end
section
variable {a b c d e f g k p q r u w y z R:List Rat}
theorem Xg(p q:List Rat)(x:Rat):ev (Jc (JB p q)) x=ev (Jc p) x*ev q x+ev p x*ev (Jc q) x:=by
 rw[Vq,Xl,Jk,Jk]
theorem MG(p:List Rat)(i:Nat):cf (Jc p) i=cf p (i+1)*(((i+1:Nat):Int):Rat):=by
 unfold Jc;rw[J1,Kn];rfl
theorem jw(a:p≠[]):(Jc p).length<p.length:=by
 have b:0<p.length:=Ae.2 a;have c:(Jc p).length<=p.length-1:=XN (JP _) λi d=>by
  rw[MG,J3 O,Cz]
 omega
theorem jx(hp:Jd p=p)(h:Jc p=[]):p.length<=1:=by
 refine XN hp λi d=>?_;obtain⟨j,rfl⟩:∃j,i=j+1:=⟨i-1,O⟩;have b:=MG p j;rw[h,YY]at b;rcases CP.1 b.symm with a|a
 . exact a
 . exfalso
   have c:((j+1:Nat):Int)=0:=by exact_mod_cast a
   omega
theorem Nw(hp:Jd p=p)(a:p≠[])(hl:p.length<=1):Dv p [1]:=by
 have b:0<p.length:=Ae.2 a;match p,hl,hp,a with
 |[c],_,hp,_=>
  have d:c≠0:=by
   have:=Js hp Z;simpa[Y6]using this
  exact⟨[1/c],λx=>by simp[ev];grind⟩
theorem UT(b:Jd u=u)(a:u≠[])(h:Dv u (Jc u)):Dv u [1]:=by
 refine Nw b a (jx b ?_);obtain⟨c,i,e⟩:=h.some (JP u);by_cases f:Jc u=[]
 . exact f
 . exfalso
   have d:c≠[]:=λg=>f (by rw[e,g];exact Xw _);have l1:=JX b i a d;have l2:=jw a;have j:0<c.length:=Ae.2 d;rw[<-e]at l1;omega
theorem jy(D:Jd d=d)(r:d≠[])(h:Dv d (JB (Jc d) f)):∀(n:Nat) (u:List Rat),Jd u=u->d.length-u.length<=n->Dv u d->Dx u f->Dv u [1]:=by
 intro n;induction n with
 |zero=>
  intro u b hl p l;obtain⟨m,o,e⟩:=p.some D;have a:u≠[]:=λg=>r (by rw[e,g];rfl);have w:m≠[]:=λg=>r (by rw[e,g];exact Xw _);have l1:=JX b o a w;rw[<-e]at l1;have X:0<u.length:=Ae.2 a;have P:m.length<=1:=O
  have Q:=Nw o w P;have N:Dv d u:=by
   obtain⟨c,j⟩:=Q;refine⟨c,λx=>?_⟩;have y:=j x;rw[e,Jk,Rat.mul_assoc,<-y];simp[ev];grind
  have i:Dv u (JB f (Jc d)):=by
   obtain⟨c,j⟩:=p.trans h;exact⟨c,λx=>by rw[<-j,Jk,Jk];grind⟩
  have z:=l.dv i;refine UT b a ?_;obtain⟨k,hk,R⟩:=N.anti D b p;have A:Jc u=DU k (Jc d):=by
   refine GA (JP _) (JM _ _) λx=>?_;rw[R,JW];have B:DU k d=JB d [k]:=GA (JM _ _) (YJ _ _) λx=>by rw[JW,Jk];simp[ev];grind
   rw[B,Xg];have K:ev (Jc [k]) x=0:=by rw[Ko];simp[dv,ev];grind
   rw[K];simp[ev];grind
  rw[A];exact z.sc k
 |succ n W=>
  intro u b hl p l;obtain⟨m,o,e⟩:=p.some D;have a:u≠[]:=λg=>r (by rw[e,g];rfl);have w:m≠[]:=λg=>r (by rw[e,g];exact Xw _);obtain⟨S,T,s,t,U⟩:=XU b o;have I:=I5 b o (Or.inl a);have H:=YE u m;by_cases V:(JQ u m).length<=1
  . obtain⟨c,j⟩:=Nw H I V;have M:Dx u m:=⟨JB s c,JB t c,λx=>by
     have y:=j x;have i:=U x;rw[Jk,Jk];have z:ev [1] x=1:=by simp[ev];grind
     rw[z]at y;grind⟩
    have i:Dv u (JB f (JB m (Jc u))):=by
     obtain⟨v,q⟩:=h;refine⟨YA (JB m v) (JB f (Jc m)),λx=>?_⟩;have A:=q x;have B:=Xg u m x;rw[<-e]at B;have K:ev d x=ev u x*ev m x:=by rw[e,Jk]
     rw[Jk]at A;rw[Jk,Jk,Xp,Jk,Jk];grind
    exact UT b a (M.dv (l.dv i))
  . have L:Dv (JB u (JQ u m)) d:=by
     obtain⟨v,q⟩:=T;exact⟨v,λx=>by rw[e,Jk,q,Jk];grind⟩
    have l1:=JX b H a I;have X:0<u.length:=Ae.2 a;have i:=W (JB u (JQ u m)) (YJ _ _) O L (l.symm.mul (l.of_dv S).symm).symm;obtain⟨v,q⟩:=i;exact⟨JB (JQ u m) v,λx=>by rw[q,Jk,Jk];grind⟩
structure Yun(R w y:List Rat):Prop where
 tR:Jd R=R
 R0:R≠[]
 tw:Jd w=w
 w0:w≠[]
 mw:Jy w=w
 ty:Jd y=y
 eq:∀x,ev y x*ev R x=ev w x*ev (Jc R) x
 cop:Dx w y
theorem Yun.dv(h:Yun R w y):Dv w R:=by
 refine h.cop.dv ⟨Jc R,λx=>?_⟩;rw[Jk,h.eq]
theorem P7(f:Jd w=w)(w0:w≠[])(mw:Jy w=w)(d:Jd g=g)(p:Jy g=g)(h:Dv g w):Jy (Jz w g)=Jz w g/\g≠[]/\Jz w g≠[]/\w=JB g (Jz w g):=by
 have a:g≠[]:=λe=>w0 (by
  obtain⟨c,m⟩:=h;exact Xu f λx=>by rw[m,e];simp[ev])
 have e:=(JZ d a h).2;have b:w=JB g (Jz w g):=GA f (YJ _ _) λx=>by rw[Jk,<-e]
 have q0:Jz w g≠[]:=λj=>w0 (by rw[b,j];exact Xw _);refine⟨?_,a,q0,b⟩;have l:=JX d (Xn w g) a q0;have r:0<g.length:=Ae.2 a;have q:0<(Jz w g).length:=Ae.2 q0;have i:cf w (w.length-1)=cf g (g.length-1)*cf (Jz w g) ((Jz w g).length-1):=by
  obtain⟨Q,k⟩:=ex (Jz w g);rw[k]at b l q ⊢;rw[b,l,show g.length+Q.length-1-1=(g.length-1)+(Q.length-1)by omega];unfold JB;rw[J1];exact Q4 g Q (g.length-1) (Q.length-1) O O
 have o:cf w (w.length-1)=1:=by have:=Np f w0;rwa[mw]at this
 have n:cf g (g.length-1)=1:=by have:=Np d a;rwa[p]at this
 rw[o,n,CW]at i;unfold Jy;rw[<-i,show(1:Rat)/1=1 by grind];exact Ie (Xn _ _)
theorem Yun.step(h:Yun R w y):JQ w (Jz R w)=Jz w (JQ w (YA y (Jc w)))/\Jz w (JQ w (Jz R w))=JQ w (YA y (Jc w))/\
 Yun (Jz R w) (Jz w (JQ w (YA y (Jc w)))) (Jz (YA y (Jc w)) (JQ w (YA y (Jc w))))/\R=JB w (Jz R w)/\
 (∀x,ev (YA y (Jc w)) x*ev (Jz R w) x=ev w x*ev (Jc (Jz R w)) x)/\w=JB (JQ w (YA y (Jc w))) (Jz w (JQ w (YA y (Jc w)))):=by
 obtain⟨r,hr⟩:=ex (Jz R w);obtain⟨z,L⟩:=ex (YA y (Jc w));have tr:Jd r=r:=by rw[<-hr];exact Xn _ _
 have S:Jd z=z:=by rw[<-L];exact Xy _ _
 have eR:∀x,ev R x=ev w x*ev r x:=by rw[<-hr];exact(JZ h.tw h.w0 h.dv).2
 have T:R=JB w r:=GA h.tR (YJ _ _) λx=>by rw[Jk,eR]
 have r0:r≠[]:=λe=>h.R0 (by rw[T,e];exact Xw _);have W:∀x,ev z x*ev r x=ev w x*ev (Jc r) x:=by
  have b:=Xd (g:=w) (u:=JB z r) (v:=JB w (Jc r)) h.tw h.w0 (λx=>by
   have a:=h.eq x;have i:=Xg w r x;rw[<-T]at i;rw[Jk,Jk,<-L,Xp];have I:=eR x;grind)
  intro x;have a:=b x;rwa[Jk,Jk]at a
 have V:=JP r;obtain⟨d,B⟩:=ex (JQ r (Jc r));have H:Jd d=d:=by rw[<-B];exact YE _ _
 have d0:d≠[]:=by rw[<-B];exact I5 tr V (Or.inl r0)
 obtain⟨g1,g2,_⟩:=XU tr V;rw[B]at g1 g2;obtain⟨f,hf⟩:=ex (Jz r d);obtain⟨e,he⟩:=ex (Jz (Jc r) d);have q:∀x,ev r x=ev d x*ev f x:=by rw[<-hf];exact(JZ H d0 g1).2
 have ee:∀x,ev (Jc r) x=ev d x*ev e x:=by rw[<-he];exact(JZ H d0 g2).2
 have tf:Jd f=f:=by rw[<-hf];exact Xn _ _
 have f0:f≠[]:=λX=>r0 (Xu tr λx=>by rw[q,X];simp[ev]);have Qi:Dx f e:=by
  have:=P6 tr V (by rw[B];exact d0);rwa[B,hf,he]at this
 have Qh:∀x,ev z x*ev f x=ev w x*ev e x:=by
  have b:=Xd (g:=d) (u:=JB z f) (v:=JB w e) H d0 (λx=>by
   have a:=W x;rw[q,ee]at a;rw[Jk,Jk];grind)
  intro x;have a:=b x;rwa[Jk,Jk]at a
 have Qg:Dv f w:=Qi.dv (⟨z,λx=>by rw[Jk];have:=Qh x;grind⟩);obtain⟨k,tk,ek⟩:=Qg.some h.tw;have j:∀x,ev w x=ev f x*ev k x:=λx=>by rw[ek,Jk]
 have U:∀x,ev z x=ev k x*ev e x:=by
  have b:=Xd (g:=f) (u:=z) (v:=JB k e) tf f0 (λx=>by
   have a:=Qh x;rw[j]at a;rw[Jk];grind)
  intro x;have a:=b x;rwa[Jk]at a
 obtain⟨P,l⟩:=ex (JQ w z);have m:Jd P=P:=by rw[<-l];exact YE _ _
 have mP:Jy P=P:=by rw[<-l];exact MF h.tw S
 obtain⟨N,p2,_⟩:=XU h.tw S;have Qo:Dv k P:=by rw[<-l];exact P5 h.tw S ⟨f,λx=>by rw[j];grind⟩ ⟨e,U⟩
 rw[l]at N p2;have Qm:Dv P k:=by
  obtain⟨u,v,D⟩:=Qi;refine N.comb p2 u v λx=>?_;have b:=D x;rw[j,U];grind
 obtain⟨m1,p,M,eW⟩:=P7 h.tw h.w0 h.mw m mP N;have zP:=(JZ m p p2).2;have o:=(JZ m p N).2;have Ql:Dx k y:=h.cop.of_dv ⟨f,λx=>by rw[j];grind⟩;have Qq:Dx k f:=by
  obtain⟨u,v,D⟩:=Ql;refine⟨XR u (JB v (XR e (Jc f))),JB v (Jc k),λx=>?_⟩;have b:=D x;have a:ev y x=ev z x+ev (Jc w) x:=by rw[<-L,Xp];grind
  have i:=Xg f k x;rw[<-ek]at i;have I:=U x;rw[Xl,Jk,Jk,Xl];grind
 have Qj:Dv d (JB (Jc d) f):=by
  refine⟨YA e (Jc f),λx=>?_⟩;have b:r=JB d f:=GA tr (YJ _ _) λx=>by rw[Jk,q]
  have a:=Xg d f x;rw[<-b,ee]at a;rw[Jk,Xp];grind
 have Qp:Dx k d:=by
  obtain⟨q1,q2,s,t,q3⟩:=XU tk H;obtain⟨c,A⟩:=jy H d0 Qj (d.length) (JQ k d) (YE _ _) O q2 (Qq.of_dv q1);refine⟨JB s c,JB t c,λx=>?_⟩;have b:=A x;have a:=q3 x;have i:ev [1] x=1:=by simp[ev];grind
  rw[i]at b;rw[Jk,Jk];grind
 obtain⟨c1,c2,s,t,c3⟩:=XU h.tw tr;have Qk:Dv f (JQ w r):=P5 h.tw tr Qg ⟨d,λx=>by rw[q];grind⟩;have Qs:Dv (JQ w r) f:=by
  obtain⟨u,v,D⟩:=Qp;refine c1.comb c2 u v λx=>?_;have b:=D x;rw[j,q];grind
 obtain⟨n,K⟩:=ex (Jz w P);rw[K]at m1 M eW o;have Q:Jd n=n:=by rw[<-K];exact Xn _ _
 have Qt:Dv f n:=by
  obtain⟨c,A⟩:=Qm;refine⟨c,λx=>?_⟩;have b:=Xd (g:=P) (u:=n) (v:=JB f c) m p (λx=>by
   have a:=o x;have i:=j x;have I:=A x;rw[Jk];grind)
  have a:=b x;rwa[Jk]at a
 have Qn:Dv n f:=by
  have k0:k≠[]:=λX=>h.w0 (by rw[ek,X];exact Xw _);obtain⟨c,A⟩:=Qo;refine⟨c,λx=>?_⟩;have b:=Xd (g:=k) (u:=f) (v:=JB n c) tk k0 (λx=>by
   have a:=o x;have i:=j x;have I:=A x;rw[Jk];grind)
  have a:=b x;rwa[Jk]at a
 have hG:JQ w r=n:=Dv.eq (YE _ _) Q (MF h.tw tr) m1 (Qs.trans Qt) (Qn.trans Qk);have Qr:Dv n w:=⟨P,λx=>by rw[o];grind⟩;have Qb:Jz w n=P:=by
  refine GA (Xn _ _) m λx=>?_;have b:=(JZ Q M Qr).2;refine Xd (g:=n) (u:=Jz w n) (v:=P) Q M (λx=>?_) x;have a:=b x;have i:=o x;grind
 rw[hr,L,l,K];refine⟨hG,by rw[hG];exact Qb,⟨tr,r0,Q,M,m1,Xn _ _,λx=>?_,?_⟩,T,W,eW⟩
 . refine(Xd (g:=P) (u:=JB (Jz z P) r) (v:=JB n (Jc r)) m p (λx=>?_) x |> λb=>by rwa[Jk,Jk]at b);have a:=W x;have i:=zP x;have I:=o x;rw[Jk,Jk];grind
 . have:=P6 h.tw S (by rw[l];exact p);rwa[l,K]at this
theorem Yun.start(tp:Jd p=p)(p0:p≠[])(i:Jy p=p):Yun p (Jz p (JQ p (Jc p))) (Jz (Jc p) (JQ p (Jc p))):=by
 have ts:=JP p;obtain⟨b,f,_⟩:=XU tp ts;have a:=I5 tp ts (Or.inl p0);obtain⟨g,_,j,e⟩:=P7 tp p0 i (YE _ _) (MF tp ts) b;have c:=(JZ (YE p (Jc p)) a b).2;have d:=(JZ (YE p (Jc p)) a f).2;refine⟨tp,p0,Xn _ _,j,g,Xn _ _,λx=>?_,P6 tp ts a⟩;have k:=c x;have l:=d x;grind
end
theorem Nx{a b:Rat}(c:0<a)(d:0<b):∃e,0<e/\e<=a/\e<=b:=by
 rcases Xh a b with h|h
 . exact⟨a,c,Rat.le_refl,h⟩
 . exact⟨b,d,h,Rat.le_refl⟩
theorem jz{w:List Rat}(tw:Jd w=w)(w0:w≠[])(hl:w.length<=1)(x y:Rat):EG w x y:=by
 match w,w0,hl with
 |[c],_,_=>
  have c0:c≠0:=by
   have:=Js tw Z;simpa[cf]using this
  exact Lg c0 (λx=>JS c x) x y
theorem kA:∀(n:Nat) (R w y:List Rat),R.length<=n->Yun R w y->∀ {B:Rat},0<=B->∃k,0<k/\Sh B λx z=>¬EG w x z->k<=ev y x*ev (Jc w) x/\k<=ev y z*ev (Jc w) z:=by
 intro n;induction n with
 |zero=>intro R w y hn h;exact absurd (AM.1 O) h.R0
 |succ n ih=>
  intro R w y hn h B i;by_cases hl:w.length<=1
  . exact⟨1,DO,Sh.all λx z _ _ _ Q=>absurd (jz h.tw h.w0 hl x z) Q⟩
  . obtain⟨_,_,f,eR,_,m⟩:=h.step;have tz:=Xy y (Jc w);have Qa:∀x,ev (YA y (Jc w)) x=ev y x-ev (Jc w) x:=λx=>Xp _ _ _;obtain⟨z,hz⟩:=ex (YA y (Jc w));rw[hz]at f m tz Qa;obtain⟨g1,g2,_⟩:=XU h.tw tz;have a0:=I5 h.tw tz (Or.inl h.w0);have N:=(JZ (YE w z) a0 g2).2;obtain⟨a,ha⟩:=ex (JQ w z);rw[ha]at f m N;obtain⟨g,bl⟩:=ex (Jz w a);rw[bl]at f m;obtain⟨I,bm⟩:=ex (Jz z a);rw[bm]at f N;obtain⟨R2,bi⟩:=ex (Jz R w);rw[bi]at f eR;have lR:R2.length<=n:=by
     have:=JX h.tw f.tR h.w0 f.R0;rw[<-eR]at this;omega
    obtain⟨S,bn,T⟩:=ih R2 g I lR f i;have s:∀x,ev w x=ev a x*ev g x:=λx=>by
     have:=Jk a g x;rwa[<-m]at this
    have fd:∀x,ev (Jc w) x=ev (Jc a) x*ev g x+ev a x*ev (Jc g) x:=λx=>by
     have:=Xg a g x;rwa[<-m]at this
    have fy:∀x,ev (Jc w) x=ev y x-ev a x*ev I x:=λx=>by
     have D:=Qa x;have f:=N x;grind
    obtain⟨u,v,ae⟩:=h.cop;obtain⟨U,pU,hU⟩:=GW u i;obtain⟨V,j,hV⟩:=GW v i;obtain⟨cj,pY,hY⟩:=GW y i;obtain⟨A,pA,hA⟩:=GW a i;obtain⟨A1,ai,hA1⟩:=GW (Jc a) i;obtain⟨W2,ce,bk⟩:=GW g i;obtain⟨o,ct,bj⟩:=GW (Jc g) i;obtain⟨L,ci,ad⟩:=GW I i;have c:∀ {a b:Rat},0<a->0<b->0<a*b:=λD f=>Rat.mul_pos D f;obtain⟨e1,am,an⟩:=small (Rat.le_of_lt (c pU ce)) (show(0:Rat)<1/4 by grind);obtain⟨e2,ap,aq⟩:=small (Rat.le_of_lt (c (c j j) (c pY ci))) (show(0:Rat)<1/16 by grind);obtain⟨e,e0,bg,bh⟩:=Nx am ap;have l:0<V*(o+L):=c j (by grind);obtain⟨M,hM⟩:=ex (V*(o+L));obtain⟨e3,aw,ax⟩:=small (Rat.le_of_lt (c pU pA)) (show(0:Rat)<1/4 by grind);obtain⟨e4,ay,az⟩:=small (Rat.le_of_lt (c j ai)) (show(0:Rat)<1/4 by grind);obtain⟨e5,bc,bf⟩:=small (Rat.le_of_lt (c (c l l) (c ai (c pA (show 0<o+o+L by grind))))) (show(0:Rat)<S/8 by grind);obtain⟨d1,aj,ck,cn⟩:=Nx aw ay;obtain⟨d,d0,co,ak⟩:=Nx aj bc;obtain⟨k,k0,bt,bu⟩:=Nx (Xq (show(0:Rat)<1/2 by grind) (c j j)) (Xq (show(0:Rat)<S/8 by grind) (c l l));refine⟨k,k0,(((Kp a i e0).and (Kp g i d0)).and T).mono λx H hx af _ ⟨⟨ta,tw⟩,T⟩ Q=>?_⟩;have ah:∀ {K r t:Rat},0<K->r<=K*t->k<=r/K->k<=t:=fun {K r t} hK D f=>by
     have h3:r/K*K=r:=Ar (by grind);rcases Xh k t with h4|h4
     . exact h4
     . have:=Rat.mul_nonneg (a:=K) (b:=k-t) (by grind) (by grind);have:=Rat.mul_nonneg (a:=r/K-k) (b:=K) (by grind) (by grind);rcases Xh t k with P|P
       . rcases Rat.le_iff_lt_or_eq.1 P with h6|h6
         . have:=Rat.mul_pos (a:=K) (b:=k-t) hK (by grind);grind
         . grind
       . exact P
    have ca:∀p,Wi B p->Wi e (ev a p)->k<=ev y p*ev (Jc w) p:=λp hp hq=>by
     have:=Vv (hU p hp) (hV p hp) (hY p hp) hq (bk p hp) (ad p hp) (ae p) (s p) (by have:=an e bg;grind) (by have:=aq e bh;grind);rw[<-fy p]at this;exact ah (c j j) this bt
    have cw:∀p,Wi B p->Wi d (ev g p)->S<=ev I p*ev (Jc g) p->k<=ev y p*ev (Jc w) p:=λp hp hq hk=>by
     have h9:=Vw (hU p hp) (hV p hp) (hA p hp) (hA1 p hp) hq (bj p hp) (ad p hp) (ae p) (s p) (by have D:=fy p;have h3:=fd p;grind) bn hk (by have:=ax d (by grind);grind) (by have:=az d (by grind);grind) (by have:=bf d ak;grind);rw[<-fd p]at h9;exact ah (c l l) h9 bu
    by_cases sa:EG a x H
    . have sw:¬EG g x H:=λq=>Q (by
       unfold EG at *;rw[s,s];have:=Rat.mul_pos sa q;grind)
      obtain⟨W,X⟩:=tw sw;obtain⟨r1,r2⟩:=T sw;exact⟨cw x hx W r1,cw H af X r2⟩
    . obtain⟨W,X⟩:=ta sa;exact⟨ca x hx W,ca H af X⟩
namespace M3
open Go.RowKit Go.Shelf
variable{ps:List Rat}{v:Value}{W:F}
theorem kB(n:Nat)(a d:Option Addr)(c b g f:Nat)(w:F):
 CallsIn Fence.wide n C 87 #[.agg #[E a c b],.agg #[E d g f]] w λe i=>e=.returned (.func (.func 136) #[] #[G (some ⟨w.heap.size,0,none⟩),G (some ⟨w.heap.size+1,0,none⟩)])/\i=(w.alloc (.cells #[E a c b] 25)).alloc (.cells #[E d g f] 25):=by
 refine B0 Tryz.func87 rfl trivial ?_ rfl;simp only[Tryz.ntmps87,Av,Ai,AD,Nat.reduceAdd,Nat.reduceSub,AE,AF,AX,AH,Au,AN];gi_wp2;go_ret;exact⟨rfl,rfl⟩
def UU(B B4 B5:Nat)(I:List (List Rat)->F->Prop)(H:List (List Rat))(W:F):Exit->Act->F->Prop
 |.normal,_,W'=>I H W'/\W.heap.size<=W'.heap.size/\(∀(k:Nat) (o:Obj),B<=k->o.isCells=false\/k=B4\/k=B5->W.heap[k]?=some o->W'.heap[k]?=some o)/\∀v ps,Jh W v ps->Jh W' v ps
 |_,_,_=>False
theorem P8{W':F}{row:Option Nat}(a:W.grownBy W' row)(b:∀r,row=some r->∃o:Obj,W.heap[r]?=some o/\o.isCells=false)(h:Jh W v ps):Jh W' v ps:=by
 obtain⟨u,e,h⟩:=h;exact⟨u,e,Iu a b h⟩
theorem Ny{l:Nat}{o a:Obj}(hl:W.heap[l]?=some o)(b:o.isCells=false)(h:Jh W v ps):Jh (W.putObj l a) v ps:=
 P8 (BZ W l a) (λr e=>by cases e;exact⟨o,hl,b⟩) h
theorem kC{g:Operand}{ps:Array Tmp}{assign body:Code}{Q:Exit->Act->F->Prop}{a:Act}{w:F}{n:Nat}
(h1:2<=n){K M N:Nat}{pa qa:Option Addr}{pl pc ql qc:Nat}{p q:List Rat}(bf:ChOk K p q)(aq:Do w M pa pl pc)(aw:Do w N qa ql qc)(ip:Jh w (.agg #[E pa pl pc]) p)(iq:Jh w (.agg #[E qa ql qc]) q)
(hg:a.eval g=.func (.func 136) #[] #[G (some ⟨M,0,none⟩),G (some ⟨N,0,none⟩)])(eg:∀args w,(callFunc 136 args).run C w=.ok (.enter 136 args) w)(bh:ps.size=1)
(I:Nat->Nat->List (List Rat)->F->Prop)(hI:∀B4 B5,OwnFrom w.heap.size (I B4 B5))(af:∀B4 B5,GB (I B4 B5))(am:∀B4 B5,w.heap.size<=B4->w.heap.size<=B5->MD B4 B5 (I B4 B5))(h0:∀B4 B5 V,w.heap.size+2<=B4->w.heap.size+2<=B5->Bl w V->I B4 B5 [] V)(a₁:Value->Nat->Act)
(an:∀(l:Nat) (x:Option Addr) (s o:Nat) (W:F) (K:Act->F->Prop),K (a₁ (E x s o) W.heap.size) (W.alloc (.cells #[E x s o] 25))->
  assign.wpIn (Fence.wide.inRound l) (n-1-1) C (Exit.then K λ_ _ _=>False) { tmps:=(ps.zip #[.agg #[E x s o]]).foldl (λt (p,v)=>t.setIfInBounds p v) a.tmps,defers:=[] } W)
(ap:∀(l b B4 B5:Nat) (x:Option Addr) (s o:Nat) (r:List Rat) (H:List (List Rat)) (W:F),I B4 B5 H W->H++[r] <+: ER p q->w.heap.size+1<b->B4<b->B5<b->Do W b x s o->Jh W (.agg #[E x s o]) r->
  body.wpIn (Fence.wide.inRound l) (n-1-1) C (UU w.heap.size B4 B5 (I B4 B5) (H++[r]) W) (a₁ (E x s o) b) W)
(ay:∀(D B4 B5:Nat) (W:F) (H:List (List Rat)) (r:List Rat),w.heap.size<=D->I B4 B5 (H++[r]) W->ER p q=H++[r]->Chn p q (DW K p q) r []->W.heap[D]?=some (.deferred (some []))->Q .normal { a with defers:={ target:=.collected D,args:=#[] }::a.defers } W):
 (Code.rangeFunc g ps assign body).wpIn Fence.wide n C Q a w:=by
 refine wpIn_rangeFunc λfn az=>?_;rw[show Fence.wide.round=none from rfl];obtain⟨rc,A⟩:∃rc:LoopState->Option Code->Loop,rc=λst pe=>{ state:=st,pending:=pe,fn,tmps:=a.tmps,params:=ps,assign,body,defers:=w.heap.size }:=⟨_,rfl⟩;obtain⟨V,X⟩:=ex ((w.alloc (.deferred (some []))).alloc (.loop (rc .ready none)));have vL:V.heap[w.heap.size+1]?=some (.loop (rc .ready none)):=by
  rw[<-X];have:=BE (w.alloc (.deferred (some []))) (.loop (rc .ready none));rwa[Ax]at this
 have vD:V.heap[w.heap.size]?=some (.deferred (some [])):=by
  rw[<-X];exact(Bj _ _ _ Z).trans (BE w _)
 have R:Bl w V:=by rw[<-X];exact(Ba w _).alloc (by rw[Ax];omega) _
 have bk:V.heap.size=w.heap.size+2:=by rw[<-X];simp
 refine⟨w.heap.size+1,[{ target:=.collected w.heap.size,args:=#[] }],V,{ target:=.fn (.func 136) #[G (some ⟨M,0,none⟩),G (some ⟨N,0,none⟩)],args:=#[.func (.yield (w.heap.size+1)) #[] #[]] },V,136,
  #[.func (.yield (w.heap.size+1)) #[] #[]]++#[G (some ⟨M,0,none⟩),G (some ⟨N,0,none⟩)],V,?_,?_,?_,?_,λ_=>by omega,?_⟩
 . rw[<-X,A];exact run_enterLoop_outer _ _ _ _ _
 . simp only[resolve,hg];simp[go_sem]
 . intro f' ah;simp[Target.leads]at ah;subst ah;exact trivial
 . simp[invoke,go_sem,eg]
 refine(jq K (n-1) O M N pa qa pl pc ql qc p q bf (w.heap.size+1)
  (λB4 B5 H W=>I B4 B5 H W/\W.heap[w.heap.size+1]?=some (.loop (rc .ready none))/\W.heap[w.heap.size]?=some (.deferred (some [])))
  V (aq.below R) (aw.below R) (ip.below R) (iq.below R) ?_ ?_ ?_ λB4 B5 U h4 h5 hU=>⟨h0 B4 B5 U O O (R.trans (hU.mono O)),(hU.block _ (Ab.1 vL).1).trans vL,(hU.block _ (Ab.1 vD).1).trans vD⟩).mono ?_
 . rintro B4 B5 H W W' ⟨z,hl,d⟩ hb;exact⟨af _ _ _ _ _ z hb,(hb.block _ (Ab.1 hl).1).trans hl,(hb.block _ (Ab.1 d).1).trans d⟩
 . rintro B4 B5 h4 h5 H W B x s o u hB hb ⟨z,hl,d⟩;exact⟨am B4 B5 O O _ _ _ _ _ _ _ hB hb z,(BD W ⟨B,0,none⟩ u _ (by show w.heap.size+1≠B;omega)).trans hl,(BD W ⟨B,0,none⟩ u _ (by show w.heap.size≠B;omega)).trans d⟩
 . rintro B4 B5 bi bj H W i m j a5 l5 c5 p4 q5 bg aj ak ⟨z,hl,d⟩ h4 h5 i4 i5;have Qf:w.heap.size+1<W.heap.size:=(Ab.1 hl).1;have hy:=run_yield (P:=C) (args:=#[.agg #[E i m j]]) hl (by rw[A];exact bh.symm);rw[A]at hy;obtain⟨f,ae⟩:=ex (W.alloc (.cells #[E i m j] 25));have y:Bl W f:=by rw[<-ae];exact Ba W _
   have T:f.heap[w.heap.size+1]?=some (.loop (rc .ready none)):=(y.block _ Qf).trans hl;have Ql:f.heap[w.heap.size]?=some (.deferred (some [])):=(y.block _ O).trans d;have Qj:I B4 B5 H f:=af _ _ _ _ _ z y;have Qh:Do f W.heap.size i m j:=by rw[<-ae];exact BG W 25 (E i m j)
   refine⟨fn,_,assign,body,hy,roundIn_of_wpIn az (an _ _ _ _ W _ ?_)⟩;rw[ae];refine⟨_,run_beginRound T (by rw[A]),?_⟩;obtain⟨bx,ax⟩:=ex (W.heap.size);have Qu:=h4.below y;have Qr:=h5.below y;have Qv:=i4.below y;have Qn:=i5.below y;rw[ax]at Qh Qf aj ak ⊢;have Qg:w.heap.size+1<f.heap.size:=(Ab.1 T).1;obtain⟨c,L⟩:=ex (f.putObj (w.heap.size+1) (.loop { rc .ready none with state:=.busy }));rw[L];have Qo:c.heap[w.heap.size+1]?=some (.loop { rc .ready none with state:=.busy }):=by rw[<-L];exact Be Qg
   have Qe:∀k,k≠w.heap.size+1->c.heap[k]?=f.heap[k]?:=λk d=>by rw[<-L];exact BM O
   have Qt:Do c bx i m j:=(Qe bx O).trans Qh;have Qk:c.heap[w.heap.size]?=some (.deferred (some [])):=(Qe _ O).trans Ql;have Qp:I B4 B5 H c:=by rw[<-L];exact(hI B4 B5).putObj _ Qj O T rfl
   have Qq:Do c B4 i m j:=(Qe B4 O).trans Qu;have Qw:Do c B5 a5 l5 c5:=(Qe B5 O).trans Qr;have Qi:Jh c (.agg #[E i m j]) p4:=by rw[<-L];exact Ny T rfl Qv
   have Qs:Jh c (.agg #[E a5 l5 c5]) q5:=by rw[<-L];exact Ny T rfl Qn
   refine wpIn_mono (ap _ bx B4 B5 i m j p4 H c Qp bg Qf aj ak Qt Qi) λe a3 W3 hp=>?_;cases e with
   |normal=>
    obtain⟨bc,bl,ad,ai⟩:=hp;have S:=ad _ _ O (Or.inl rfl) Qo;have hr:=run_endRound (P:=C) none S;have Qa:∀k,k≠w.heap.size+1->(W3.putObj (w.heap.size+1) (.loop (rc .ready none))).heap[k]?=W3.heap[k]?:=λk d=>BM O;have Qm:(Instr.endRound (w.heap.size+1) none).run C W3=.ok (.bool true) (W3.putObj (w.heap.size+1) (.loop (rc .ready none))):=by
     rw[A]at hr ⊢;exact hr
    exact⟨_,_,Qm,rfl,⟨(hI B4 B5).putObj _ bc O S rfl,Be (Ab.1 S).1,(Qa _ O).trans (ad _ _ (Aa _) (Or.inl rfl) Qk)⟩,
     (Qa _ O).trans (ad _ _ O (Or.inr (Or.inl rfl)) Qq),(Qa _ O).trans (ad _ _ O (Or.inr (Or.inr rfl)) Qw),Ny S rfl (ai _ _ Qi),Ny S rfl (ai _ _ Qs)⟩
   |ret=>exact hp.elim
   |exit id=>exact hp.elim
   |goto t=>exact hp.elim
   |panic ch=>exact hp.elim
   |outgrown=>exact hp.elim
 . rintro e c ⟨⟨v,rfl⟩,B4,B5,H,r,⟨h4,h5⟩,⟨z,hl,d⟩,hc,hn⟩;exact⟨none,_,by have:=run_endLoop (P:=C) hl (by rw[A];simp);rw[A]at this;exact this,ay _ B4 B5 _ H r (Aa _) ((hI B4 B5).putObj _ z O hl rfl) hc hn ((BM O).trans d)⟩
end M3
section
open Go.RowKit Go.Shelf
def Cd(M:Nat)(p:List Rat):Prop:=∃D:Int,D≠0/\Sm M D/\EC D M p
section
variable {M N:Nat} {p q:List Rat}
theorem Cd.mono(h:Cd M p)(a:M<=N):Cd N p:=by
 obtain⟨D,d1,b,c⟩:=h;exact⟨D,d1,b.mono a,λi=>(c i).mono a⟩
theorem Cd.smq(h:Cd M p)(i:Nat):Db M (cf p i):=by
 obtain⟨D,d1,a,b⟩:=h;exact(b i).smq d1 a
theorem Cd.ln(h:Cd M p):Ln M p:=by
 obtain⟨D,d1,b,a⟩:=h;exact a.ln d1
theorem Cd.sqs(h:Cd M p)(a:M<=1000000):Da p:=Da.of λi=>Sq.of (h.smq i) a
theorem Cd.dvn(h:Cd M p)(f:Cd M q)(g:cf q (q.length-1)=1):∃D E:Int,Dvn D E E M M p q:=by
 obtain⟨D,d1,c,d⟩:=h;obtain⟨E,a,b,e⟩:=f;exact⟨D,E,d1,c,d,a,b,e,a,b,by rw[g,Rat.divInt_self' a]⟩
theorem Cd.quo(h:Cd M p)(e:Cd M q)(b:cf q (q.length-1)=1):Cd ((p.length+1)*(M+1)) (Jz p q)/\Cd ((p.length+1)*(M+1)) (JE p q):=by
 obtain⟨D,E,d⟩:=h.dvn e b;obtain⟨m,b⟩:=ex (p.length-(q.length-1));have a:=d.den m;have c:=d.rem b;have f:m*(M+1)<=p.length*(M+1):=Ah _ O;have g:(p.length+1)*(M+1)=p.length*(M+1)+(M+1):=by rw[AC,CG]
 exact⟨⟨_,a.1,a.2.mono O,λi=>(c.2 i).mono O⟩,⟨_,a.1,a.2.mono O,λi=>(c.1 i).mono O⟩⟩
end
variable{q:List Rat}
theorem UV(tq:Jd q=q)(q0:q≠[])(a:Jy q=q):cf q (q.length-1)=1:=by
 have:=Np tq q0;rwa[a]at this
def GK(p q:List Rat):List Rat:=if q=[]then []else Jz p q
theorem Cd.ov{M:Nat}{p:List Rat}(h:Cd M p)(b:Cd M q)(tq:Jd q=q)(c:Jy q=q):Cd ((p.length+1)*(M+1)) (GK p q):=by
 unfold GK;split
 . refine(show Cd 1 []from P2 O).mono ?_
   have:1*1<=(p.length+1)*(M+1):=Cu O O
   omega
 . rename_i a;exact(h.quo b (UV tq a c)).1
def I6(p:List Rat):List Rat:=Jy (GK p (JQ p (Jc p)))
namespace M3
variable{p q:List Rat}{K:Nat}
theorem Chn.ends(d:ChOk K p q):∀(n:Nat) (a b:List Rat),b.length<=n->Chn p q (DW K p q) a b->∃r,Chn p q (DW K p q) r []:=by
 intro n;induction n with
 |zero=>
  intro a b hl h;have c:b=[]:=L7 O;subst c;exact⟨a,h⟩
 |succ n e=>
  intro a b hl h;by_cases c:b=[]
  . subst c;exact⟨a,h⟩
  . have f:=XO (a:=a) h.tb c;exact e b (Xo a b) O (Chn.next d.tp d.tq d.lp d.lq d.bd.2.2.1 h c)
theorem ChOk.gcd(a:ChOk K p q):Cd (DW K p q) (JQ p q):=by
 obtain⟨r,b⟩:=Chn.ends a _ _ _ (Aa _) (Chn.start a.tp a.tq a.lp a.lq a.bd.2.2.1);rw[<-b.gc,UA];exact LP b.ta b.wa.ln a.bd.2.2.2
theorem kD(M:Nat)(v:Value)(p:List Rat)(w:F)(h:RowK false w v p)(tp:Jd p=p)(b:Cd M p)(a:M<=1000000)(hl:p.length<=1000000):
 Calls C 156 #[v] w λe c=>∃u,e=.returned u/\RowK false c u (Jy p)/\Bl w c:=
 US v p w h tp (b.sqs a) (λd=>by
  rw[F0,CW];exact Sq.of ((b.smq _).inv (Js tp d)) a) O
theorem kE(M:Nat)(b c:Value)(p q:List Rat)(w:F)(f:RowK false w b p)(g:RowK false w c q)(hp:Cd M p)(hq:Cd M q)(tp:Jd p=p)(tq:Jd q=q)(q0:q≠[])(i:Jy q=q)(k:(p.length+3)*(M+1)<=1000000)(hl:p.length<=1000):
 Calls C 110 #[b,c] w λe d=>∃u v,e=.returned (.tuple #[u,v])/\RowK false d u (Jz p q)/\RowK false d v (JE p q)/\Bl w d:=by
 obtain⟨D,E,a⟩:=hp.dvn hq (UV tq q0 i);have j:(p.length+3)*(M+1)=p.length*(M+1)+3*(M+1):=AC _ _ _;exact Px _ M b c p q w f g (a.divS p.length O) a.start a.sq tp tq q0 hl
structure FrOk(K:Nat)(p:List Rat):Prop where
 ch:ChOk K p (Jc p)
 le:(p.length+3)*(DW K p (Jc p)+1)*2<=1000000
theorem FrOk.cd(h:FrOk K p):Cd (DW K p (Jc p)) p:=(show Cd K p from h.ch.cp).mono (by have:=IP K p (Jc p);omega)
theorem kF(K:Nat)(v:Value)(p:List Rat)(w:F)(h:RowK false w v p)(b:FrOk K p):
 Calls C 107 #[v] w λe s=>∃u,e=.returned u/\RowK false s u (I6 p)/\Bl w s:=by
 obtain⟨a,la,ca,rfl⟩:=h.form;obtain⟨r,I,L,U,_⟩:=h.formsF;by_cases c:p=[]
 . have T:(la:Int)=0:=by rw[r,c];rfl
   have t:=Y (show RowK false w (E a la ca) (I6 p)by rw[c]at h ⊢;exact h);clear h c b;go_enter Tryz.func107,Tryz.ntmps107
   go_wp2_with fail
   go_ret;exact⟨_,rfl,t.o,BA _ _⟩
 . have S:¬(la:Int)=0:=by have:=Ae.2 c;omega
   have A:=b.le;have q:=b.ch.bd;have z:(p.length+3)*(DW K p (Jc p)+1)=(p.length+1)*(DW K p (Jc p)+1)+2*(DW K p (Jc p)+1):=by rw[<-AC]
   have f:=b.ch.gcd;have j:=MF b.ch.tp b.ch.tq;have i:=I5 b.ch.tp b.ch.tq (Or.inl c);have x:=b.ch.ln;have k:GK p (JQ p (Jc p))=Jz p (JQ p (Jc p)):=BB i;obtain⟨m,o,n⟩:=Df (Tc _ p w h (b.cd.sqs q.1) O) (λ(V:F) (l:Bl w V) (y:Value) (d:RowK false V y (Jc p))=>js K _ y p (Jc p) V (h.below l) d b.ch) λ(V:F) (l:Bl w V) (y:Value) (d:RowK false V y (JQ p (Jc p)))=>kE (DW K p (Jc p)) _ y p (JQ p (Jc p)) V (h.below l) d b.cd f b.ch.tp (YE _ _) i j O O;have g:=Y (λ(V:F) (y:Value) (d:RowK false V y (Jz p (JQ p (Jc p))))=>kD ((p.length+1)*(DW K p (Jc p)+1)) y (Jz p (JQ p (Jc p))) V d (Xn _ _) (by rw[<-k];exact b.cd.ov f (YE _ _) j) O (by
    have R:(Jz p (JQ p (Jc p))).length<=p.length:=by
     unfold Jz;refine Am (JY _) ?_;rw[(Y0 _ _ _ _ _).1];omega
    omega))
   rw[show Jy (Jz p (JQ p (Jc p)))=I6 p by unfold I6;rw[k]]at g;clear h c b A q z f j i x k r I L;go_enter Tryz.func107,Tryz.ntmps107
   go_wp2_with(first
    |(go_at_call 108;refine m.o.mono ?_;clear m;rintro e w1 ⟨u1,rfl,M,hq⟩)
    |(go_at_call 155;refine(o.o _ hq _ M).mono ?_;clear o;rintro e w2 ⟨u2,rfl,N,B⟩;have hq:=Bt hq B)
    |(go_at_call 110;refine(n.o _ hq _ N).mono ?_;clear n;rintro e w3 ⟨u3,X,rfl,P,W,D⟩;have hq:=Bt hq D)
    |(go_at_call 156;refine(g.o _ _ P).mono ?_;clear g;rintro e w4 ⟨u4,rfl,Q,H⟩;have hq:=Bt hq H))
   go_ret;exact⟨_,rfl,Q,hq⟩
end M3
end
open Go.RowKit Go.Shelf
def zP:Array Value:=#[E none 0 0,.int .i64 0]
namespace M3
end M3

