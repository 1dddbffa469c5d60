import Derived.Test.YteldjhhjnchdeaaGreatDoorW44
open Go.Value renaming slice->C,int->D
open Go renaming Value->F,World->G
open Go.Obj renaming cells->E
set_option maxRecDepth 100000
set_option maxHeartbeats 16000000
namespace Go.Proofs.YteldjhhjnchdeaaGreatDoor
namespace M3
open Go.RowKit Go.Shelf
attribute [local go_sem] Oper.semAt_some
end M3
section
def Dv(a b:List Rat):Prop:=∃c:List Rat,∀x,ev b x=ev a x*ev c x
def Df(a b:List Rat):Prop:=∃u v:List Rat,∀x,ev u x*ev a x+ev v x*ev b x=1
section
variable {a b c d p q:List Rat}
theorem Dv.refl(a:List Rat):Dv a a:=⟨[1],λx=>by simp[ev];grind⟩
theorem Dv.trans(h:Dv a b)(d:Dv b c):Dv a c:=by
 obtain⟨u,e⟩:=h;obtain⟨v,f⟩:=d;exact⟨Jo u v,λx=>by rw[f,e,Ji];grind⟩
theorem Dv.zero(a:List Rat):Dv a []:=⟨[],λx=>by simp[ev]⟩
theorem Dv.mul(h:Dv a b)(c:List Rat):Dv a (Jo b c):=by
 obtain⟨u,d⟩:=h;exact⟨Jo u c,λx=>by rw[Ji,d,Ji];grind⟩
theorem Dv.mul'(h:Dv a b)(c:List Rat):Dv a (Jo c b):=by
 obtain⟨u,d⟩:=h;exact⟨Jo u c,λx=>by rw[Ji,d,Ji];grind⟩
theorem Dv.comb(h:Dv d a)(e:Dv d b)(u v:List Rat)(f:∀x,ev c x=ev u x*ev a x+ev v x*ev b x):Dv d c:=by
 obtain⟨s,hs⟩:=h;obtain⟨t,g⟩:=e;exact⟨XD (Jo u s) (Jo v t),λx=>by rw[f,hs,g,Y6,Ji,Ji];grind⟩
theorem Dv.of_sc{k:Rat}(c:k≠0)(h:Dv a b):Dv (DX k a) b:=by
 obtain⟨u,d⟩:=h;have e:(1/k)*k=1:=A4 c;exact⟨DX (1/k) u,λx=>by rw[d,Yq,Yq];grind⟩
theorem Dv.sc(h:Dv a b)(k:Rat):Dv a (DX k b):=by
 obtain⟨u,c⟩:=h;exact⟨DX k u,λx=>by rw[Yq,c,Yq];grind⟩
theorem Df.symm(h:Df a b):Df b a:=by
 obtain⟨u,v,h⟩:=h;exact⟨v,u,λx=>by rw[<-h x];grind⟩
theorem Df.of_dv(h:Df a b)(c:Dv d a):Df d b:=by
 obtain⟨u,v,h⟩:=h;obtain⟨s,hs⟩:=c;exact⟨Jo u s,v,λx=>by rw[<-h x,hs x,Ji];grind⟩
theorem Df.dv(h:Df a b)(e:Dv a (Jo b c)):Dv a c:=by
 obtain⟨u,v,h⟩:=h;obtain⟨k,f⟩:=e;refine⟨XD (Jo u c) (Jo v k),λx=>?_⟩;have g:=h x;have d:=f x;rw[Ji]at d;rw[Y6,Ji,Ji];grind
theorem Df.mul(h:Df a b)(d:Df a c):Df a (Jo b c):=by
 obtain⟨u,v,h⟩:=h;obtain⟨s,t,d⟩:=d;refine⟨XD u (Jo (Jo v b) s),Jo v t,λx=>?_⟩;have e:=h x;have f:=d x;rw[Y6,Ji,Ji,Ji,Ji];grind
end
theorem LJ{p:List Rat}(x:Rat):ev (Jp p) x=ev p x*(1/cf p (p.length-1)):=Yq _ _ _
theorem bD:∀(n:Nat) (p q:List Rat),Jd p=p->Jd q=q->q.length<=n->Dv (X3 n p q) p/\Dv (X3 n p q) q/\∃u v:List Rat,∀x,ev (X3 n p q) x=ev u x*ev p x+ev v x*ev q x:=by
 intro n;induction n with
 |zero=>
  intro p q hp hq hl;have a:q=[]:=K6 Y;subst a;rw[X3];refine⟨?_,Dv.zero _,[1/cf p (p.length-1)],[],λx=>by rw[LJ];simp[ev];grind⟩;by_cases b:p=[]
  . subst b;exact Dv.refl _
  . exact Dv.of_sc (IW (Jw hp b)) (Dv.refl _)
 |succ n g=>
  intro p q hp hq hl;by_cases a:q=[]
  . subst a;simp only[X3,BJ];refine⟨?_,Dv.zero _,[1/cf p (p.length-1)],[],λx=>by rw[LJ];simp[ev];grind⟩;by_cases b:p=[]
    . subst b;exact Dv.refl _
    . exact Dv.of_sc (IW (Jw hp b)) (Dv.refl _)
  . simp only[X3,BH a];obtain⟨d,j,k,i⟩:=YW p q hq a;obtain⟨c,e,u,v,f⟩:=g q (JZ p q) hq i Y;refine⟨c.comb e (Jt p q) [1] (λx=>by rw[d x];simp[ev];grind),c,v,JE u (Jo v (Jt p q)),λx=>?_⟩;rw[f x,d x,XP,Ji];grind
section
variable {p q d:List Rat}
theorem YM(hp:Jd p=p)(hq:Jd q=q):Dv (Jm p q) p/\Dv (Jm p q) q/\∃u v:List Rat,∀x,ev (Jm p q) x=ev u x*ev p x+ev v x*ev q x:=bD _ p q hp hq (Aa _)
theorem KB(hp:Jd p=p)(hq:Jd q=q)(a:Dv d p)(b:Dv d q):Dv d (Jm p q):=by
 obtain⟨_,_,u,v,h⟩:=YM hp hq;exact a.comb b u v h
theorem bE:∀(n:Nat) (p q:List Rat),Jd p=p->Jd q=q->q.length<=n->Jp (X3 n p q)=X3 n p q:=by
 intro n;induction n with
 |zero=>intro p q hp _ _;exact I6 hp
 |succ n b=>
  intro p q hp hq hl;rw[X3];split
  . exact I6 hp
  . rename_i a;have:=(YW p q hq a).2.1;exact b _ _ hq (Y2 _ _) Y
theorem YN(hp:Jd p=p)(hq:Jd q=q):Jp (Jm p q)=Jm p q:=bE _ p q hp hq (Aa _)
end
variable{a b g p q:List Rat}
theorem Y4(hp:Jd p=p)(h:∀x,ev p x=0):p=[]:=YT hp rfl (λx=>by rw[h x];rfl)
theorem Dv.some(d:Jd b=b)(h:Dv a b):∃c,Jd c=c/\b=Jo a c:=by
 obtain⟨c,e⟩:=h;exact⟨Jd c,J9 _,YT d (Jy _ _) λx=>by rw[Ji,Xq,e]⟩
theorem Yw(a:List Rat):Jo a []=[]:=Y4 (Jy _ _) λx=>by rw[Ji];simp[ev]
theorem Dv.anti(o:Jd a=a)(j:Jd b=b)(h:Dv a b)(r:Dv b a):∃k:Rat,k≠0/\b=DX k a:=by
 obtain⟨c,p,e⟩:=h.some j;obtain⟨d,s,i⟩:=r.some o;by_cases g:a=[]
 . refine⟨1,DL,?_⟩;rw[e,g];rfl
 . have n:b≠[]:=λf=>g (by rw[i,f];rfl);have m:c≠[]:=λf=>n (by rw[e,f];exact Yw _);have l:d≠[]:=λf=>g (by rw[i,f];exact Yw _);have l1:=JD o p g m;have l2:=JD j s n l;rw[<-e]at l1;rw[<-i]at l2;have u:0<c.length:=Ai.2 m;have v:0<d.length:=Ai.2 l;have w:0<a.length:=Ai.2 g;have q:c.length=1:=Y
   match c,q with
   |[k],_=>
    have t:k≠0:=by
     have:=Jw p O;simpa[YJ]using this
    refine⟨k,t,YT j (JP _ _) λx=>?_⟩;rw[e,Ji,Yq];simp[ev];grind
theorem Dv.eq(c:Jd a=a)(f:Jd b=b)(ma:Jp a=a)(mb:Jp b=b)(h:Dv a b)(d:Dv b a):a=b:=by
 obtain⟨k,g,e⟩:=h.anti c f d;rw[<-mb,e,LA g c,ma]
theorem JY(e:Jd g=g)(a:g≠[])(h:Dv g p):JZ p g=[]/\∀x,ev p x=ev g x*ev (Jt p g) x:=by
 obtain⟨c,d⟩:=h;have b:=K7 (p:=p) (u:=Jd c) (v:=[]) e a (J9 _) rfl (Ai.2 a) (λx=>by rw[d,Xq];simp[ev];grind);refine⟨b.2.symm,λx=>?_⟩;rw[<-b.1,Xq,d]
theorem YF{u v:List Rat}(i:Jd g=g)(b:g≠[])(h:∀x,ev g x*ev u x=ev g x*ev v x):∀x,ev u x=ev v x:=by
 have d:Jo g (JE u v)=[]:=Y4 (Jy _ _) λx=>by rw[Ji,XP];have:=h x;grind
 have e:JE u v=[]:=by
  by_cases a:JE u v=[]
  . exact a
  . exfalso
    have l:=JD i (Yi u v) b a;rw[d]at l;have j:0<g.length:=Ai.2 b;have k:0<(JE u v).length:=Ai.2 a;simp at l;omega
 intro x;have c:=Bo (λr=>ev r x) e;simp only[XP]at c;have f:ev [] x=0:=rfl;rw[f]at c;grind
theorem LK(hp:Jd p=p)(hq:Jd q=q)(a:Jm p q≠[]):Df (Jt p (Jm p q)) (Jt q (Jm p q)):=by
 obtain⟨f,g,u,v,i⟩:=YM hp hq;have c:=JK p q;have d:=(JY c a f).2;have e:=(JY c a g).2;refine⟨u,v,?_⟩;have j:=YF (u:=XD (Jo u (Jt p (Jm p q))) (Jo v (Jt q (Jm p q)))) (v:=[1]) c a (λx=>by
  rw[Y6,Ji,Ji];have b:=i x;have k:=d x;have l:=e x;simp[ev];grind)
 intro x;have b:=j x;rw[Y6,Ji,Ji]at b;rw[b];simp[ev];grind
theorem XV(hp:Jd p=p)(hq:Jd q=q)(h:p≠[]\/q≠[]):Jm p q≠[]:=λe=>by
 obtain⟨a,b,_⟩:=YM hp hq;rw[e]at a b;obtain⟨c,f⟩:=a;obtain⟨d,g⟩:=b;rcases h with h|h
 . exact h (Y4 hp λx=>by rw[f];simp[ev])
 . exact h (Y4 hq λx=>by rw[g];simp[ev])
end
section
variable {a b c d e f g k p q r u w y z R:List Rat}
theorem Y9(p q:List Rat)(x:Rat):ev (Je (Jo p q)) x=ev (Je p) x*ev q x+ev p x*ev (Je q) x:=by
 rw[Rx,Y6,Ji,Ji]
theorem Xn(p:List Rat)(i:Nat):cf (Je p) i=cf p (i+1)*(((i+1:Nat):Int):Rat):=by
 unfold Je;rw[Yc,Hy];rfl
theorem YQ(a:p≠[]):(Je p).length<p.length:=by
 have b:0<p.length:=Ai.2 a;have c:(Je p).length<=p.length-1:=Xz (JV _) λi d=>by
  rw[Xn,J6 Y,Cy]
 omega
theorem bF(hp:Jd p=p)(h:Je p=[]):p.length<=1:=by
 refine Xz hp λi d=>?_;obtain⟨j,rfl⟩:∃j,i=j+1:=⟨i-1,Y⟩;have b:=Xn p j;rw[h,Yx]at b;rcases C8.1 b.symm with a|a
 . exact a
 . exfalso
   have c:((j+1:Nat):Int)=0:=by exact_mod_cast a
   omega
theorem NE(hp:Jd p=p)(a:p≠[])(hl:p.length<=1):Dv p [1]:=by
 have b:0<p.length:=Ai.2 a;match p,hl,hp,a with
 |[c],_,hp,_=>
  have d:c≠0:=by
   have:=Jw hp O;simpa[YJ]using this
  exact⟨[1/c],λx=>by simp[ev];grind⟩
theorem NF(b:Jd u=u)(a:u≠[])(h:Dv u (Je u)):Dv u [1]:=by
 refine NE b a (bF b ?_);obtain⟨c,i,e⟩:=h.some (JV u);by_cases f:Je u=[]
 . exact f
 . exfalso
   have d:c≠[]:=λg=>f (by rw[e,g];exact Yw _);have l1:=JD b i a d;have l2:=YQ a;have j:0<c.length:=Ai.2 d;rw[<-e]at l1;omega
theorem NG(f:Jd a=a)(g:Jd b=b)(c:a≠[])(d:b≠[]):Jo a b≠[]:=λe=>by
 have l:=JD f g c d;have i:0<a.length:=Ai.2 c;have j:0<b.length:=Ai.2 d;rw[e]at l;simp at l;omega
theorem bG(H:Jd d=d)(r:d≠[])(h:Dv d (Jo (Je d) f)):∀(n:Nat) (u:List Rat),Jd u=u->d.length-u.length<=n->Dv u d->Df u f->Dv u [1]:=by
 intro n;induction n with
 |zero=>
  intro u b hl p l;obtain⟨m,o,e⟩:=p.some H;have a:u≠[]:=λg=>r (by rw[e,g];rfl);have w:m≠[]:=λg=>r (by rw[e,g];exact Yw _);have l1:=JD b o a w;rw[<-e]at l1;have p3:0<u.length:=Ai.2 a;have Q:m.length<=1:=Y
  have R:=NE o w Q;have P:Dv d u:=by
   obtain⟨c,j⟩:=R;refine⟨c,λx=>?_⟩;have y:=j x;rw[e,Ji,Rat.mul_assoc,<-y];simp[ev];grind
  have i:Dv u (Jo f (Je d)):=by
   obtain⟨c,j⟩:=p.trans h;exact⟨c,λx=>by rw[<-j,Ji,Ji];grind⟩
  have z:=l.dv i;refine NF b a ?_;obtain⟨k,hk,S⟩:=P.anti H b p;have A:Je u=DX k (Je d):=by
   refine YT (JV _) (JP _ _) λx=>?_;rw[S,Yq];have B:DX k d=Jo d [k]:=YT (JP _ _) (Jy _ _) λx=>by rw[Yq,Ji];simp[ev];grind
   rw[B,Y9];have L:ev (Je [k]) x=0:=by rw[KO];simp[dv,ev];grind
   rw[L];simp[ev];grind
  rw[A];exact z.sc k
 |succ n X=>
  intro u b hl p l;obtain⟨m,o,e⟩:=p.some H;have a:u≠[]:=λg=>r (by rw[e,g];rfl);have w:m≠[]:=λg=>r (by rw[e,g];exact Yw _);obtain⟨T,U,s,t,V⟩:=YM b o;have K:=XV b o (Or.inl a);have I:=JK u m;by_cases W:(Jm u m).length<=1
  . obtain⟨c,j⟩:=NE I K W;have N:Df u m:=⟨Jo s c,Jo t c,λx=>by
     have y:=j x;have i:=V x;rw[Ji,Ji];have z:ev [1] x=1:=by simp[ev];grind
     rw[z]at y;grind⟩
    have i:Dv u (Jo f (Jo m (Je u))):=by
     obtain⟨v,q⟩:=h;refine⟨JE (Jo m v) (Jo f (Je m)),λx=>?_⟩;have A:=q x;have B:=Y9 u m x;rw[<-e]at B;have L:ev d x=ev u x*ev m x:=by rw[e,Ji]
     rw[Ji]at A;rw[Ji,Ji,XP,Ji,Ji];grind
    exact NF b a (N.dv (l.dv i))
  . have M:Dv (Jo u (Jm u m)) d:=by
     obtain⟨v,q⟩:=U;exact⟨v,λx=>by rw[e,Ji,q,Ji];grind⟩
    have l1:=JD b I a K;have p3:0<u.length:=Ai.2 a;have i:=X (Jo u (Jm u m)) (Jy _ _) Y M (l.symm.mul (l.of_dv T).symm).symm;obtain⟨v,q⟩:=i;exact⟨Jo (Jm u m) v,λx=>by rw[q,Ji,Ji];grind⟩
structure Yun(R w y:List Rat):Prop where
 tR:Jd R=R
 R0:R≠[]
 tw:Jd w=w
 w0:w≠[]
 mw:Jp w=w
 ty:Jd y=y
 eq:∀x,ev y x*ev R x=ev w x*ev (Je R) x
 cop:Df w y
theorem Yun.dv(h:Yun R w y):Dv w R:=by
 refine h.cop.dv ⟨Je R,λx=>?_⟩;rw[Ji,h.eq]
theorem NH(f:Jd w=w)(w0:w≠[])(mw:Jp w=w)(d:Jd g=g)(p:Jp g=g)(h:Dv g w):Jp (Jt w g)=Jt w g/\g≠[]/\Jt w g≠[]/\w=Jo g (Jt w g):=by
 have a:g≠[]:=λe=>w0 (by
  obtain⟨c,m⟩:=h;exact Y4 f λx=>by rw[m,e];simp[ev])
 have e:=(JY d a h).2;have b:w=Jo g (Jt w g):=YT f (Jy _ _) λx=>by rw[Ji,<-e]
 have q0:Jt w g≠[]:=λj=>w0 (by rw[b,j];exact Yw _);refine⟨?_,a,q0,b⟩;have l:=JD d (J8 w g) a q0;have r:0<g.length:=Ai.2 a;have q:0<(Jt w g).length:=Ai.2 q0;have i:cf w (w.length-1)=cf g (g.length-1)*cf (Jt w g) ((Jt w g).length-1):=by
  obtain⟨Q,k⟩:=ex (Jt w g);rw[k]at b l q ⊢;rw[b,l,show g.length+Q.length-1-1=(g.length-1)+(Q.length-1)by omega];unfold Jo;rw[Yc];exact LX g Q (g.length-1) (Q.length-1) Y Y
 have o:cf w (w.length-1)=1:=by have:=LC f w0;rwa[mw]at this
 have n:cf g (g.length-1)=1:=by have:=LC d a;rwa[p]at this
 rw[o,n,FM]at i;unfold Jp;rw[<-i,show(1:Rat)/1=1 by grind];exact IU (J8 _ _)
theorem Yun.step(h:Yun R w y):Jm w (Jt R w)=Jt w (Jm w (JE y (Je w)))/\Jt w (Jm w (Jt R w))=Jm w (JE y (Je w))/\
 Yun (Jt R w) (Jt w (Jm w (JE y (Je w)))) (Jt (JE y (Je w)) (Jm w (JE y (Je w))))/\R=Jo w (Jt R w)/\
 (∀x,ev (JE y (Je w)) x*ev (Jt R w) x=ev w x*ev (Je (Jt R w)) x)/\w=Jo (Jm w (JE y (Je w))) (Jt w (Jm w (JE y (Je w)))):=by
 obtain⟨r,hr⟩:=ex (Jt R w);obtain⟨z,M⟩:=ex (JE y (Je w));have tr:Jd r=r:=by rw[<-hr];exact J8 _ _
 have T:Jd z=z:=by rw[<-M];exact Yi _ _
 have eR:∀x,ev R x=ev w x*ev r x:=by rw[<-hr];exact(JY h.tw h.w0 h.dv).2
 have U:R=Jo w r:=YT h.tR (Jy _ _) λx=>by rw[Ji,eR]
 have r0:r≠[]:=λe=>h.R0 (by rw[U,e];exact Yw _);have X:∀x,ev z x*ev r x=ev w x*ev (Je r) x:=by
  have b:=YF (g:=w) (u:=Jo z r) (v:=Jo w (Je r)) h.tw h.w0 (λx=>by
   have a:=h.eq x;have i:=Y9 w r x;rw[<-U]at i;rw[Ji,Ji,<-M,XP];have K:=eR x;grind)
  intro x;have a:=b x;rwa[Ji,Ji]at a
 have W:=JV r;obtain⟨d,B⟩:=ex (Jm r (Je r));have I:Jd d=d:=by rw[<-B];exact JK _ _
 have d0:d≠[]:=by rw[<-B];exact XV tr W (Or.inl r0)
 obtain⟨g1,g2,_⟩:=YM tr W;rw[B]at g1 g2;obtain⟨f,hf⟩:=ex (Jt r d);obtain⟨e,he⟩:=ex (Jt (Je r) d);have q:∀x,ev r x=ev d x*ev f x:=by rw[<-hf];exact(JY I d0 g1).2
 have ee:∀x,ev (Je r) x=ev d x*ev e x:=by rw[<-he];exact(JY I d0 g2).2
 have tf:Jd f=f:=by rw[<-hf];exact J8 _ _
 have f0:f≠[]:=λe2=>r0 (Y4 tr λx=>by rw[q,e2];simp[ev]);have Qi:Df f e:=by
  have:=LK tr W (by rw[B];exact d0);rwa[B,hf,he]at this
 have Qh:∀x,ev z x*ev f x=ev w x*ev e x:=by
  have b:=YF (g:=d) (u:=Jo z f) (v:=Jo w e) I d0 (λx=>by
   have a:=X x;rw[q,ee]at a;rw[Ji,Ji];grind)
  intro x;have a:=b x;rwa[Ji,Ji]at a
 have Qg:Dv f w:=Qi.dv (⟨z,λx=>by rw[Ji];have:=Qh x;grind⟩);obtain⟨k,tk,ek⟩:=Qg.some h.tw;have j:∀x,ev w x=ev f x*ev k x:=λx=>by rw[ek,Ji]
 have V:∀x,ev z x=ev k x*ev e x:=by
  have b:=YF (g:=f) (u:=z) (v:=Jo k e) tf f0 (λx=>by
   have a:=Qh x;rw[j]at a;rw[Ji];grind)
  intro x;have a:=b x;rwa[Ji]at a
 obtain⟨P,l⟩:=ex (Jm w z);have m:Jd P=P:=by rw[<-l];exact JK _ _
 have mP:Jp P=P:=by rw[<-l];exact YN h.tw T
 obtain⟨Q,p2,_⟩:=YM h.tw T;have Qo:Dv k P:=by rw[<-l];exact KB h.tw T ⟨f,λx=>by rw[j];grind⟩ ⟨e,V⟩
 rw[l]at Q p2;have Qm:Dv P k:=by
  obtain⟨u,v,H⟩:=Qi;refine Q.comb p2 u v λx=>?_;have b:=H x;rw[j,V];grind
 obtain⟨m1,p,N,eW⟩:=NH h.tw h.w0 h.mw m mP Q;have zP:=(JY m p p2).2;have o:=(JY m p Q).2;have Ql:Df k y:=h.cop.of_dv ⟨f,λx=>by rw[j];grind⟩;have Qq:Df k f:=by
  obtain⟨u,v,H⟩:=Ql;refine⟨XD u (Jo v (XD e (Je f))),Jo v (Je k),λx=>?_⟩;have b:=H x;have a:ev y x=ev z x+ev (Je w) x:=by rw[<-M,XP];grind
  have i:=Y9 f k x;rw[<-ek]at i;have K:=V x;rw[Y6,Ji,Ji,Y6];grind
 have Qj:Dv d (Jo (Je d) f):=by
  refine⟨JE e (Je f),λx=>?_⟩;have b:r=Jo d f:=YT tr (Jy _ _) λx=>by rw[Ji,q]
  have a:=Y9 d f x;rw[<-b,ee]at a;rw[Ji,XP];grind
 have Qp:Df k d:=by
  obtain⟨q1,q2,s,t,q3⟩:=YM tk I;obtain⟨c,A⟩:=bG I d0 Qj (d.length) (Jm k d) (JK _ _) Y q2 (Qq.of_dv q1);refine⟨Jo s c,Jo t c,λx=>?_⟩;have b:=A x;have a:=q3 x;have i:ev [1] x=1:=by simp[ev];grind
  rw[i]at b;rw[Ji,Ji];grind
 obtain⟨c1,c2,s,t,c3⟩:=YM h.tw tr;have Qk:Dv f (Jm w r):=KB h.tw tr Qg ⟨d,λx=>by rw[q];grind⟩;have Qs:Dv (Jm w r) f:=by
  obtain⟨u,v,H⟩:=Qp;refine c1.comb c2 u v λx=>?_;have b:=H x;rw[j,q];grind
 obtain⟨n,L⟩:=ex (Jt w P);rw[L]at m1 N eW o;have S:Jd n=n:=by rw[<-L];exact J8 _ _
 have Qt:Dv f n:=by
  obtain⟨c,A⟩:=Qm;refine⟨c,λx=>?_⟩;have b:=YF (g:=P) (u:=n) (v:=Jo f c) m p (λx=>by
   have a:=o x;have i:=j x;have K:=A x;rw[Ji];grind)
  have a:=b x;rwa[Ji]at a
 have Qn:Dv n f:=by
  have k0:k≠[]:=λe2=>h.w0 (by rw[ek,e2];exact Yw _);obtain⟨c,A⟩:=Qo;refine⟨c,λx=>?_⟩;have b:=YF (g:=k) (u:=f) (v:=Jo n c) tk k0 (λx=>by
   have a:=o x;have i:=j x;have K:=A x;rw[Ji];grind)
  have a:=b x;rwa[Ji]at a
 have hG:Jm w r=n:=Dv.eq (JK _ _) S (YN h.tw tr) m1 (Qs.trans Qt) (Qn.trans Qk);have Qr:Dv n w:=⟨P,λx=>by rw[o];grind⟩;have Qb:Jt w n=P:=by
  refine YT (J8 _ _) m λx=>?_;have b:=(JY S N Qr).2;refine YF (g:=n) (u:=Jt w n) (v:=P) S N (λx=>?_) x;have a:=b x;have i:=o x;grind
 rw[hr,M,l,L];refine⟨hG,by rw[hG];exact Qb,⟨tr,r0,S,N,m1,J8 _ _,λx=>?_,?_⟩,U,X,eW⟩
 . refine(YF (g:=P) (u:=Jo (Jt z P) r) (v:=Jo n (Je r)) m p (λx=>?_) x |> λb=>by rwa[Ji,Ji]at b);have a:=X x;have i:=zP x;have K:=o x;rw[Ji,Ji];grind
 . have:=LK h.tw T (by rw[l];exact p);rwa[l,L]at this
theorem Yun.start(tp:Jd p=p)(c:p≠[])(k:Jp p=p):Yun p (Jt p (Jm p (Je p))) (Jt (Je p) (Jm p (Je p))):=by
 have a:=JV p;obtain⟨d,i,_⟩:=YM tp a;have b:=XV tp a (Or.inl c);obtain⟨j,_,l,e⟩:=NH tp c k (JK _ _) (YN tp a) d;have f:=(JY (JK p (Je p)) b d).2;have g:=(JY (JK p (Je p)) b i).2;refine⟨tp,c,J8 _ _,l,j,J8 _ _,λx=>?_,LK tp a b⟩;have m:=f x;have n:=g x;grind
end
section
open Go.RowKit Go.Shelf
def Cd(M:Nat)(p:List Rat):Prop:=∃D:Int,D≠0/\Sm M D/\D6 D M p
section
variable {M N:Nat} {p q:List Rat}
theorem Cd.mono(h:Cd M p)(a:M<=N):Cd N p:=by
 obtain⟨D,d1,b,c⟩:=h;exact⟨D,d1,b.mono a,λi=>(c i).mono a⟩
theorem Cd.smq(h:Cd M p)(i:Nat):DV M (cf p i):=by
 obtain⟨D,d1,a,b⟩:=h;exact(b i).smq d1 a
theorem Cd.ln(h:Cd M p):Ln M p:=by
 obtain⟨D,d1,b,a⟩:=h;exact a.ln d1
theorem Cd.sqs(h:Cd M p)(a:M<=1000000000):Sqs p:=Sqs.of λi=>Sq.of (h.smq i) a
theorem Cd.pos(h:Cd M p):1<=M:=by
 obtain⟨D,d1,a,_⟩:=h;by_cases b:1<=M
 . exact b
 . exfalso
   obtain rfl:M=0:=Y
   unfold Sm at a
   have:D.natAbs≠0:=Int.natAbs_ne_zero.2 d1
   simp at a;omega
theorem Cd.mon(h:Cd M p)(tp:Jd p=p):Cd M (Jp p):=I9 tp h.ln h.pos
theorem Cd.monS(h:Cd M p)(tp:Jd p=p)(b:M<=1000000000)(i:Nat):Sq (cf p i/cf p (p.length-1)):=by
 have a:=Ln.sqs tp h.ln h.pos i;unfold Jp at a;rw[Yh,Ft,FM,<-Ft]at a;exact Sq.of a b
theorem Cd.dvn(h:Cd M p)(f:Cd M q)(g:cf q (q.length-1)=1):∃D E:Int,Dvn D E E M M p q:=by
 obtain⟨D,d1,c,d⟩:=h;obtain⟨E,a,b,e⟩:=f;exact⟨D,E,d1,c,d,a,b,e,a,b,by rw[g,Rat.divInt_self' a]⟩
theorem Cd.quo(h:Cd M p)(e:Cd M q)(b:cf q (q.length-1)=1):Cd ((p.length+1)*(M+1)) (Jt p q)/\Cd ((p.length+1)*(M+1)) (JZ p q):=by
 obtain⟨D,E,d⟩:=h.dvn e b;obtain⟨m,b⟩:=ex (p.length-(q.length-1));have a:=d.den m;have c:=d.rem b;have f:m*(M+1)<=p.length*(M+1):=Am _ Y;have g:(p.length+1)*(M+1)=p.length*(M+1)+(M+1):=by rw[AE,Ct]
 exact⟨⟨_,a.1,a.2.mono Y,λi=>(c.2 i).mono Y⟩,⟨_,a.1,a.2.mono Y,λi=>(c.1 i).mono Y⟩⟩
end
variable{q:List Rat}
theorem KC(tq:Jd q=q)(q0:q≠[])(a:Jp q=q):cf q (q.length-1)=1:=by
 have:=LC tq q0;rwa[a]at this
def Db(p q:List Rat):List Rat:=if q=[]then []else Jt p q
theorem bH(p q:List Rat):Jd (Db p q)=Db p q:=by
 unfold Db;split
 . rfl
 . exact J8 _ _
theorem Cd.ov{M:Nat}{p:List Rat}(h:Cd M p)(b:Cd M q)(tq:Jd q=q)(c:Jp q=q):Cd ((p.length+1)*(M+1)) (Db p q):=by
 unfold Db;split
 . refine(show Cd 1 []from NC Y).mono ?_
   have:1*1<=(p.length+1)*(M+1):=CB Y Y
   omega
 . rename_i a;exact(h.quo b (KC tq a c)).1
def Ht(p:List Rat):List Rat:=Jp (Db p (Jm p (Je p)))
namespace M3
variable{p q:List Rat}{K:Nat}
theorem Chn.ends(d:ChOk K p q):∀(n:Nat) (a b:List Rat),b.length<=n->Chn p q (Di K p q) a b->∃r,Chn p q (Di K p q) r []:=by
 intro n;induction n with
 |zero=>
  intro a b hl h;have c:b=[]:=K6 Y;subst c;exact⟨a,h⟩
 |succ n e=>
  intro a b hl h;by_cases c:b=[]
  . subst c;exact⟨a,h⟩
  . have f:=LF (a:=a) h.tb c;exact e b (EJ a b) Y (Chn.next d.tp d.tq d.lp d.lq d.bd.2.2.1 h c)
theorem ChOk.gcd(a:ChOk K p q):Cd (Di K p q) (Jm p q):=by
 obtain⟨r,b⟩:=Chn.ends a _ _ _ (Aa _) (Chn.start a.tp a.tq a.lp a.lq a.bd.2.2.1);rw[<-b.gc,QH];exact I9 b.ta b.wa.ln a.bd.2.2.2
theorem Q3(M:Nat)(v:F)(p:List Rat)(w:G)(h:Jc w v p)(tp:Jd p=p)(b:Cd M p)(a:M<=1000000000):
 Calls Tryz.prog 26 #[v] w λe c=>∃u,e=.returned u/\Jc c u (Jp p)/\Bl w c:=
 QW v p w h (b.sqs a) tp λi=>b.monS tp a i
theorem bI(M:Nat)(a b:F)(p q:List Rat)(w:G)(d:Jc w a p)(f:Jc w b q)(hp:Cd M p)(hq:Cd M q)(tp:Jd p=p)(tq:Jd q=q)(j:Jp q=q)(n:2*((p.length+3)*(M+1))<=1000000000):
 Calls Tryz.prog 22 #[a,b] w λe c=>∃u v,e=.returned (.tuple #[u,v,.bool (decide (q≠[]))])/\Jc c u (if q=[]then []else Jt p q)/\Jc c v (if q=[]then []else JZ p q)/\Bl w c:=by
 have k:(p.length+3)*(M+1)=p.length*(M+1)+3*(M+1):=AE _ _ _;refine P8 M a b p q w d f (hp.sqs Y) hq.smq tp tq λq0=>?_;obtain⟨D,E,g⟩:=hp.dvn hq (KC tq q0 j);obtain⟨m,i⟩:=ex (p.length-(q.length-1));have l:m*(M+1)<=p.length*(M+1):=Am _ Y;rw[i];exact g.sizes Y
attribute [local go_sem] Oper.semAt_some
theorem KD(M:Nat)(R S:F)(p q:List Rat)(w:G)(t:Jc w R p)(y:Jc w S q)(hp:Cd M p)(hq:Cd M q)(tp:Jd p=p)(tq:Jd q=q)(Q:Jp q=q)(K:2*((p.length+3)*(M+1))<=1000000000):
 Calls Tryz.prog 46 #[R,S] w λe T=>∃u,e=.returned u/\Jc T u (Db p q)/\Bl w T:=by
 obtain⟨j,la,k,rfl⟩:=t.form;obtain⟨l,lb,m,rfl⟩:=y.form;have r:=(((Mem.nil w).push (.cell 25 (C j la k)) (cs:=#[C j la k]) ⟨rfl,rfl⟩).push (.cell 25 (C l lb m)) (cs:=#[C l lb m]) ⟨rfl,rfl⟩).push (.cell 25 (C none 0 0)) (cs:=#[C none 0 0]) ⟨rfl,rfl⟩;simp only[BA]at r;obtain⟨W0,s⟩:=ex (((w.alloc (E #[C j la k] 25)).alloc (E #[C l lb m] 25)).alloc (E #[C none 0 0] 25));have B:=Z s;have a:Hid (Mem w W0 [some (w.heap.size,.cell 25 (C j la k)),some (w.heap.size+1,.cell 25 (C l lb m)),some (w.heap.size+1+1,.cell 25 (C none 0 0))]):=Z (by rw[<-s];exact r);have o:=Z (bI M _ _ p q W0 (t.below a.o.2.2) (y.below a.o.2.2) hp hq tp tq Q K);obtain⟨X,L⟩:=ex (decide (q≠[]));rw[L,show(if q=[]then []else Jt p q)=Db p q from rfl]at o;have c0:=(a.o.cell (i:=0) rfl).1.cell;have c1:=(a.o.cell (i:=1) rfl).1.cell;have W:=(a.o.cell (i:=2) rfl).1;have A:=Z a.o.2.2;clear r s t y hp hq tp tq Q K L a;go_enter Tryz.func46,Tryz.ntmps46
 go_upto_region 1 with fail
 rw[B.o];clear B;go_upto_region 2 with(go_at_call 22;refine o.o.mono ?_;clear o;rintro e n ⟨u4,v4,rfl,z,N,f⟩;obtain⟨b,c,c4,rfl⟩:=z.form;obtain⟨H,P,I,rfl⟩:=N.form)
 have d:Bl n ((n.alloc (E #[C b c c4] 25)).alloc (E #[C H P I] 25)):=(Ba n _).alloc (by rw[BA];omega) _;have nb:=(BL n 25 (C b c c4)).alloc (E #[C H P I] 25);have e5:=nb.cell;have g:=boxed_below (boxed_below W f) d;have x0:=g.cell;have x1:=g.frozen;have V:=Z (Jx g (x:=C b c c4) (z.below d));have U:=Z (((Bt A.o f).trans (d.mono (Aw A.o.size f.size))).setCell (p:=⟨w.heap.size+1+1,0,none⟩) (by show w.heap.size<=w.heap.size+1+1;omega) (C b c c4));clear c0 c1 z N f nb g d;go_wp2_with fail
 exact BB (v:=.agg #[C b c c4]) (by simp[results,Tryz.results46,go_sem,x0]) rfl ⟨_,rfl,V.o,U.o⟩
structure FrOk(K:Nat)(p:List Rat):Prop where
 ch:ChOk K p (Je p)
 le:(p.length+3)*(Di K p (Je p)+1)*2<=1000000000
theorem FrOk.cd(h:FrOk K p):Cd (Di K p (Je p)) p:=(show Cd K p from h.ch.cp).mono (by have:=I8 K p (Je p);omega)
theorem FrOk.sl(h:FrOk K p)(i:Nat):Sq (Gn p i):=by
 have b:=(show Cd K (Je p)from h.ch.cq).sqs h.ch.bd.2.1;have a:=b.at i;unfold Je at a;rwa[Yc,Hy]at a
theorem bJ(K:Nat)(v:F)(p:List Rat)(w:G)(h:Jc w v p)(m:FrOk K p):
 Calls Tryz.prog 16 #[v] w λe w'=>∃u,e=.returned u/\Jc w' u (Ht p)/\Bl w w':=by
 have Qi:Tryz.prog.follows .mixedOrders=true:=by kernel_rfl
 obtain⟨j,la,k,rfl⟩:=h.form;have W:=((Mem.nil w).push (.cell 25 (C j la k)) (cs:=#[C j la k]) ⟨rfl,rfl⟩).push (.poly []) (cs:=#[C none 0 0]) (FT _);simp only[BA]at W;obtain⟨W0,ae⟩:=ex ((w.alloc (E #[C j la k] 25)).alloc (E #[C none 0 0] 25));have Qc:=Z ae;have h9:=m.le;have h8:=m.ch.bd;have h7:(p.length+3)*(Di K p (Je p)+1)=(p.length+1)*(Di K p (Je p)+1)+2*(Di K p (Je p)+1):=by rw[<-AE]
 have X:=m.ch.gcd;have Qb:=YN m.ch.tp m.ch.tq;obtain⟨Qe,Qj,Qf,Qd⟩:=EA (λ(V:G) (M:Bl w V)=>K3 (.agg #[C j la k]) p V (h.below M) (m.cd.sqs h8.1) m.sl) (λ(V:G) (M:Bl w V) (y:F) (P:Jc V y (Je p))=>Gr K (.agg #[C j la k]) y p (Je p) V (h.below M) P m.ch) (λ(V:G) (M:Bl w V) (y:F) (P:Jc V y (Jm p (Je p)))=>KD (Di K p (Je p)) (.agg #[C j la k]) y p (Jm p (Je p)) V (h.below M) P m.cd X m.ch.tp (JK _ _) Qb Y) λ(V:G) (y:F) (P:Jc V y (Db p (Jm p (Je p))))=>Q3 ((p.length+1)*(Di K p (Je p)+1)) y (Db p (Jm p (Je p))) V P (bH _ _) (m.cd.ov X (JK _ _) Qb) Y;rw[show Jp (Db p (Jm p (Je p)))=Ht p from rfl]at Qd;have M1:Hid (Mem w W0 [some (w.heap.size,.cell 25 (C j la k)),some (w.heap.size+1,.poly ([]))]):=Z (by rw[<-ae];exact W);clear W ae h m h9 h8 h7 X Qb;go_enter Tryz.func16,Tryz.ntmps16
 go_upto_region 1 with fail
 rw[Qc.o];clear Qc;refine Jn Qi [[],[],[],[2],[1,3,3],[0,4,4],[5,5],[6,6,0,1,2,3,4,5,6]] (by kernel_rfl) DL
  (λD ad V=>∃(ta tb R S T tf U:F) (Q:Option (Nat × Dat)),ad={ tmps:=#[.agg #[C j la k],.pointer (some ⟨w.heap.size,0,none⟩),.pointer (some ⟨w.heap.size+1,0,none⟩),ta,tb,R,S,T,tf,U],defers:=[] }/\Hid ((D 0=true->ta=.agg #[C j la k])/\(D 1=true->tb=.agg #[C j la k])/\(D 2=true->R=.agg #[C j la k])/\(D 3=true->Has V S (.poly (Je p)))/\(D 4=true->Has V T (.poly (Jm p (Je p))))/\(D 5=true->Has V tf (.poly (Db p (Jm p (Je p)))))/\(D 6=true->Has V U (.poly (Ht p)))/\((D 7=false->Q=some (w.heap.size+1,.poly ([])))/\(D 7=true->Q=some (w.heap.size+1,.poly (Ht p)))))/\Hid (Mem w V [some (w.heap.size,.cell 25 (C j la k)),Q]))
  ⟨_,_,_,_,_,_,_,_,rfl,Z ⟨O,O,O,O,O,O,O,⟨λ_=>rfl,O⟩⟩,Z (M1.o).drew⟩ ?step1 ?fin1
 case step1=>
  rintro D ad V i ds ah hi g af ⟨ta,tb,R,S,T,tf,U,Q,rfl,b,f⟩;have ai:i<8:=(Af.1 hi).1;obtain rfl|rfl|rfl|rfl|rfl|rfl|rfl|rfl:=KL i Y
  all_goals
   simp only[Aj,Ah,Al]at hi;subst hi
  . have e0:=(f.o.cell (i:=0) rfl).1.cell;clear g;refine Zt ?_;exact⟨_,_,_,_,_,_,_,_,rfl,(Dc b),Z (f.o)⟩
  . have e0:=(f.o.cell (i:=0) rfl).1.cell;clear g;refine Zt ?_;exact⟨_,_,_,_,_,_,_,_,rfl,(Dg b),Z (f.o)⟩
  . have e0:=(f.o.cell (i:=0) rfl).1.cell;clear g;refine Zt ?_;exact⟨_,_,_,_,_,_,_,_,rfl,(DZ b),Z (f.o)⟩
  . obtain rfl:=(b.o.2.2.1 (g 2 O));have H:=Z (Qe.o V f.o.2.2);clear g;refine Jb rfl rfl λK hK=>?_;go_simp;go_wp2_with(go_at_call 24;refine H.o.mono ?_;rintro e w5 ⟨v5,rfl,I,d⟩)
    obtain⟨o,q,_,_,x,z,A,B⟩:=b.o;exact⟨_,_,_,_,_,_,_,_,rfl,Z ⟨o,q,λ_=>rfl,λ_=>I,λh=>(x h).below d,λh=>(z h).below d,λh=>(A h).below d,B⟩,Z (f.o.below d)⟩
  . obtain rfl:=(b.o.2.1 (g 1 O));have L:=(b.o.2.2.2.1 (g 3 O));have H:=Z (Qj.o V f.o.2.2 _ L);clear g L;refine Jb rfl rfl λK hK=>?_;go_simp;go_wp2_with(go_at_call 8;refine H.o.mono ?_;rintro e w5 ⟨v5,rfl,I,d⟩)
    obtain⟨o,_,s,t,_,z,A,B⟩:=b.o;exact⟨_,_,_,_,_,_,_,_,rfl,Z ⟨o,λ_=>rfl,s,λh=>(t h).below d,λ_=>I,λh=>(z h).below d,λh=>(A h).below d,B⟩,Z (f.o.below d)⟩
  . obtain rfl:=(b.o.1 (g 0 O));have L:=(b.o.2.2.2.2.1 (g 4 O));have H:=Z (Qf.o V f.o.2.2 _ L);clear g L;refine Jb rfl rfl λK hK=>?_;go_simp;go_wp2_with(go_at_call 46;refine H.o.mono ?_;rintro e w5 ⟨v5,rfl,I,d⟩)
    obtain⟨_,q,s,t,x,_,A,B⟩:=b.o;exact⟨_,_,_,_,_,_,_,_,rfl,Z ⟨λ_=>rfl,q,s,λh=>(t h).below d,λh=>(x h).below d,λ_=>I,λh=>(A h).below d,B⟩,Z (f.o.below d)⟩
  . have h0:=((Do b) (g 5 O));have H:=Z (Qd.o V _ h0);clear g h0;refine Jb rfl rfl λK hK=>?_;go_simp;go_wp2_with(go_at_call 26;refine H.o.mono ?_;rintro e w5 ⟨v5,rfl,I,d⟩)
    obtain⟨o,q,s,t,x,z,_,B⟩:=b.o;exact⟨_,_,_,_,_,_,_,_,rfl,Z ⟨o,q,s,λh=>(t h).below d,λh=>(x h).below d,λh=>(z h).below d,λ_=>I,B⟩,Z (f.o.below d)⟩
  . obtain rfl:=EF b af;have hv:=((D3 b) (g 6 O));obtain⟨a1,l1,c1,rfl⟩:=Jc.form (show Jc V _ _ from hv);obtain⟨a,l,c,n,r⟩:=f.o.poly2 (i:=1) rfl;have e0:=n.cell;have f0:=n.frozen;clear g;refine Zt ?_;obtain⟨o,q,s,t,x,z,A,_⟩:=b.o;exact⟨_,_,_,_,_,_,_,_,rfl,Z ⟨o,q,s,λh=>(t h).set1 n rfl _,λh=>(x h).set1 n rfl _,λh=>(z h).set1 n rfl _,λh=>(A h).set1 n rfl _,⟨λh=>by simp at h,λ_=>rfl⟩⟩,Z (f.o.putPoly (i:=1) rfl hv)⟩
 rintro D ad V2 N ⟨ta,tb,R,S,T,tf,U,Q,rfl,b,f⟩;obtain rfl:=b.o.2.2.2.2.2.2.2.2 (N 7 DL);obtain rfl:=b.o.1 (N 0 DL);obtain rfl:=b.o.2.1 (N 1 DL);obtain rfl:=b.o.2.2.1 (N 2 DL);clear b N M1;have M2:Hid (Mem w V2 [some (w.heap.size,.cell 25 (C j la k)),some (w.heap.size+1,.poly (Ht p))]):=f;clear f;obtain⟨a3,l3,c3,n3,r3⟩:=M2.o.poly2 (i:=1) rfl;have Qh:=n3.cell;have Qg:=Z M2.o.2.2;go_wp2_with fail
 exact BB (v:=.agg #[C a3 l3 c3]) (by simp[results,Tryz.results16,go_sem,Qh]) rfl ⟨_,rfl,r3,Qg.o⟩
end M3
end
open Go.RowKit Go.Shelf
variable{r:Bool}{L:List (List Rat × Nat)}{p:List Rat}{cs:List F}{B base c l t:Nat}{a:Option Addr}{v:F}{W W':G}
theorem Tryz.infoPart:(Tryz.prog.info? 44).map (λi=>(i.zero,i.size,i.bytes))=some (some (.agg #[C none 0 0,D .i64 0]),2,32):=by kernel_rfl
theorem Tryz.infoRPart:(Tryz.prog.info? 46).map (λi=>(i.zero,i.size,i.bytes))=some (some (.agg #[C none 0 0,D .i64 0]),2,32):=by kernel_rfl
def Dz(r:Bool):TypeId:=match r with|true=>44|false=>46
def GA(r:Bool):TypeId:=match r with|true=>39|false=>41
def zP:Array F:=#[C none 0 0,.int .i64 0]
theorem bK(r:Bool):Tryz.prog.underlying (GA r)=some (.slice (Dz r)):=by
 cases r with
 |true=>exact Tryz.underlying39
 |false=>exact Tryz.underlying41
theorem bL(r:Bool):∃i,Tryz.prog.info? (Dz r)=some i/\i.zero=some (.agg zP)/\i.size=2/\i.bytes=32:=by
 cases r with
 |true=>
  obtain⟨i,a,b,c,d⟩:=DI Tryz.infoPart;exact⟨i,a,b,c,d⟩
 |false=>
  obtain⟨i,a,b,c,d⟩:=DI Tryz.infoRPart;exact⟨i,a,b,c,d⟩
def GC(r:Bool)(W W':G):Prop:=∀B,B<W.heap.size->(∀cs m,W.heap[B]?≠some (E cs (Dz r) m))->W'.heap[B]?=W.heap[B]?
theorem GC.at(h:GC r W W'){cs:Array F}{t:TypeId}{m:Nat × Nat}(a:W.heap[B]?=some (E cs t m))(b:t≠Dz r):W'.heap[B]?=W.heap[B]?:=
 h B (Ae.1 a).1 λc d e=>by
  rw[a]at e;simp only[Al,Bn]at e;exact b e.2.1
theorem bM(k:IntKind)(r:Bool):Nz k≠Dz r:=by cases r<;>cases k<;>decide
theorem bN(k:Bool)(r:Bool):Ix k≠Dz r:=by cases r<;>cases k<;>decide
theorem GC.row(h:GC r W W'){k:IntKind}{ds:List Nat}(t:Row k W v ds):Row k W' v ds:=by
 obtain⟨a,c,e,l,n,o,d⟩:=t;refine⟨a,c,e,l,n,o,?_⟩;rcases d with d|⟨b,off,i,g,q⟩
 . exact Or.inl d
 . obtain⟨cs,m,p⟩:=id g;have f:=h.at p (bM k r);refine Or.inr ⟨b,off,i,g.of f,λj s=>?_⟩;rw[<-q j s];simp only[World.cell?,f]
theorem GC.rowK(h:GC r W W'){k:Bool}{qs:List Rat}(A:RowK k W v qs):RowK k W' v qs:=by
 obtain⟨a,cap,e,o,p,q,c⟩:=A;refine⟨a,cap,e,o,p,q,?_⟩;rcases c with c|⟨b,n,cs,d,t⟩
 . exact Or.inl c
 . refine Or.inr ⟨b,n,cs,(h.at d (bN k r)).trans d,λj w=>?_⟩;obtain⟨x,y,z,u,f,i,l,m,s⟩:=t j w;exact⟨x,y,z,u,f,i,l,m,s.keep λ_ _ _ g=>h.row g⟩
def FU(r:Bool)(W:G)(cs:List F)(L:List (List Rat × Nat)):Prop:=
 cs.length=L.length*2/\∀j p t,L[j]?=some (p,t)->∃x,cs[j*2]?=some x/\cs[j*2+1]?=some (.int .i64 (t:Int))/\RowK r W x p
theorem FU.keep(h:FU r W cs L)(d:∀v qs,RowK r W v qs->RowK r W' v qs):FU r W' cs L:=by
 refine⟨h.1,λj p t e=>?_⟩;obtain⟨x,a,b,c⟩:=h.2 j p t e;exact⟨x,a,b,d _ _ c⟩
theorem FU.below{r:Bool}{W W':G}{cs:List F}{L:List (List Rat × Nat)}(h:FU r W cs L)(a:Bl W W'):FU r W' cs L:=h.keep λ_ _ g=>g.below a
theorem FU.snoc(h:FU r W cs L){x:F}(k:RowK r W x p):FU r W (cs++[x,D .i64 (t:Int)]) (L++[(p,t)]):=by
 refine⟨by simp[h.1];omega,λj l m e=>?_⟩;by_cases i:j<L.length
 . rw[A5 i]at e;obtain⟨y,b,c,f⟩:=h.2 j l m e;exact⟨y,by rw[A5 (by have:=h.1;omega)];exact b,by rw[A5 (by have:=h.1;omega)];exact c,f⟩
 . rw[AW Y]at e;obtain⟨d,g⟩:=ex (j-L.length);rw[g]at e;cases d with
   |succ d=>simp at e
   |zero=>
    simp at e;obtain⟨rfl,rfl⟩:=e;have a:j=L.length:=Y
    subst a;refine⟨x,?_,?_,k⟩
    . rw[AW (by have:=h.1;omega),h.1,A7];rfl
    . rw[AW (by have:=h.1;omega),h.1,show L.length*2+1-L.length*2=1 by omega];rfl
def Y5(r:Bool)(base:Nat)(W:G)(v:F)(L:List (List Rat × Nat)):Prop:=
 (v=C none 0 0/\L=[])\/∃g cap a,v=C (some ⟨g,0,none⟩) L.length cap/\base<=g/\W.heap[g]?=some (E a (Dz r) (0,0))/\L.length<=cap/\cap<=maxLen/\a.size=cap*2/\FU r W (a.toList.take (L.length*2)) L
theorem Y5.nil(r:Bool)(base:Nat)(W:G):Y5 r base W (C none 0 0) []:=Or.inl ⟨rfl,rfl⟩
theorem Y5.below{r:Bool}{base:Nat}{W W':G}{v:F}{L:List (List Rat × Nat)}(h:Y5 r base W v L)(b:Bl W W'):Y5 r base W' v L:=by
 rcases h with h|⟨g,cap,c,d,e,a,f,i,j,k⟩
 . exact Or.inl h
 . exact Or.inr ⟨g,cap,c,d,e,(b.block g (Ae.1 a).1).trans a,f,i,j,k.below b⟩
theorem Y5.form(h:Y5 r base W v L):∃a c,v=C a L.length c/\L.length<=c/\c<=maxLen:=by
 rcases h with⟨rfl,rfl⟩|⟨g,cap,e,rfl,_,_,b,d,_⟩
 . exact⟨none,0,rfl,O,by unfold maxLen;omega⟩
 . exact⟨_,cap,rfl,b,d⟩
theorem Y5.set(h:Y5 r base W v L)(b:Boxed W B 25 (C a l c)){u:F}(s:∀v qs,RowK r W v qs->RowK r (W.setCell ⟨B,0,none⟩ u) v qs):Y5 r base (W.setCell ⟨B,0,none⟩ u) v L:=by
 rcases h with h|⟨g,cap,i,j,k,d,m,n,o,p⟩
 . exact Or.inl h
 . have f:g≠B:=λe=>by
    subst e;have q:W.heap[g]?=some (E #[C a l c] 25 (0,0)):=b;rw[q]at d;simp only[Al,Bn]at d;have:=d.2.1;revert this;cases r<;>decide
   exact Or.inr ⟨g,cap,i,j,k,(BC W ⟨B,0,none⟩ u g f).trans d,m,n,o,p.keep s⟩
theorem bO(r:Bool)(base:Nat)(W:G)(v:F)(L:List (List Rat × Nat))(h:Y5 r base W v L)(hx:RowK r W (C a l c) p)(hl:L.length+1<=1099511627776)(R:base<=W.heap.size):
 ∃v' z,(Builtin.append_ #[GA r,GA r] (GA r) #[v,C (some ⟨W.heap.size,0,none⟩) 1 1]).run Tryz.prog (W.alloc (E #[C a l c,D .i64 (t:Int)] (Dz r)))=.ok v' z/\Y5 r base z v' (L++[(p,t)])/\GC r W z/\(∀n w0,n<=base->Below n w0 W->Below n w0 z)/\W.heap.size<=z.heap.size:=by
 obtain⟨i,T,hz,y,ae⟩:=bL r;have U:=bK r;have k:Bl W (W.alloc (E #[C a l c,D .i64 (t:Int)] (Dz r))):=Ba W _;obtain⟨b,ad⟩:=ex (W.alloc (E #[C a l c,D .i64 (t:Int)] (Dz r)));have Qf:b.heap[W.heap.size]?=some (E #[C a l c,D .i64 (t:Int)] (Dz r) (0,0)):=by rw[<-ad];exact BD W _
 rw[ad]at k ⊢;have Ql:=hx.below k;have I:∀j c',[Value.slice a l c,D .i64 (t:Int)][j]?=some c'->b.cell? ((⟨W.heap.size,0,none⟩:Addr).add j)=some c':=λj c' f=>by
  rw[XG,A9];exact cell_of Qf (by simpa using f)
 have Qh:∀c'∈[Value.slice a l c,D .i64 (t:Int)],c'.oneCell'=true:=λc' f=>by
  simp at f;rcases f with rfl|rfl<;>rfl
 have X:(Value.agg zP).cells=zP:=rfl;have Qp:zP.size=2:=rfl;have grown:∀(cs:List F) (w:Nat) (m:Nat),m=L.length+1->FU r b (cs++[C a l c,D .i64 (t:Int)]) (L++[(p,t)])->cs.length=L.length*2->
  Y5 r base (b.drew.alloc (E (cs.toArray++[Value.slice a l c,D .i64 (t:Int)].toArray++Builtin.zeroCells zP (grownCap b m w (Dz r)-m)) (Dz r))) (C (some ⟨b.heap.size,0,none⟩) m (grownCap b m w (Dz r))) (L++[(p,t)]):=by
  intro cs w m hm f x;subst hm;have Qm:=grownCap_ge b (L.length+1) w (Dz r);have Qq:=grownCap_le_maxLen b (L.length+1) w (Dz r) (by unfold maxLen;omega);have Qr:Bl b (b.drew.alloc (E (cs.toArray++[Value.slice a l c,D .i64 (t:Int)].toArray++Builtin.zeroCells zP (grownCap b (L.length+1) w (Dz r)-(L.length+1))) (Dz r))):=((BE _ b).drew).alloc (Aa _) _;refine Or.inr ⟨b.heap.size,_,_,by rw[Aq];rfl,Aw R k.size,BD b.drew _,by rw[Aq];exact Qm,Qq,?_,?_⟩
  . simp only[Array.size_append,Ar,size_zeroCells,Qp,x,Ao,AG];omega
  . have e:(cs.toArray++[Value.slice a l c,D .i64 (t:Int)].toArray++Builtin.zeroCells zP (grownCap b (L.length+1) w (Dz r)-(L.length+1))).toList.take ((L++[(p,t)]).length*2)=cs++[C a l c,D .i64 (t:Int)]:=by
     simp only[Array.toList_append];have K:(L++[(p,t)]).length*2=(cs++[Value.slice a l c,D .i64 (t:Int)]).length:=by simp;omega
     rw[K];exact List.take_left
    rw[e];exact f.below Qr
 have fin:∀o,GC r W (b.drew.alloc o)/\(∀n w0,n<=base->Below n w0 W->Below n w0 (b.drew.alloc o))/\W.heap.size<=(b.drew.alloc o).heap.size:=λo=>by
  have M:Bl W (b.drew.alloc o):=(k.drew).alloc (by exact k.size) _;exact⟨λB H _=>M.block B H,λn w0 u Q=>Q.trans (M.mono (Aw u R)),M.size⟩
 rcases h with⟨rfl,rfl⟩|⟨g,cap,d,rfl,h2,N,h4,h5,h6,h7⟩
 . have s:=run_append_nil (P:=Tryz.prog) b (GA r) (GA r) (Dz r) i _ U T hz ⟨W.heap.size,0,none⟩ 1 1 [C a l c,D .i64 (t:Int)] (by rw[y];rfl) I Y Y (by rw[ae];omega);rw[X]at s;refine⟨_,_,s,?_,fin _⟩;have:=grown [] 0 1 rfl (by rw[At];exact FU.snoc (cs:=[]) (L:=[]) ⟨rfl,λj p t e=>by simp at e⟩ Ql) rfl;simpa using this
 . have A:b.heap[g]?=some (E d (Dz r) (0,0)):=(k.block g (Ae.1 N).1).trans N;have x:(d.toList.take (L.length*2)).length=L.length*2:=by rw[Ap];have h0:d.toList.length=d.size:=Array.length_toList;omega
   have V:=(h7.below k).snoc (t:=t) Ql;by_cases af:L.length+1<=cap
   . have s:=run_append_room (P:=Tryz.prog) b (GA r) (GA r) (Dz r) i U T g L.length cap d A ⟨W.heap.size,0,none⟩ 1 1 [C a l c,D .i64 (t:Int)] (by rw[y];rfl) I Qh af (by rw[y];simp;omega);rw[y]at s;obtain⟨q,S⟩:=ex ((d.toList.take (L.length*2)++[Value.slice a l c,D .i64 (t:Int)]++d.toList.drop (L.length*2+[Value.slice a l c,D .i64 (t:Int)].length)).toArray);rw[S]at s;have Qo:=setRow_heap b g d q (Dz r) (0,0) A;have Qd:GC r b (b.setRow g q):=λB H u=>setRow_other b g B q λe=>u d (0,0) (by rw[e];exact A);have Qg:b.heap.size<=(b.setRow g q).heap.size:=(below_setRow (B:=0) (BE _ b) (AK _) q).size;refine⟨_,_,s,?_,λB H u=>?_,λn w0 u Q=>below_setRow (Q.trans (k.mono (Aw u R))) (Aw u h2) q,Aw k.size Qg⟩
     . refine Or.inr ⟨g,cap,q,by rw[Aq];rfl,h2,Qo,by rw[Aq];exact af,h5,?_,?_⟩
       . rw[<-S];simp only[Ar,Aq,AV,x,Ao,AG];have h0:d.toList.length=d.size:=Array.length_toList;omega
       . have e:q.toList.take ((L++[(p,t)]).length*2)=d.toList.take (L.length*2)++[C a l c,D .i64 (t:Int)]:=by
          rw[<-S];have K:(L++[(p,t)]).length*2=(d.toList.take (L.length*2)++[Value.slice a l c,D .i64 (t:Int)]).length:=by simp[x];omega
          rw[K];exact List.take_left
         rw[e];exact V.keep λ_ _ g=>Qd.rowK g
     . have Qn:B≠g:=λe=>u d (0,0) (by rw[e];exact N);exact(setRow_other b g B q Qn).trans (k.block B H)
   . have ah:∀j c',(d.toList.take (L.length*2))[j]?=some c'->b.cell? ((⟨g,0,none⟩:Addr).add j)=some c':=λj c' f=>by
      rw[XG,A9];rw[Fu]at f;split at f
      . rw[Cu]at f;exact cell_of A f
      . cases f
     have s:=run_append_grow (P:=Tryz.prog) b (GA r) (GA r) (Dz r) i _ U T hz ⟨g,0,none⟩ L.length cap (d.toList.take (L.length*2)) (by rw[y];exact x) ah ⟨W.heap.size,0,none⟩ 1 1 [C a l c,D .i64 (t:Int)] (by rw[y];rfl) I Y Y (by rw[ae];exact growslice_fits Y Y);rw[X]at s;exact⟨_,_,s,grown _ cap _ rfl V x,fin _⟩
namespace M3
theorem Mem.farP{w W W':G}{bs:List (Option (Nat × Dat))}{r:Bool}(M:Mem w W bs)(a:GC r W W')(e:Bl w W')(f:∀(i:Nat) B d,bs[i]?=some (some (B,d))->d.ty≠Dz r):Mem w W' bs:=by
 refine⟨λi B d h=>?_,M.2.1,e⟩;obtain⟨⟨cs,b,c⟩,j⟩:=M.1 i B d h;exact⟨⟨cs,(a.at b (f i B d h)).trans b,c.keep (λ_ _ _ g=>a.row g) (Or.inr λ_ _ g=>a.rowK g)⟩,j⟩
end M3

