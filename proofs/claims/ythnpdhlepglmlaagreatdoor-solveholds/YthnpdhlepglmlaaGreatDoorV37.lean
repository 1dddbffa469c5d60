import Derived.Test.YthnpdhlepglmlaaGreatDoorV36
set_option linter.all false
open Go.Value renaming slice->E,agg->s,int->K,pointer->L,bool->o
open Go renaming World->F,Value->I
open Go.Proofs.Tryz renaming prog->X
open Go.Obj renaming cells->C
open Go.IntKind renaming i64->Q
set_option maxRecDepth 99999
set_option maxHeartbeats 0
namespace Go.Proofs.YthnpdhlepglmlaaGreatDoor
open List renaming replicate->yA
open Proofs.Tryz
open Go.RowKit Go.Shelf
attribute [local go_sem] Oper.semAt_some
def Dv(a b:Ja):Prop:=∃c:Ja,∀x,ev b x=ev a x*ev c x
def DQ(a b:Ja):Prop:=∃u v:Ja,∀x,ev u x*ev a x+ev v x*ev b x=1
section
variable {a b c d p q:Ja}
theorem Dv.refl(a:Ja):Dv a a:=⟨[1],λx=>by simp[ev];grind⟩
theorem Dv.trans(h:Dv a b)(d:Dv b c):Dv a c:=by
 obtain⟨u,e⟩:=h;obtain⟨v,hv⟩:=d;exact⟨Ji u v,λx=>by rw[hv,e,Jd];grind⟩
theorem Dv.zero(a:Ja):Dv a []:=⟨[],λx=>by simp[ev]⟩
theorem Dv.mul(h:Dv a b)(c:Ja):Dv a (Ji b c):=by
 obtain⟨u,d⟩:=h;exact⟨Ji u c,λx=>by rw[Jd,d,Jd];grind⟩
theorem Dv.mul'(h:Dv a b)(c:Ja):Dv a (Ji c b):=by
 obtain⟨u,d⟩:=h;exact⟨Ji u c,λx=>by rw[Jd,d,Jd];grind⟩
theorem Dv.comb(h:Dv d a)(e:Dv d b)(u v:Ja)(f:∀x,ev c x=ev u x*ev a x+ev v x*ev b x):Dv d c:=by
 obtain⟨s,hs⟩:=h;obtain⟨t,g⟩:=e;exact⟨XI (Ji u s) (Ji v t),λx=>by rw[f,hs,g,Yi,Jd,Jd];grind⟩
theorem Dv.of_sc{k:Rat}(hk:k≠0)(h:Dv a b):Dv (DN k a) b:=by
 obtain⟨u,c⟩:=h;have e:(1/k)*k=1:=Ar hk;exact⟨DN (1/k) u,λx=>by rw[c,Jo,Jo];grind⟩
theorem Dv.sc(h:Dv a b)(k:Rat):Dv a (DN k b):=by
 obtain⟨u,c⟩:=h;exact⟨DN k u,λx=>by rw[Jo,c,Jo];grind⟩
theorem DQ.symm(h:DQ a b):DQ b a:=by
 obtain⟨u,v,h⟩:=h;exact⟨v,u,λx=>by rw[<-h x];grind⟩
theorem DQ.of_dv(h:DQ a b)(c:Dv d a):DQ d b:=by
 obtain⟨u,v,h⟩:=h;obtain⟨s,hs⟩:=c;exact⟨Ji u s,v,λx=>by rw[<-h x,hs x,Jd];grind⟩
theorem DQ.dv(h:DQ a b)(d:Dv a (Ji b c)):Dv a c:=by
 obtain⟨u,v,h⟩:=h;obtain⟨k,hk⟩:=d;refine⟨XI (Ji u c) (Ji v k),λx=>?_⟩;grind[Jd,Yi]
theorem DQ.mul(h:DQ a b)(d:DQ a c):DQ a (Ji b c):=by
 obtain⟨u,v,h⟩:=h;obtain⟨s,t,d⟩:=d;refine⟨XI u (Ji (Ji v b) s),Ji v t,λx=>?_⟩;grind[Yi,Jd]
theorem DQ.unit(h:DQ a b)(c:Dv a b):Dv a [1]:=by
 obtain⟨u,v,h⟩:=h;obtain⟨s,hs⟩:=c;refine⟨XI u (Ji v s),λx=>?_⟩;grind[Yi,Jd,ev]
end
theorem LW{p:Ja}(x:Rat):ev (Jr p) x=ev p x*(1/cf p (p.length-1)):=Jo _ _ _
theorem pS:∀(n:Nat) (p q:Ja),Jc p=p->Jc q=q->q.length<=n->Dv (EY n p q) p/\Dv (EY n p q) q/\∃u v:Ja,∀x,ev (EY n p q) x=ev u x*ev p x+ev v x*ev q x:=by
 intro n;induction n with
 |zero=>
  intro p q hp hq hl;have a:q=[]:=NI O;subst a;rw[EY];refine⟨?_,Dv.zero _,[1/cf p (p.length-1)],[],λx=>by rw[LW];simp[ev];grind⟩;by_cases b:p=[]
  . subst b;exact Dv.refl _
  . exact Dv.of_sc (NJ (Jp hp b)) (Dv.refl _)
 |succ n g=>
  intro p q hp hq hl;by_cases a:q=[]
  . subst a;simp only[EY,BF];refine⟨?_,Dv.zero _,[1/cf p (p.length-1)],[],λx=>by rw[LW];simp[ev];grind⟩;by_cases b:p=[]
    . subst b;exact Dv.refl _
    . exact Dv.of_sc (NJ (Jp hp b)) (Dv.refl _)
  . simp only[EY,BE a];obtain⟨d,j,k,i⟩:=Xb p q hq a;obtain⟨c,e,u,v,f⟩:=g q (J5 p q) hq i O;refine⟨c.comb e (Jm p q) [1] (λx=>by rw[d x];simp[ev];grind),c,v,JT u (Ji v (Jm p q)),λx=>?_⟩;rw[f x,d x,X1,Jd];grind
section
variable {p q d:Ja}
theorem Ye(hp:Jc p=p)(hq:Jc q=q):Dv (Ju p q) p/\Dv (Ju p q) q/\∃u v:Ja,∀x,ev (Ju p q) x=ev u x*ev p x+ev v x*ev q x:=pS _ p q hp hq (Aa _)
theorem Kt(hp:Jc p=p)(hq:Jc q=q)(a:Dv d p)(b:Dv d q):Dv d (Ju p q):=by
 obtain⟨_,_,u,v,h⟩:=Ye hp hq;exact a.comb b u v h
def pT:∀(n:Nat) (p q:Ja),Jc p=p->Jc q=q->q.length<=n->Jr (EY n p q)=EY n p q:=by
 intro n;induction n with
 |zero=>intro p q hp _ _;exact Ks hp
 |succ n b=>
  intro p q hp hq hl;rw[EY];split
  . exact Ks hp
  . rename_i a;have:=(Xb p q hq a).2.1;exact b _ _ hq (XN _ _) O
theorem YW(hp:Jc p=p)(hq:Jc q=q):Jr (Ju p q)=Ju p q:=pT _ p q hp hq (Aa _)
end
theorem XJ{p:Ja}(hp:Jc p=p)(h:∀x,ev p x=0):p=[]:=YM hp J (λx=>by rw[h x];rfl)
def Dv.some{a b:Ja}(hb:Jc b=b)(h:Dv a b):∃c,Jc c=c/\b=Ji a c:=by
 obtain⟨c,d⟩:=h;exact⟨Jc c,Yn _,YM hb (Jt _ _) λx=>by rw[Jd,II,d]⟩
theorem YK(a:Ja):Ji a []=[]:=XJ (Jt _ _) λx=>by rw[Jd];simp[ev]
theorem Dv.anti{a b:Ja}(n:Jc a=a)(hb:Jc b=b)(h:Dv a b)(r:Dv b a):∃k:Rat,k≠0/\b=DN k a:=by
 obtain⟨c,p,e⟩:=h.some hb;obtain⟨d,t,i⟩:=r.some n;by_cases g:a=[]
 . refine⟨1,DK,?_⟩;rw[e,g];rfl
 . have m:b≠[]:=λf=>g (by rw[i,f];rfl);have l:c≠[]:=λf=>m (by rw[e,f];exact YK _);have j:d≠[]:=λf=>g (by rw[i,f];exact YK _);have l1:=JD n p g l;have l2:=JD hb t m j;rw[<-e]at l1;rw[<-i]at l2;have p1:0<c.length:=Ag.2 l;have u:0<d.length:=Ag.2 j;have v:0<a.length:=Ag.2 g;have q:c.length=1:=O
   match c,q with
   |[k],_=>
    have hk:k≠0:=by
     have:=Jp p DI;simpa[Xo]using this
    refine⟨k,hk,YM hb (JH _ _) λx=>?_⟩;grind[Jd,Jo,ev]
theorem Dv.eq{a b:Ja}(c:Jc a=a)(hb:Jc b=b)(ma:Jr a=a)(mb:Jr b=b)(h:Dv a b)(d:Dv b a):a=b:=by
 obtain⟨k,hk,e⟩:=h.anti c hb d;rw[<-mb,e,NK hk c,ma]
theorem JK{p g:Ja}(hg:Jc g=g)(a:g≠[])(h:Dv g p):J5 p g=[]/\∀x,ev p x=ev g x*ev (Jm p g) x:=by
 obtain⟨c,b⟩:=h;have d:=PA (p:=p) (u:=Jc c) (v:=[]) hg a (Yn _) J (Ag.2 a) (λx=>by rw[b,II];simp[ev];grind);grind[II]
theorem Xa{g u v:Ja}(hg:Jc g=g)(c:g≠[])(h:∀x,ev g x*ev u x=ev g x*ev v x):∀x,ev u x=ev v x:=by
 have d:Ji g (JT u v)=[]:=XJ (Jt _ _) λx=>by rw[Jd,X1];have:=h x;grind
 have a:JT u v=[]:=by
  by_cases b:JT u v=[]
  . exact b
  . grind[JD,YF,Ag]
 intro x;have e:=congrArg (λr=>ev r x) a;grind[X1,ev]
theorem PG{p q:Ja}(hp:Jc p=p)(hq:Jc q=q)(a:Ju p q≠[]):DQ (Jm p (Ju p q)) (Jm q (Ju p q)):=by
 obtain⟨c,d,u,v,i⟩:=Ye hp hq;have b:=JF p q;have f:=(JK b a c).2;have g:=(JK b a d).2;refine⟨u,v,?_⟩;have e:=Xa (u:=XI (Ji u (Jm p (Ju p q))) (Ji v (Jm q (Ju p q)))) (v:=[1]) b a (λx=>by
  grind[Yi,Jd,ev])
 intro x;have j:=e x;grind[Yi,Jd,ev]
theorem Yf{p q:Ja}(hp:Jc p=p)(hq:Jc q=q)(h:p≠[]\/q≠[]):Ju p q≠[]:=λe=>by
 obtain⟨a,b,_⟩:=Ye hp hq;rw[e]at a b;obtain⟨c,f⟩:=a;obtain⟨d,g⟩:=b;grind[XJ,ev]
section
variable {a b c d e f g k p q r u w y z R:Ja}
theorem Ys(p q:Ja)(x:Rat):ev (Jb (Ji p q)) x=ev (Jb p) x*ev q x+ev p x*ev (Jb q) x:=by
 rw[Tp,Yi,Jd,Jd]
theorem XQ(p:Ja)(i:Nat):cf (Jb p) i=cf p (i+1)*(((i+1:Nat):Int):Rat):=by
 unfold Jb;rw[Yv,Lq];rfl
theorem Y8(a:p≠[]):(Jb p).length<p.length:=by
 have b:0<p.length:=Ag.2 a;have c:(Jb p).length<=p.length-1:=KI (Jv _) λi hi=>by
  rw[XQ,Yt O,Cs]
 omega
theorem NO(hp:Jc p=p)(h:Jb p=[]):p.length<=1:=by
 refine KI hp λi hi=>?_;obtain⟨j,rfl⟩:∃j,i=j+1:=⟨i-1,O⟩;have b:=XQ p j;rw[h,XH]at b;rcases CL.1 b.symm with a|a
 . exact a
 . exfalso
   have c:((j+1:Nat):Int)=0:=by exact_mod_cast a
   omega
theorem MC(hp:Jc p=p)(a:p≠[])(hl:p.length<=1):Dv p [1]:=by
 have b:0<p.length:=Ag.2 a;match p,hl,hp,a with
 |[c],_,hp,_=>
  have d:c≠0:=by
   have:=Jp hp DI;simpa[Xo]using this
  exact⟨[1/c],λx=>by simp[ev];grind⟩
theorem NP(a:Jc u=u)(b:u≠[])(h:Dv u (Jb u)):Dv u [1]:=by
 refine MC a b (NO a ?_);obtain⟨c,d,e⟩:=h.some (Jv u);grind[YK,JD,Y8,Ag]
theorem YX(c:Jc a=a)(hb:Jc b=b)(d:a≠[])(f:b≠[]):Ji a b≠[]:=λe=>by
 grind[JD,Ag]
theorem pV(A:Jc d=d)(r:d≠[])(h:Dv d (Ji (Jb d) f)):∀(n:Nat) (u:Ja),Jc u=u->d.length-u.length<=n->Dv u d->DQ u f->Dv u [1]:=by
 intro n;induction n with
 |zero=>
  intro u b hl p j;obtain⟨m,l,e⟩:=p.some A;have a:u≠[]:=λg=>r (by rw[e,g];rfl);have w:m≠[]:=λg=>r (by rw[e,g];exact YK _);have l1:=JD b l a w;rw[<-e]at l1;have p3:0<u.length:=Ag.2 a;have P:m.length<=1:=O
  have R:=MC l w P;have N:Dv d u:=by
   obtain⟨c,q⟩:=R;refine⟨c,λx=>?_⟩;have V:=q x;rw[e,Jd,Rat.mul_assoc,<-V];simp[ev];grind
  have i:Dv u (Ji f (Jb d)):=by
   obtain⟨c,q⟩:=p.trans h;exact⟨c,λx=>by rw[<-q,Jd,Jd];grind⟩
  have W:=j.dv i;refine NP b a ?_;obtain⟨k,hk,S⟩:=N.anti A b p;have y:Jb u=DN k (Jb d):=by
   refine YM (Jv _) (JH _ _) λx=>?_;rw[S,Jo];have z:DN k d=Ji d [k]:=YM (JH _ _) (Jt _ _) λx=>by rw[Jo,Jd];simp[ev];grind
   rw[z,Ys];have G:ev (Jb [k]) x=0:=by rw[I5];simp[dv,ev];grind
   rw[G];simp[ev];grind
  rw[y];exact W.sc k
 |succ n ih=>
  intro u b hl p j;obtain⟨m,l,e⟩:=p.some A;have a:u≠[]:=λg=>r (by rw[e,g];rfl);have w:m≠[]:=λg=>r (by rw[e,g];exact YK _);obtain⟨T,U,s,t,g3⟩:=Ye b l;have D:=Yf b l (An a);have B:=JF u m;by_cases hg:(Ju u m).length<=1
  . obtain⟨c,q⟩:=MC B D hg;have M:DQ u m:=⟨Ji s c,Ji t c,λx=>by
     grind[Jd,ev]⟩
    have i:Dv u (Ji f (Ji m (Jb u))):=by
     obtain⟨v,hv⟩:=h;refine⟨JT (Ji m v) (Ji f (Jb m)),λx=>?_⟩;have y:=hv x;have z:=Ys u m x;rw[<-e]at z;have G:ev d x=ev u x*ev m x:=by rw[e,Jd]
     rw[Jd]at y;rw[Jd,Jd,X1,Jd,Jd];grind
    exact NP b a (M.dv (j.dv i))
  . have H:Dv (Ji u (Ju u m)) d:=by
     obtain⟨v,hv⟩:=U;exact⟨v,λx=>by rw[e,Jd,hv,Jd];grind⟩
    have l1:=JD b B a D;have p3:0<u.length:=Ag.2 a;have i:=ih (Ji u (Ju u m)) (Jt _ _) O H (j.symm.mul (j.of_dv T).symm).symm;obtain⟨v,hv⟩:=i;exact⟨Ji (Ju u m) v,λx=>by rw[hv,Jd,Jd];grind⟩
structure Yun(R w y:Ja):Prop where
 tR:Jc R=R
 R0:R≠[]
 tw:Jc w=w
 w0:w≠[]
 mw:Jr w=w
 ty:Jc y=y
 eq:∀x,ev y x*ev R x=ev w x*ev (Jb R) x
 cop:DQ w y
theorem Yun.dv(h:Yun R w y):Dv w R:=by
 refine h.cop.dv ⟨Jb R,λx=>?_⟩;rw[Jd,h.eq]
theorem NQ(f:Jc w=w)(w0:w≠[])(mw:Jr w=w)(hg:Jc g=g)(m:Jr g=g)(h:Dv g w):Jr (Jm w g)=Jm w g/\g≠[]/\Jm w g≠[]/\w=Ji g (Jm w g):=by
 have g0:g≠[]:=λe=>w0 (by
  obtain⟨c,k⟩:=h;grind[XJ,ev])
 have e:=(JK hg g0 h).2;have a:w=Ji g (Jm w g):=YM f (Jt _ _) λx=>by rw[Jd,<-e]
 have q0:Jm w g≠[]:=λb=>w0 (by rw[a,b];exact YK _);refine⟨?_,g0,q0,a⟩;have l:=JD hg (YE w g) g0 q0;have p1:0<g.length:=Ag.2 g0;have i:0<(Jm w g).length:=Ag.2 q0;have j:cf w (w.length-1)=cf g (g.length-1)*cf (Jm w g) ((Jm w g).length-1):=by
  obtain⟨Q,d⟩:=ex (Jm w g);rw[d]at a l i ⊢;rw[a,l,show g.length+Q.length-1-1=(g.length-1)+(Q.length-1)by omega];unfold Ji;rw[Yv];exact P5 g Q (g.length-1) (Q.length-1) O O
 grind[R8,Jr,Kr,YE]
theorem Yun.step(h:Yun R w y):Ju w (Jm R w)=Jm w (Ju w (JT y (Jb w)))/\Jm w (Ju w (Jm R w))=Ju w (JT y (Jb w))/\
 Yun (Jm R w) (Jm w (Ju w (JT y (Jb w)))) (Jm (JT y (Jb w)) (Ju w (JT y (Jb w))))/\R=Ji w (Jm R w)/\
 (∀x,ev (JT y (Jb w)) x*ev (Jm R w) x=ev w x*ev (Jb (Jm R w)) x)/\w=Ji (Ju w (JT y (Jb w))) (Jm w (Ju w (JT y (Jb w)))):=by
 obtain⟨r,V⟩:=ex (Jm R w);obtain⟨z,W⟩:=ex (JT y (Jb w));have tr:Jc r=r:=by rw[<-V];exact YE _ _
 have tz:Jc z=z:=by rw[<-W];exact YF _ _
 have eR:∀x,ev R x=ev w x*ev r x:=by rw[<-V];exact(JK h.tw h.w0 h.dv).2
 have Qf:R=Ji w r:=YM h.tR (Jt _ _) λx=>by rw[Jd,eR]
 have r0:r≠[]:=λe=>h.R0 (by rw[Qf,e];exact YK _);have Qt:∀x,ev z x*ev r x=ev w x*ev (Jb r) x:=by
  have a:=Xa (g:=w) (u:=Ji z r) (v:=Ji w (Jb r)) h.tw h.w0 (λx=>by
   have b:=h.eq x;grind[Ys,Jd,X1])
  intro x;have b:=a x;rwa[Jd,Jd]at b
 have M:=Jv r;obtain⟨d,m⟩:=ex (Ju r (Jb r));have q:Jc d=d:=by rw[<-m];exact JF _ _
 have d0:d≠[]:=by rw[<-m];exact Yf tr M (An r0)
 obtain⟨g1,g2,_⟩:=Ye tr M;rw[m]at g1 g2;obtain⟨f,U⟩:=ex (Jm r d);obtain⟨e,he⟩:=ex (Jm (Jb r) d);have B:∀x,ev r x=ev d x*ev f x:=by rw[<-U];exact(JK q d0 g1).2
 have ee:∀x,ev (Jb r) x=ev d x*ev e x:=by rw[<-he];exact(JK q d0 g2).2
 have tf:Jc f=f:=by rw[<-U];exact YE _ _
 have f0:f≠[]:=λN=>r0 (XJ tr λx=>by rw[B,N];simp[ev]);have Qg:DQ f e:=by
  have:=PG tr M (by rw[m];exact d0);rwa[m,U,he]at this
 have Qo:∀x,ev z x*ev f x=ev w x*ev e x:=by
  have a:=Xa (g:=d) (u:=Ji z f) (v:=Ji w e) q d0 (λx=>by
   grind[Jd])
  intro x;have b:=a x;rwa[Jd,Jd]at b
 have Qe:Dv f w:=Qg.dv (⟨z,λx=>by rw[Jd];have:=Qo x;grind⟩);obtain⟨k,tk,S⟩:=Qe.some h.tw;have A:∀x,ev w x=ev f x*ev k x:=λx=>by rw[S,Jd]
 have H:∀x,ev z x=ev k x*ev e x:=by
  have a:=Xa (g:=f) (u:=z) (v:=Ji k e) tf f0 (λx=>by
   grind[Jd])
  intro x;have b:=a x;rwa[Jd]at b
 obtain⟨P,i⟩:=ex (Ju w z);have j:Jc P=P:=by rw[<-i];exact JF _ _
 have mP:Jr P=P:=by rw[<-i];exact YW h.tw tz
 obtain⟨p1,p2,_⟩:=Ye h.tw tz;have Qm:Dv k P:=by rw[<-i];exact Kt h.tw tz ⟨f,λx=>by rw[A];grind⟩ ⟨e,H⟩
 rw[i]at p1 p2;have Qk:Dv P k:=by
  obtain⟨u,v,p⟩:=Qg;refine p1.comb p2 u v λx=>?_;have a:=p x;rw[A,H];grind
 obtain⟨m1,l,n0,eW⟩:=NQ h.tw h.w0 h.mw j mP p1;have zP:=(JK j l p2).2;have wP:=(JK j l p1).2;have Qj:DQ k y:=h.cop.of_dv ⟨f,λx=>by rw[A];grind⟩;have Qp:DQ k f:=by
  obtain⟨u,v,p⟩:=Qj;refine⟨XI u (Ji v (XI e (Jb f))),Ji v (Jb k),λx=>?_⟩;have a:=p x;have b:ev y x=ev z x+ev (Jb w) x:=by rw[<-W,X1];grind
  have D:=Ys f k x;rw[<-S]at D;have h4:=H x;rw[Yi,Jd,Jd,Yi];grind
 have Qh:Dv d (Ji (Jb d) f):=by
  refine⟨JT e (Jb f),λx=>?_⟩;have a:r=Ji d f:=YM tr (Jt _ _) λx=>by rw[Jd,B]
  have b:=Ys d f x;rw[<-a,ee]at b;rw[Jd,X1];grind
 have Qn:DQ k d:=by
  obtain⟨q1,q2,s,t,q3⟩:=Ye tk q;obtain⟨c,T⟩:=pV q d0 Qh (d.length) (Ju k d) (JF _ _) O q2 (Qp.of_dv q1);refine⟨Ji s c,Ji t c,λx=>?_⟩;have a:=T x;have b:=q3 x;have D:ev [1] x=1:=by simp[ev];grind
  rw[D]at a;rw[Jd,Jd];grind
 obtain⟨c1,c2,s,t,c3⟩:=Ye h.tw tr;have Qi:Dv f (Ju w r):=Kt h.tw tr Qe ⟨d,λx=>by rw[B];grind⟩;have Qr:Dv (Ju w r) f:=by
  obtain⟨u,v,p⟩:=Qn;refine c1.comb c2 u v λx=>?_;have a:=p x;rw[A,B];grind
 obtain⟨n,hn⟩:=ex (Jm w P);rw[hn]at m1 n0 eW wP;have G:Jc n=n:=by rw[<-hn];exact YE _ _
 have Qs:Dv f n:=by
  obtain⟨c,T⟩:=Qk;refine⟨c,λx=>?_⟩;have a:=Xa (g:=P) (u:=n) (v:=Ji f c) j l (λx=>by
   grind[Jd])
  have b:=a x;rwa[Jd]at b
 have Ql:Dv n f:=by
  have k0:k≠[]:=λN=>h.w0 (by rw[S,N];exact YK _);obtain⟨c,T⟩:=Qm;refine⟨c,λx=>?_⟩;have a:=Xa (g:=k) (u:=f) (v:=Ji n c) tk k0 (λx=>by
   grind[Jd])
  have b:=a x;rwa[Jd]at b
 have hG:Ju w r=n:=Dv.eq (JF _ _) G (YW h.tw tr) m1 (Qr.trans Qs) (Ql.trans Qi);have Qq:Dv n w:=⟨P,λx=>by rw[wP];grind⟩;have Qa:Jm w n=P:=by
  refine YM (YE _ _) j λx=>?_;have a:=(JK G n0 Qq).2;refine Xa (g:=n) (u:=Jm w n) (v:=P) G n0 (λx=>?_) x;have b:=a x;have D:=wP x;grind
 rw[V,W,i,hn];refine⟨hG,by rw[hG];exact Qa,⟨tr,r0,G,n0,m1,YE _ _,λx=>?_,?_⟩,Qf,Qt,eW⟩
 . refine(Xa (g:=P) (u:=Ji (Jm z P) r) (v:=Ji n (Jb r)) j l (λx=>?_) x |> λa=>by rwa[Jd,Jd]at a);grind[Jd]
 . have:=PG h.tw tz (by rw[i];exact l);rwa[i,hn]at this
theorem Yun.start(tp:Jc p=p)(p0:p≠[])(d:Jr p=p):Yun p (Jm p (Ju p (Jb p))) (Jm (Jb p) (Ju p (Jb p))):=by
 have ts:=Jv p;obtain⟨a,b,_⟩:=Ye tp ts;have g0:=Yf tp ts (An p0);obtain⟨c,_,n0,e⟩:=NQ tp p0 d (JF _ _) (YW tp ts) a;have f:=(JK (JF p (Jb p)) g0 a).2;have g:=(JK (JF p (Jb p)) g0 b).2;refine⟨tp,p0,YE _ _,n0,c,YE _ _,λx=>?_,PG tp ts g0⟩;grind
end
theorem IZ{a b:Rat}(c:0<a)(hb:0<b):∃e,0<e/\e<=a/\e<=b:=by
 grind
def SM{w:Ja}(tw:Jc w=w)(w0:w≠[])(hl:w.length<=1)(x y:Rat):Stb w x y:=by
 match w,w0,hl with
 |[c],_,_=>
  have c0:c≠0:=by
   have:=Jp tw DI;simpa[cf]using this
  exact XO c0 (λx=>Jq c x) x y
theorem SN:∀(n:Nat) (R w y:Ja),R.length<=n->Yun R w y->∀ {B:Rat},0<=B->∃k,0<k/\Sh B λx z=>¬Stb w x z->k<=ev y x*ev (Jb w) x/\k<=ev y z*ev (Jb w) z:=by
 intro n;induction n with
 |zero=>intro R w y hn h;exact absurd (Aq.1 O) h.R0
 |succ n ih=>
  intro R w y hn h B f;by_cases hl:w.length<=1
  . exact⟨1,DK,Sh.all λx z _ _ _ hs=>absurd (SM h.tw h.w0 hl x z) hs⟩
  . obtain⟨_,_,c,N,_,D⟩:=h.step;have tz:=YF y (Jb w);have Qa:∀x,ev (JT y (Jb w)) x=ev y x-ev (Jb w) x:=λx=>X1 _ _ _;obtain⟨z,hz⟩:=ex (JT y (Jb w));rw[hz]at c D tz Qa;obtain⟨g1,g2,_⟩:=Ye h.tw tz;have a0:=Yf h.tw tz (An h.w0);have P:=(JK (JF w z) a0 g2).2;obtain⟨a,ha⟩:=ex (Ju w z);rw[ha]at c D P;obtain⟨w2,de⟩:=ex (Jm w a);rw[de]at c D;obtain⟨y2,df⟩:=ex (Jm z a);rw[df]at c P;obtain⟨H,cj⟩:=ex (Jm R w);rw[cj]at c N;have lR:H.length<=n:=by
     have:=JD h.tw c.tR h.w0 c.R0;rw[<-N]at this;omega
    obtain⟨G,dh,s2⟩:=ih H w2 y2 lR c f;have j:∀x,ev w x=ev a x*ev w2 x:=λx=>by
     grind[Jd]
    have fd:∀x,ev (Jb w) x=ev (Jb a) x*ev w2 x+ev a x*ev (Jb w2) x:=λx=>by
     grind[Ys]
    have fy:∀x,ev (Jb w) x=ev y x-ev a x*ev y2 x:=λx=>by
     grind
    obtain⟨u,v,ah⟩:=h.cop;obtain⟨U,pU,W⟩:=X2 u f;obtain⟨V,g,hV⟩:=X2 v f;obtain⟨dt,pY,hY⟩:=X2 y f;obtain⟨A,pA,hA⟩:=X2 a f;obtain⟨A1,ai,hA1⟩:=X2 (Jb a) f;obtain⟨W2,di,co⟩:=X2 w2 f;obtain⟨i,fi,cn⟩:=X2 (Jb w2) f;obtain⟨m,dj,ae⟩:=X2 y2 f;have nn:∀ {a b:Rat},0<a->0<b->0<a*b:=λS c=>Ac S c;obtain⟨e1,an,ap⟩:=small (Ad (nn pU di)) (show(0:Rat)<1/4 by grind);obtain⟨e2,aq,ay⟩:=small (Ad (nn (nn g g) (nn pY dj))) (show(0:Rat)<1/16 by grind);obtain⟨e,e0,bu,bz⟩:=IZ an aq;have l:0<V*(i+m):=nn g DH;obtain⟨M,hM⟩:=ex (V*(i+m));obtain⟨e3,az,bg⟩:=small (Ad (nn pU pA)) (show(0:Rat)<1/4 by grind);obtain⟨e4,bi,bj⟩:=small (Ad (nn g ai)) (show(0:Rat)<1/4 by grind);obtain⟨e5,bm,bn⟩:=small (Ad (nn (nn l l) (nn ai (nn pA (show 0<i+i+m by grind))))) (show(0:Rat)<G/8 by grind);obtain⟨d1,aj,dx,dz⟩:=IZ az bi;obtain⟨d,d0,ed,am⟩:=IZ aj bm;obtain⟨k,k0,f9,fg⟩:=IZ (Ym (show(0:Rat)<1/2 by grind) (nn g g)) (Ym (show(0:Rat)<G/8 by grind) (nn l l));refine⟨k,k0,(((Xq a f e0).and (Xq w2 f d0)).and s2).mono λx x' hx ei _ ⟨⟨ta,tw⟩,s2⟩ hs=>?_⟩;have fh:∀ {K r t:Rat},0<K->r<=K*t->k<=r/K->k<=t:=fun {K r t} hK S c=>by
     have h3:r/K*K=r:=Ar DH;rcases JU k t with T|T
     . exact T
     . have:=Ah (a:=K) (b:=k-t) DH DH;have:=Ah (a:=r/K-k) (b:=K) DH DH;grind[Aj]
    have ca:∀p,Wi B p->Wi e (ev a p)->k<=ev y p*ev (Jb w) p:=λp hp hq=>by
     have:=fC (W p hp) (hV p hp) (hY p hp) hq (co p hp) (ae p hp) (ah p) (j p) (by have:=ap e bu;grind) (by have:=ay e bz;grind);grind
    have cw:∀p,Wi B p->Wi d (ev w2 p)->G<=ev y2 p*ev (Jb w2) p->k<=ev y p*ev (Jb w) p:=λp hp hq hk=>by
     have h9:=fD (W p hp) (hV p hp) (hA p hp) (hA1 p hp) hq (cn p hp) (ae p hp) (ah p) (j p) DH dh hk (by have:=bg d DH;grind) (by have:=bj d DH;grind) (by have:=bn d am;grind);grind
    by_cases sa:Stb a x x'
    . have sw:¬Stb w2 x x':=λq=>hs (by
       unfold Stb at *;rw[j,j];grind)
      grind
    grind
namespace M3
variable{S ps qs:Ja}{n:Nat}
theorem pW(D:I)(q:Rat)(w:F)(v:Jf w D q)(B:Sq q):
 Calls X 268 #[D] w λe w'=>∃u,e=.returned u/\Jf w' u (Yu q)/\Bl w w':=by
 obtain⟨bg,S,ay,ai,bj,ae,ap,am,rfl⟩:=Jf.form v;obtain⟨W0,y,c⟩:=Lx 50 (.rat q) v 50 (.rat 0) (XF _);have z:=Z B;clear v B;go_enter func268,ntmps268
 go_upto_region 1 with fail
 rw[y.o];clear y;obtain⟨s1,P,l1,c1,t1,U,k1,d1,k,r1,M,N⟩:=c.o.rat (i:=0) J;have d:=Bx.all k;obtain⟨s2,R,l2,c2,t2,W,k2,d2,a,r2,i2,j2⟩:=c.o.rat (i:=1) J;have b:=Bx.all a;have f:=Bx.f a;obtain⟨g,l,G⟩:=DZ (Xd _ _ q 0 W0 r1 (XF _) z.o GF) (λ(V:F) (h:Bl W0 V)=>L3 _ _ 0 q V (XF _) (r1.below h) GF z.o) r1;obtain⟨n,hn⟩:=ex (Yw q 0);rw[hn]at g;have x:=Z hn;clear hn r1 M N;by_cases A:n<0
 . have m:=Z (show 0-q=Yu q by
    have t:=(PF q).1 (by rw[x.o];exact A);unfold Yu;rw[BF t];grind)
   rw[m.o]at l;go_wp2_with(first
    |(go_at_call 21;refine g.o.mono ?_;clear g;rintro e w1 ⟨rfl,hq⟩;clear d;have d:=Bx.all (k.below hq);clear b;have b:=Bx.all (a.below hq);clear f;have f:=Bx.f (a.below hq))
    |(go_at_call 42;refine(l.o _ hq).mono ?_;clear l;rintro e w2 ⟨u2,rfl,j,H⟩;obtain⟨bi,T,az,aj,bm,ah,aq,an,rfl⟩:=Jf.form j;have hq:=Bt hq H;clear d;have d:=Bx.all (k.below hq);clear b;have b:=Bx.all (a.below hq);clear f;have f:=Bx.f (a.below hq)))
   have r:=Bt c.o.2.2 hq;have p:=c.o.ge 1 J;exact BA (by simp[results,results268,go_sem,b]) J ⟨_,J,j.put4 (a.below hq) J J J J _ _ _ _,Jw r p _ _ _ _⟩
 . have m:=Z (show Yu q=q by
    have t:¬q<0:=λh=>A (by rw[<-x.o];exact(PF q).2 h);unfold Yu;rw[BE t])
   go_wp2_with(go_at_call 21;refine g.o.mono ?_;clear g;rintro e w1 ⟨rfl,hq⟩;clear d;have d:=Bx.all (k.below hq);clear b;have b:=Bx.all (a.below hq);clear f;have f:=Bx.f (a.below hq))
   have j:=G.o.below hq;rw[<-m.o]at j;have r:=Bt c.o.2.2 hq;have p:=c.o.ge 1 J;exact BA (by simp[results,results268,go_sem,b]) J ⟨_,J,j.put4 (a.below hq) J J J J _ _ _ _,Jw r p _ _ _ _⟩
def pX(N P:I)(x y:Nat)(w:F)(r:Jk w N (x:Int))(hb:Jk w P (y:Int))(M:0<x)(D:Sok (x:Int))(G:Sok (y:Int)):
 Calls X 235 #[N,P] w λe w'=>∃u,e=.returned u/\Jk w' u ((Nat.lcm x y:Nat):Int)/\Bl w w':=by
 have R:=Z (show((Int.gcd x y:Nat):Int)≠0 by have:=Nat.gcd_pos_of_pos_left y M;exact Int.natCast_ne_zero.2 (by show Nat.gcd x y≠0;omega));obtain⟨bi,ai,ay,an,rfl⟩:=Jk.form2 r;obtain⟨bj,aj,az,ap,rfl⟩:=Jk.form2 hb;obtain⟨W0,t,z⟩:=Ix 48 (.int ((x:Int))) r 48 (.int ((y:Int))) hb 48 (.int 0) (EX _);have l:=Z D;have g:=Z G;clear r hb D G;go_enter func235,ntmps235
 go_upto_region 1 with fail
 rw[t.o];clear t;clear M;refine YD Di [[],[],[],[1,2],[0,3,3],[4],[5],[5],[5],[],[],[9,6,4,0,1,2,3,4,5,6,9,10],[10,7,11,0,1,2,3,4,5,6,7,9,10,11],[8,12,0,1,2,3,4,5,6,7,8,9,10,11,12]] [.int ((y:Int)),.int ((x:Int)),.int ((y:Int)),.int (((Int.gcd x y:Nat):Int)),.tup2 (.int ((y:Int)/((Int.gcd x y:Nat):Int))) (.int ((y:Int)%((Int.gcd x y:Nat):Int))),.tup2 (.int ((y:Int)/((Int.gcd x y:Nat):Int))) (.int ((y:Int)%((Int.gcd x y:Nat):Int))),.int ((y:Int)/((Int.gcd x y:Nat):Int)),.int ((y:Int)%((Int.gcd x y:Nat):Int)),.eq (o true),.ptr,.ptr,.eq undef,.eq undef,.eq (o true)] [9,10,11,12] (λb v V=>DJ w V [some (w.heap.size,.int ((x:Int))),some (w.heap.size+1,.int ((y:Int))),some (w.heap.size+1+1,.int 0),nb b v 0 2 (.int 0) (.int ((y:Int)/((Int.gcd x y:Nat):Int))),nb b v 1 3 (.int 0) (.int ((y:Int)%((Int.gcd x y:Nat):Int)))]) ((z.o.none).none).drew (SR (.vl J λ_ j=>GD 1 j)<|SR (.vl J λ_ j=>GD 0 j)<|SR (.vl J λ_ j=>GD 1 j)<|SR (.cl λh _=>LJ _ _ (x:Int) (y:Int) _ (h.g 1) (h.g 2) (by have:=l.o.words;omega) (by have:=g.o.words;omega))<|SR (.cl λh _=>Oc (On _ _ (y:Int) ((Int.gcd x y:Nat):Int) _ (h.g 0) (h.g 3) R.o (by have:=g.o.words;omega) (by have:=(l.o.gcd g.o).words;omega)))<|SR (.vl J λh _=>mw (h.g 4))<|SR (.vl J λh _=>Oh (h.g 5))<|SR (.vl J λh _=>Oi (h.g 5))<|SR (.vl J λh _=>Oj (h.g 5))<|SR (.wr J λ_ j=>Gp 3 j)<|SR (.wr J λ_ j=>Gp 4 j)<|SR (.wr J λh j=>E0 3 j (h.g 6) (hp:=h.g 9))<|SR (.wr J λh j=>E0 4 j (h.g 7) (hp:=h.g 10))<|SR (.vl J λh _=>aw (h.g 8)) Stp.end_)
  λf T hF c=>?_
 refine DP ?_;rw[hF.e 8,hF.e 13];obtain⟨B3,n⟩:=hF.p 9;obtain⟨B4,q⟩:=hF.p 10;have c:=Dw c;simp only[n,q]at c;rw[n,q];have a:=Z c;clear c hF n q;clear z;obtain⟨s5,a5,l5,c5,n5,U⟩:=a.o.int (i:=0) J;have ae:=Bx.all n5;obtain⟨s6,a6,l6,c6,n6,W⟩:=a.o.int (i:=3) J;have ah:=Bx.all n6;obtain⟨s7,a7,l7,c7,d,i7⟩:=a.o.int (i:=2) J;have m:=Bx.all d;have B:=Bx.f d;have k:=Z (YY _ _ (x:Int) ((y:Int)/((Int.gcd x y:Nat):Int)) T U W (by have h1:=l.o.words;have h2:=(g.o.div (y:=((Int.gcd x y:Nat):Int))).words;omega));rw[pR]at k;go_wp2_with(go_at_call 48;refine k.o.mono ?_;clear k;rintro e w2 ⟨u2,rfl,H,hq⟩;obtain⟨bm,am,bg,aq,rfl⟩:=Jk.form2 H;clear m;have m:=Bx.all (d.below hq);clear B;have B:=Bx.f (d.below hq))
 have S:=Bt a.o.2.2 hq;have A:=a.o.ge 2 J;exact BA (by simp[results,results235,go_sem,m]) J ⟨_,J,H.box (d.below hq) J J,(S.setCell (p:=⟨_,0,none⟩) A _).setCell (p:=⟨_,1,none⟩) A _⟩
def KM(F:Nat->Rat)(n i:Nat)(S:Ja):Prop:=S.length=n/\∀j,cf S j=if j<i then F j else 0
theorem KM.next{F:Nat->Rat}{i:Nat}(h:KM F n i S)(hi:i<n):KM F n (i+1) (S.set i (F i)):=by
 refine⟨by rw[FO];exact h.1,λj=>?_⟩;rw[G8 _ _ _ _ (by rw[h.1];exact hi),h.2 j];grind
theorem KM.done{F:Nat->Rat}{T:Ja}(h:KM F n n S)(hT:Jc T=T)(hF:∀j,j<n->cf T j=F j)(a:∀j,n<=j->cf T j=0):Jc S=T:=by
 rw[<-hT];refine KW λj=>?_;rw[h.2 j];grind
def Zj(v vf:I)(ps:Ja)(f:Rat)(w:F)(h:Je w v ps)(R:Jf w vf f)(an:Sqs ps)(ap:Sq f)(aq:∀i,Sq (cf ps i*f)):
 Calls X 236 #[v,vf] w λe w'=>∃u,e=.returned u/\Je w' u (DN f ps)/\Bl w w':=by
 obtain⟨m,la,r,rfl⟩:=h.form;obtain⟨s,a,l,c,t,b,k,d,rfl⟩:=Jf.form R;obtain⟨bg,ay,az,bi,_⟩:=h.row.forms;obtain⟨V0,ah,y⟩:=Ix 25 (.cell 25 (E m la r)) EO 50 (.rat f) R 25 (.cell 25 (E none 0 0)) EO;have M1:=y.o;obtain⟨n,hn⟩:=ex (ps.length:Nat);obtain⟨e0,aj⟩:=ex ((n:Int)-1:Int);have G:=Z (Yo (.agg #[E m la r]) ps V0 (h.below M1.2.2));rw[hn,aj]at G;have bj:e0+1=(n:Int):=O
 have bm:Q.wrap (n:Int)=(n:Int):=by rw[BG];omega
 have Ql:∀W:F,(Instr.makeSlice 22 (K Q (n:Int)) (K Q (n:Int))).run X W=.ok (E (some ⟨W.heap.size,0,none⟩) n n) (W.alloc (C (YH n) 50)):=λW=>SL n O W;obtain⟨HP,Qg,Qk,HN⟩:=Dx (λ(V:F) (hB:Bl w V)=>h.below hB) an aq (show ps.length=n from hn);have Qc:n<=1099511627776:=O
 have Qn:=Z ap;clear h an aq bg ay az hn aj M1 bi R ap;go_enter func236,ntmps236
 go_upto_region 1 with fail
 rw[ah.o];have c0:=(y.o.cell (i:=0) J).1.cell;go_upto_region 2 with(go_at_call 75;refine G.o.mono ?_;clear G;rintro e w1 ⟨rfl,ai⟩)
 have H:DJ w (w1.alloc (C (YH n) 50)) [some (w.heap.size,.cell 25 (E m la r)),some (w.heap.size+1,.rat f),some (w.heap.size+1+1,.cell 25 (E none 0 0)),some (w1.heap.size,.rats (yA n 0))]:=(y.o.below ai).push (.rats (yA n 0)) (NG _ n);obtain⟨V1,N⟩:=ex (w1.alloc (C (YH n) 50));obtain⟨A,U⟩:=ex (w1.heap.size);rw[N,U]at H;rw[N,U];have Qf:=Z H;clear H N U ai c0 y ah Ql;go_wp2;go_loopw [13] (λiv wr=>∃(i:Nat) (S:Ja),i<=n/\iv=K Q (i:Int)/\Hid (KM (λj=>cf ps j*f) n i S)/\Hid (DJ w wr [some (w.heap.size,.cell 25 (E m la r)),some (w.heap.size+1,.rat f),some (w.heap.size+1+1,.cell 25 (E none 0 0)),some (A,.rats S)])) λiv _=>n-(intOf iv).toNat
 case atStart=>exact⟨0,_,Ay _,J,Z ⟨A2,λj=>by rw[Ya,BE O]⟩,Qf⟩
 case round=>
  obtain⟨i,S,hi,rfl,g,x⟩:=hrel;clear Qf;by_cases am:i<n
  . have bn:(i:Int)<(n:Int):=O
    have Qh:=Z (show i<S.length by rw[g.o.1];exact am);go_wp2_with fail
    have Qm:=x.o.drew;refine YD Di [[],[],[],[],[2,3],[],[4,5,4],[0,1,0,1,2,3,4,5,6],[7,6,6,0,1,2,3,4,5,6]] [.eq (E (some ⟨A,0,none⟩) n n),.eq (K Q (i:Int)),.eq (.agg #[E m la r]),.eq (K Q (i:Int)),.rat (cf ps i),.rat f,.rat (cf ps i*f),.eq (L (some ⟨A,i*4,none⟩)),.eq undef] [8] (λb _ V=>DJ w V [some (w.heap.size,.cell 25 (E m la r)),some (w.heap.size+1,.rat f),some (w.heap.size+1+1,.cell 25 (E none 0 0)),some (A,if b.getD 0 false then .rats (S.set i (cf ps i*f))else .rats S)]) Qm (SR (.vl J λ_ _=>mv)<|SR (.vl J λ_ _=>mv)<|SR (.vl J λ_ j=>GE 0 j)<|SR (.vl J λ_ _=>mv)<|SR (.cl λh j=>c2 (h.e 2) (h.e 3) (by have q:=IA _ ps (i:Int) _ (HP.o _ j.2.2);rw[Iz]at q;exact q))<|SR (.vl J λ_ j=>Ej 1 j)<|SR (.cl λh _=>LL _ _ (cf ps i) f _ (h.g 4) (h.g 5) (Qg.o.at i) Qn.o)<|SR (.vl J λh _=>⟨_,by refine DP ?_;rw[h.e 0,h.e 1];go_simp,J⟩)<|SR (.wr J λh j=>Ms 3 j Qh.o (h.g 6) (h.e 7)) Stp.end_)
     λf V hF z=>?_
    refine DP ?_;rw[hF.e 0,hF.e 1,hF.e 2,hF.e 3,hF.e 7];have z:=Dw z;have HO:=Z z;clear z hF;go_wp2_with fail
    go_roundw
    case rel=>exact⟨i+1,_,O,by go_num,Z (g.o.next am),HO⟩
    case measure=>simp[intOf];omega
  . obtain rfl:i=n:=O
    have hE:=x.o.rats (i:=3) J;have D:=hE.row (n:=i) (cap:=i) (by rw[g.o.1];exact Aa _) (Aa _) O Qc;rw[Ai (by rw[g.o.1];exact Aa _)]at D;have M:=Z (Rn _ S wr D (Sqs.of λj=>by
     rw[g.o.2 j];split
     . exact Qk.o j
     . exact GF))
    rw[g.o.done (T:=DN f ps) (JH _ _) (λj hj=>Yx _ _ _) λj hj=>by rw[Yx,Yt (by rw[HN.o];exact hj),Cs]]at M;clear hE D;go_wp2_with(go_at_call 178;refine M.o.mono ?_;clear M;rintro e w5 ⟨u5,rfl,ae,_,P⟩;obtain⟨a7,l7,c7,rfl⟩:=ae.form;have B:=boxed_below (x.o.cell (i:=2) J).1 P;have x0:=B.cell;have x1:=B.frozen;have Qi:=Z (GM B (E a7 l7 c7) ae.row);have Qj:=Z ((Bt x.o.2.2 P).setCell (p:=⟨w.heap.size+1+1,0,none⟩) (by show w.heap.size<=w.heap.size+1+1;omega) (E a7 l7 c7));clear ae P B)
    exact BA (by simp[results,results236,go_sem,x0]) J ⟨_,J,⟨_,J,Qi.o⟩,Qj.o⟩
def pZ(p:Ja)(n:Nat):((Int.gcd ((XG p n:Nat):Int) (cf p n).num:Nat):Int)=((XG p (n+1):Nat):Int):=rfl
def pd(p:Ja)(n:Nat):((Nat.lcm (XV p n) (cf p n).den:Nat):Int)=((XV p (n+1):Nat):Int):=rfl
theorem SO(D:Int)(M:Nat)(v:I)(ps:Ja)(w:F)(h:Je w v ps)(ah:Jc ps=ps)(hD:D≠0)(ae:Sm M D)(R:EQ D M ps)(hM:M<=1000000000):
 Calls X 184 #[v] w λe w'=>∃u,e=.returned u/\Je w' u (Jn ps)/\Bl w w':=by
 obtain⟨c,la,d,rfl⟩:=h.form;obtain⟨bm,bi,bj,bn,_⟩:=h.row.forms;have Qa:∀i,DS M (cf ps i):=λi=>(R i).smq hD ae;obtain⟨HG,HL,Qb⟩:=DZ (λi=>Sok.of (Ze (λj=>(Qa j).1) i) O:∀i,Sok ((XG ps i:Nat):Int)) (λi=>Sok.of (Zd hD ae R i) O:∀i,Sok ((XV ps i:Nat):Int)) (show Sqs ps from Sqs.of λi=>Sq.of (Qa i) hM);have HF:=Z (show ps≠[]->Sq ((XV ps ps.length:Rat)/(XG ps ps.length:Rat))/\∀i,Sq (cf ps i*((XV ps ps.length:Rat)/(XG ps ps.length:Rat)))from λg=>by
  have h1:=SF ah g (R.ln hD);refine⟨?_,λi=>?_⟩
  . have h2:((XV ps ps.length:Rat)/(XG ps ps.length:Rat))=Rat.divInt ((XV ps ps.length:Nat):Int) ((XG ps ps.length:Nat):Int):=by grind[AC,AV]
    rw[h2];exact Sq.of (DS.divInt (Int.natCast_ne_zero.2 (NL ah g)) (Zd hD ae R _) (Ze (λj=>(Qa j).1) _)) hM
  . obtain⟨z,h3,h4⟩:=h1 i;have h5:cf ps i*((XV ps ps.length:Rat)/(XG ps ps.length:Rat))=(z:Rat):=by rw[<-h4];unfold Jn;rw[Yx]
    rw[h5];have h6:1<=M:=by
     by_cases h7:1<=M
     . exact h7
     . exfalso
       obtain rfl:M=0:=O
       grind[Sm]
    exact Sq.of ((PD (D:=1) DK h3 DH).smq DK (Sm.one M h6)) hM)
 have Qj:=Z (λg=>NL ah g:ps≠[]->XG ps ps.length≠0);obtain⟨W0,aq,M1⟩:=Ix 25 (.cell 25 (E c la d)) EO 25 (.cell 25 (E none 0 0)) EO 48 (.int (((XG ps 0:Nat):Int))) (EX _) (w:=w);obtain⟨n,hn⟩:=ex (ps.length:Nat);obtain⟨e0,bg⟩:=ex ((n:Int)-1:Int);have Qc:=Z λ(V:F) (N:Bl w V)=>Yo (s #[E c la d]) ps V (h.below N);rw[hn,bg]at Qc;have co:e0+1=(n:Int):=O
 have de:Q.wrap (n:Int)=(n:Int):=by rw[BG];omega
 have HP:=Z λ(V:F) (N:Bl w V)=>h.below N;have HN:=Z (show ps.length=n from hn);have di:n<=1099511627776:=O
 have Qd:=Z λ(V:F)=>GW 1 O O V;clear h bm bi bj hn bg bn ah hD ae R hM Qa;go_enter func184,ntmps184
 go_upto_region 2 with fail
 rw[aq.o];clear aq;go_upto_region 3 with(go_at_call 107;refine(Qd.o _).mono ?_;clear Qd;rintro e w1 ⟨u1,rfl,an,ay⟩;obtain⟨s1,a1,l1,c1,rfl⟩:=Jk.form2 an)
 obtain⟨V1,r⟩:=ex (w1.alloc (C #[o s1,E a1 l1 c1] 48));obtain⟨B1,m⟩:=ex (w1.heap.size);have a:DJ w (w1.alloc (C #[o s1,E a1 l1 c1] 48)) [some (w.heap.size,.cell 25 (E c la d)),some (w.heap.size+1,.cell 25 (E none 0 0)),some (w.heap.size+1+1,.int (((XG ps 0:Nat):Int))),some (w1.heap.size,.int (((XV ps 0:Nat):Int)))]:=DJ.push (M1.o.below ay) (.int (((XV ps 0:Nat):Int))) an;rw[r,m]at a;rw[r];rw[m];have M2:Hid (DJ w V1 [some (w.heap.size,.cell 25 (E c la d)),some (w.heap.size+1,.cell 25 (E none 0 0)),some (w.heap.size+1+1,.int (((XG ps 0:Nat):Int))),some (B1,.int (((XV ps 0:Nat):Int)))]):=Z (a);clear M1;clear a r m;clear an ay;have c0:=(M2.o.cell (i:=0) J).1.cell;go_upto_region 4 with(go_at_call 75;refine(Qc.o _ M2.o.2.2).mono ?_;clear Qc;rintro e w2 ⟨rfl,az⟩)
 have ML:Hid (DJ w w2 [some (w.heap.size,.cell 25 (E c la d)),some (w.heap.size+1,.cell 25 (E none 0 0)),some (w.heap.size+1+1,.int (((XG ps 0:Nat):Int))),some (B1,.int (((XV ps 0:Nat):Int)))]):=Z (M2.o.below az);clear c0 az M2;go_loopw [12] (λiv wr=>∃i:Nat,i<=n/\iv=K Q (i:Int)/\Hid (DJ w wr [some (w.heap.size,.cell 25 (E c la d)),some (w.heap.size+1,.cell 25 (E none 0 0)),some (w.heap.size+1+1,.int (((XG ps i:Nat):Int))),some (B1,.int (((XV ps i:Nat):Int)))])) λiv _=>n-(intOf iv).toNat
 case atStart=>exact⟨0,Ay _,J,ML⟩
 case round=>
  obtain⟨i,hi,rfl,M3⟩:=hrel;clear ML;by_cases df:i<n
  . have dh:(i:Int)<(n:Int):=O
    go_upto_region 6 with fail
    refine YD Di [[],[],[],[1,2],[3,3],[0,4,4],[5,5,0,1,2,3,4,5]] [.int (((XG ps i:Nat):Int)),.eq (s #[E c la d]),.eq (Value.int IntKind.i64 ↑i),.rat (cf ps i),.int ((cf ps i).num),.int (((XG ps (i+1):Nat):Int)),.eq undef] [6] (λb _ V=>DJ w V [some (w.heap.size,.cell 25 (E c la d)),some (w.heap.size+1,.cell 25 (E none 0 0)),some (w.heap.size+1+1,if b.getD 0 false then .int (((XG ps (i+1):Nat):Int))else .int (((XG ps i:Nat):Int))),some (B1,.int (((XV ps i:Nat):Int)))]) M3.o.drew (SR (.vl J λ_ j=>GD 2 j)<|SR (.vl J λ_ j=>GE 0 j)<|SR (.vl J λ_ _=>mv)<|SR (.cl λh j=>c2 (h.e 1) (h.e 2) (by have q:=IA _ ps (i:Int) _ (HP.o _ j.2.2);rw[Iz]at q;exact q))<|SR (.cl λh _=>NF _ (cf ps i) _ (h.g 3))<|SR (.cl λh _=>by have q:=LJ _ _ ((XG ps i:Nat):Int) (cf ps i).num _ (h.g 0) (h.g 4) (by have:=(HG.o i).words;omega) (by have:=(Qb.o.at i).num.words;omega);rw[pZ]at q;exact q)<|SR (.wr J λh j=>E0 2 j (h.g 5)) Stp.end_)
     λf V3 hF a=>?_
    refine DP ?_;rw[hF.e 1,hF.e 2];have a:=Dw a;have l:=Z a;clear a hF;clear M3;go_upto_region 7 with fail
    refine YD Di [[],[],[],[1,2],[3,3],[0,4,4],[5,5,0,1,2,3,4,5]] [.int (((XV ps i:Nat):Int)),.eq (s #[E c la d]),.eq (Value.int IntKind.i64 ↑i),.rat (cf ps i),.int (((cf ps i).den:Int)),.int (((XV ps (i+1):Nat):Int)),.eq undef] [6] (λb _ V=>DJ w V [some (w.heap.size,.cell 25 (E c la d)),some (w.heap.size+1,.cell 25 (E none 0 0)),some (w.heap.size+1+1,.int (((XG ps (i+1):Nat):Int))),some (B1,if b.getD 0 false then .int (((XV ps (i+1):Nat):Int))else .int (((XV ps i:Nat):Int)))]) l.o.drew (SR (.vl J λ_ j=>GD 3 j)<|SR (.vl J λ_ j=>GE 0 j)<|SR (.vl J λ_ _=>mv)<|SR (.cl λh j=>c2 (h.e 1) (h.e 2) (by have q:=IA _ ps (i:Int) _ (HP.o _ j.2.2);rw[Iz]at q;exact q))<|SR (.cl λh _=>GL _ (cf ps i) _ (h.g 3))<|SR (.cl λh _=>by have q:=pX _ _ (XV ps i) (cf ps i).den _ (h.g 0) (h.g 4) (ZY ps i) (HL.o i) (Qb.o.at i).den;rw[pd]at q;exact q)<|SR (.wr J λh j=>E0 3 j (h.g 5)) Stp.end_)
     λf V5 hF a=>?_
    refine DP ?_;rw[hF.e 1,hF.e 2];have a:=Dw a;have M5:=Z a;clear a hF;clear l;go_wp2_with fail
    go_roundw
    case rel=>exact⟨i+1,O,by go_num,M5⟩
    case measure=>simp[intOf];omega
  . obtain rfl:i=n:=O
    obtain⟨s6,a6,l6,c6,n6,i6⟩:=M3.o.int (i:=2) J;obtain⟨Qi,Ql⟩:=n6.cp;obtain⟨s7,a7,l7,c7,n7,i7⟩:=M3.o.int (i:=3) J;obtain⟨Qf,Qm⟩:=n7.cp;have k:=Z (Kk _ _ ((XV ps i:Nat):Int) ((XG ps i:Nat):Int) wr i7 i6 (HL.o i) (HG.o i));have Qe:=(M3.o.cell (i:=1) J).1;obtain⟨r9,am⟩:=ex (Rat.divInt ((XV ps i:Nat):Int) ((XG ps i:Nat):Int));rw[am]at k;have Qg:=Z am;clear am;by_cases g:ps=[]
    . have A:=Z (show decide (((XG ps i:Nat):Int)≠0)=false by rw[<-HN.o,g];decide);rw[A.o]at k;have HE:=Z (show Jn ps=[]by rw[g];rfl);clear g A;go_wp2_with(go_at_call 193;refine k.o.mono ?_;clear k;rintro e y ⟨u4,rfl,ai,P⟩;obtain⟨U,B,T,G,W,b9,S,H,rfl⟩:=Jf.form ai;have t:=boxed_below (boxed_below Qe P) (Ba y (C #[o U,E B T G,o W,E b9 S H] 50));have x0:=t.cell;have x1:=t.frozen)
      rw[HE.o];exact BA (by simp[results,results184,go_sem,x0]) J ⟨_,J,WM _,((Bt M3.o.2.2 P).alloc (by have:=M3.o.2.2.size;have:=P.size;omega) _).setCell (p:=⟨w.heap.size+1,0,none⟩) (by show w.heap.size<=w.heap.size+1;omega) _⟩
    . have A:=Z (show decide (((XG ps i:Nat):Int)≠0)=true by
       refine BI ?_;rw[<-HN.o];exact Int.natCast_ne_zero.2 (Qj.o g))
      rw[A.o]at k;have HE:=Z (show r9=(XV ps ps.length:Rat)/(XG ps ps.length:Rat)by rw[<-Qg.o,AC,AV,AV,HN.o]);have HT:=Z (show DN r9 ps=Jn ps by rw[HE.o];rfl);have HS:=Z (show Sq r9/\∀j,Sq (cf ps j*r9)by rw[HE.o];exact HF.o g);clear g A;have H2:=Z λ(V:F) (N:Bl w V) (x:I) (hx:Jf V x r9)=>Zj (s #[E c la d]) x ps r9 V (HP.o V N) hx Qb.o HS.o.1 HS.o.2;rw[HT.o]at H2;go_upto_region 12 with(go_at_call 193;refine k.o.mono ?_;clear k;rintro e y ⟨u4,rfl,ai,P⟩;obtain⟨U,B,T,G,W,b9,S,H,rfl⟩:=Jf.form ai)
      clear Qi Ql Qf Qm;obtain⟨V8,r⟩:=ex (y.alloc (C #[o U,E B T G,o W,E b9 S H] 50));obtain⟨B8,m⟩:=ex (y.heap.size);have a:DJ w (y.alloc (C #[o U,E B T G,o W,E b9 S H] 50)) [some (w.heap.size,.cell 25 (E c la d)),some (w.heap.size+1,.cell 25 (E none 0 0)),some (w.heap.size+1+1,.int (((XG ps i:Nat):Int))),some (B1,.int (((XV ps i:Nat):Int))),some (y.heap.size,.rat r9)]:=DJ.push (M3.o.below P) (.rat r9) ai;rw[r,m]at a;rw[r];rw[m];have l:Hid (DJ w V8 [some (w.heap.size,.cell 25 (E c la d)),some (w.heap.size+1,.cell 25 (E none 0 0)),some (w.heap.size+1+1,.int (((XG ps i:Nat):Int))),some (B1,.int (((XV ps i:Nat):Int))),some (B8,.rat r9)]):=Z (a);clear M3;clear a r m;obtain⟨U,B,T,G,W,b9,S,H,n9,r9,i9,j9⟩:=l.o.rat (i:=4) J;obtain⟨bu,bz,cj,cn⟩:=n9.cq;have c0:=(l.o.cell (i:=0) J).1.cell;have n1:=(l.o.cell (i:=1) J).1;have HQ:=Z l.o.2.2;go_wp2_with(go_at_call 236;refine(H2.o _ HQ.o _ r9).mono ?_;clear H2;rintro e w5 ⟨u5,rfl,ap,aj⟩;obtain⟨a7,l7,c7,rfl⟩:=ap.form;have t:=boxed_below n1 aj;have x0:=t.cell;have x1:=t.frozen;have Qk:=Z (Mv t (x:=E a7 l7 c7) ap);have Qh:=Z ((Bt HQ.o aj).setCell (p:=⟨w.heap.size+1,0,none⟩) (by show w.heap.size<=w.heap.size+1;omega) (E a7 l7 c7));clear ap aj t)
      exact BA (by simp[results,results184,go_sem,x0]) J ⟨_,J,Qk.o,Qh.o⟩
theorem pg(va vb:I)(ps qs:Ja)(w:F)(D:Je w va ps)(hb:Je w vb qs)(aq:Sqs ps)(bg:Sqs qs)(az:qs≠[])(ay:∀i,i<=ps.length+1-qs.length->Sq (Yu (cf qs (qs.length-1))^i))(bi:∀i,Sq (cf ps i*Ek ps qs)):
 Calls X 237 #[va,vb] w λe w'=>∃u,e=.returned u/\Je w' u (XW ps qs)/\Bl w w':=by
 obtain⟨m,M⟩:=ex (qs.length-1:Nat);have Qs:=Ag.2 az;have Qo:ps.length<=1099511627776:=by
  obtain⟨g,la,k,rfl⟩:=D.form;have:=D.row.forms;omega
 have Qk:qs.length<=1099511627776:=by
  obtain⟨c,lb,d,rfl⟩:=hb.form;have:=hb.row.forms;omega
 obtain⟨L,B⟩:=ex (Yu (cf qs m):Rat);obtain⟨N,hN⟩:=ex (ps.length+1-qs.length:Nat);obtain⟨e1,an⟩:=ex ((ps.length:Int)-1:Int);have Qh:(qs.length:Int)-1=(m:Int):=O
 obtain⟨A,df⟩:=ex (e1-(m:Int):Int);obtain⟨t,dh⟩:=ex (A+1:Int);have di:Q.wrap A=A:=by rw[BG];omega
 have dj:Q.wrap t=t:=by rw[BG];omega
 obtain⟨Qb,Qg,Qr,Qm,Qc,HT,Ql,Qj⟩:=Iv (show(∀i:Nat,(i:Int)<t↔i<N)/\N<=1099511627777 from⟨λi=>by omega,O⟩) Qh an B (show ∀i,i<=N->Sq (L^i)from λi hi=>by rw[<-B,<-M];exact ay i O) (show DN (L^N) ps=XW ps qs by unfold XW Ek;rw[M,B,hN]) (show ∀i,Sq (cf ps i*L^N)from λi=>by have:=bi i;unfold Ek at this;rwa[M,B,hN]at this) aq;have Qp:=Z bg;clear ay bi aq bg az hN B M Qs Qo Qk an Qh;obtain⟨g,la,k,rfl⟩:=D.form;obtain⟨c,lb,d,rfl⟩:=hb.form;obtain⟨W0,aj,M1⟩:=Ix 25 (.cell 25 (E g la k)) EO 25 (.cell 25 (E c lb d)) EO 25 (.cell 25 (E none 0 0)) EO (w:=w);have HP:=Z λ(V:F) (hB:Bl w V)=>D.below hB;have HQ:=Z λ(V:F) (hB:Bl w V)=>hb.below hB;clear D hb;go_enter func237,ntmps237
 go_upto_region 1 with fail
 rw[aj.o];clear aj;refine YD Di [[],[],[1],[0,2,2],[3,3],[],[5,4,4,0,1,2,3,4,5]] [.eq (s #[E c lb d]),.eq (s #[E c lb d]),.eq (K Q (m:Int)),.rat (cf qs m),.rat L,.ptr,.eq undef] [5,6] (λb v V=>DJ w V [some (w.heap.size,.cell 25 (E g la k)),some (w.heap.size+1,.cell 25 (E c lb d)),some (w.heap.size+1+1,.cell 25 (E none 0 0)),nb b v 0 1 (.rat 0) (.rat L)]) (M1.o.none).drew (SR (.vl J λ_ j=>GE 1 j)<|SR (.vl J λ_ j=>GE 1 j)<|SR (.cl λh j=>c1 (h.e 1) (rv (Qg.o ▸ Yo _ qs _ (HQ.o _ j.2.2))))<|SR (.cl λh j=>c2 (h.e 0) (h.e 2) (by have q:=IA _ qs (m:Int) _ (HQ.o _ j.2.2);rw[Iz]at q;exact q))<|SR (.cl λh _=>Qm.o ▸ pW _ (cf qs m) _ (h.g 3) (Qp.o.at m))<|SR (.wr J λ_ j=>Og 3 j)<|SR (.wr J λh j=>L1 3 j (h.g 4) (hp:=h.g 5)) Stp.end_)
  λf V2 hF a=>?_
 refine DP ?_;rw[hF.e 0,hF.e 1,hF.e 2];obtain⟨B3,ae⟩:=hF.p 5;have a:=Dw a;simp only[ae]at a;rw[ae];have M2:=Z a;clear a hF ae;clear M1;have U:=Z λ(V:F)=>GW 1 O O V;have HB:=U;have W:=Z λ(V:F) (x y:I) (hx:Jk V x 1) (hy:Jk V y 1)=>Kk x y 1 1 V hx hy Sok.one Sok.one;rw[show decide ((1:Int)≠0)=true from J,show Rat.divInt 1 1=L^0 by rw[CQ];rfl]at W;go_upto_region 3 with(first
  |(go_at_call 107;refine(U.o _).mono ?_;clear U;rintro e w3 ⟨u3,rfl,H,am⟩)
  |(go_at_call 107;refine(HB.o _).mono ?_;clear HB;rintro e w4 ⟨u4,rfl,bj,ai⟩;have H:=H.below ai)
  |(go_at_call 193;refine(W.o _ _ _ H bj).mono ?_;clear W;rintro e G ⟨u5,rfl,r,z⟩;obtain⟨s9,a9,l9,c9,t9,b9,k9,d9,rfl⟩:=Jf.form r))
 obtain⟨V4,n⟩:=ex (G.alloc (C #[o s9,E a9 l9 c9,o t9,E b9 k9 d9] 50));obtain⟨B4,ah⟩:=ex (G.heap.size);have a:DJ w (G.alloc (C #[o s9,E a9 l9 c9,o t9,E b9 k9 d9] 50)) [some (w.heap.size,.cell 25 (E g la k)),some (w.heap.size+1,.cell 25 (E c lb d)),some (w.heap.size+1+1,.cell 25 (E none 0 0)),some (B3,.rat L),some (G.heap.size,.rat (L^0))]:=DJ.push (((M2.o.below am).below ai).below z) (.rat (L^0)) r;rw[n,ah]at a;rw[n];rw[ah];have M3:Hid (DJ w V4 [some (w.heap.size,.cell 25 (E g la k)),some (w.heap.size+1,.cell 25 (E c lb d)),some (w.heap.size+1+1,.cell 25 (E none 0 0)),some (B3,.rat L),some (B4,.rat (L^0))]):=Z (a);clear M2;clear a n ah;clear H bj r am ai z;refine YD Di [[],[0],[],[2,1],[1,3],[4],[]] [.eq (s #[E g la k]),.eq (K Q e1),.eq (s #[E c lb d]),.eq (K Q (m:Int)),.eq (K Q A),.eq (K Q t),.eq (K Q 0)] [] (λ_ _ V=>DJ w V [some (w.heap.size,.cell 25 (E g la k)),some (w.heap.size+1,.cell 25 (E c lb d)),some (w.heap.size+1+1,.cell 25 (E none 0 0)),some (B3,.rat L),some (B4,.rat (L^0))]) M3.o.drew (SR (.vl J λ_ j=>GE 0 j)<|SR (.cl λh j=>c1 (h.e 0) (rv (Qr.o ▸ Yo _ ps _ (HP.o _ j.2.2))))<|SR (.vl J λ_ j=>GE 1 j)<|SR (.cl λh j=>c1 (h.e 2) (rv (Qg.o ▸ Yo _ qs _ (HQ.o _ j.2.2))))<|SR (.vl J λh _=>⟨(K Q A),by refine DP ?_;rw[h.e 1,h.e 3];go_simp,J⟩)<|SR (.vl J λh _=>⟨(K Q t),by refine DP ?_;rw[h.e 4];go_simp,J⟩)<|SR (.vl J λ_ _=>mv) Stp.end_)
  λf V6 hF a=>?_
 refine DP ?_;rw[hF.e 0,hF.e 1,hF.e 2,hF.e 3,hF.e 4,hF.e 5,hF.e 6];have M4:=Z a;clear a hF;clear M3;go_wp2;go_loopw [25] (λiv wr=>∃i:Nat,i<=N/\iv=K Q (i:Int)/\Hid (DJ w wr [some (w.heap.size,.cell 25 (E g la k)),some (w.heap.size+1,.cell 25 (E c lb d)),some (w.heap.size+1+1,.cell 25 (E none 0 0)),some (B3,.rat L),some (B4,.rat (L^i))])) λiv _=>N-(intOf iv).toNat
 case atStart=>exact⟨0,Ay _,J,M4⟩
 case round=>
  clear M4;obtain⟨i,hi,rfl,l⟩:=hrel;by_cases ap:i<N
  . have Qe:=(Qb.o.1 i).2 ap;have de:=Qb.o.2;obtain⟨s7,a7,l7,c7,t7,b7,k7,d7,n7,r7,i7,j7⟩:=l.o.rat (i:=3) J;have bz:=n7.kb;obtain⟨s8,a8,l8,c8,t8,b8,k8,d8,R,r8,i8,j8⟩:=l.o.rat (i:=4) J;have Qi:=R.kb;have Qf:=R.fb;have S:=Z (LL _ _ (L^i) L wr r8 r7 (Qc.o i O) (by have:=Qc.o 1 O;rwa[Rat.pow_one]at this));rw[<-AO]at S;go_upto_region 6 with(go_at_call 179;refine S.o.mono ?_;clear S;rintro e w6 ⟨u6,rfl,bm,hq⟩;obtain⟨s8,a8,l8,c8,t8,b8,k8,d8,rfl⟩:=Jf.form bm;clear Qi;have Qi:=(R.below hq).kb;clear Qf;have Qf:=(R.below hq).fb)
    obtain⟨V9,n⟩:=ex ((((w6.setCell ⟨B4,0,none⟩ (o s8)).setCell ⟨B4,1,none⟩ (E a8 l8 c8)).setCell ⟨B4,2,none⟩ (o t8)).setCell ⟨B4,3,none⟩ (E b8 k8 d8));have a:DJ w ((((w6.setCell ⟨B4,0,none⟩ (o s8)).setCell ⟨B4,1,none⟩ (E a8 l8 c8)).setCell ⟨B4,2,none⟩ (o t8)).setCell ⟨B4,3,none⟩ (E b8 k8 d8)) [some (w.heap.size,.cell 25 (E g la k)),some (w.heap.size+1,.cell 25 (E c lb d)),some (w.heap.size+1+1,.cell 25 (E none 0 0)),some (B3,.rat L),some (B4,.rat (L^(i+1)))]:=DJ.putRat (l.o.below hq) (i:=4) J bm;rw[n]at a;rw[n];have M6:Hid (DJ w V9 [some (w.heap.size,.cell 25 (E g la k)),some (w.heap.size+1,.cell 25 (E c lb d)),some (w.heap.size+1+1,.cell 25 (E none 0 0)),some (B3,.rat L),some (B4,.rat (L^(i+1)))]):=Z (a);clear l;clear a n;go_wp2_with fail
    grind[intOf]
  . have Qe:¬(i:Int)<t:=λh=>ap ((Qb.o.1 i).1 h);obtain rfl:i=N:=O
    obtain⟨ei,cj,ed,cn,f9,b10,dz,co,bn,r10,dt,dx⟩:=l.o.rat (i:=4) J;have bu:=bn.kb;have c0:=(l.o.cell (i:=0) J).1.cell;have n1:=(l.o.cell (i:=2) J).1;have Qd:=Z l.o.2.2;have T:=Z (Zj (s #[E g la k]) _ ps (L^i) wr (HP.o wr Qd.o) r10 Qj.o (Qc.o i (Aa _)) Ql.o);rw[HT.o]at T;go_wp2_with(go_at_call 236;refine T.o.mono ?_;clear T;rintro e G ⟨u5,rfl,r,z⟩;obtain⟨a7,l7,c7,rfl⟩:=r.form;have P:=boxed_below n1 z;have x0:=P.cell;have x1:=P.frozen;have Qq:=Z (Mv P (x:=E a7 l7 c7) r);have Qn:=Z ((Bt Qd.o z).setCell (p:=⟨w.heap.size+1+1,0,none⟩) (by show w.heap.size<=w.heap.size+1+1;omega) (E a7 l7 c7));clear r z P)
    exact BA (by simp[results,results237,go_sem,x0]) J ⟨_,J,Qq.o,Qn.o⟩
theorem ph{A:Nat}(p:Ef A ps)(c:Ef A qs)(tq:Jc qs=qs)(q0:qs≠[])(hA:1<=A)(hb:4*((ps.length+2)*(A+1))<=1000000000):
 Sqs ps/\Sqs qs/\(∀i,i<=ps.length+1-qs.length->Sq (Yu (cf qs (qs.length-1))^i))/\(∀i,Sq (cf ps i*Ek ps qs))/\Sqs (XW ps qs)/\(∀i,DS A (cf qs i))/\
 ∃l:Int,Dvn 1 1 l ((ps.length+2)*A+1) A (XW ps qs) qs:=by
 have v:(ps.length+2)*(A+1)=(ps.length+2)*A+(ps.length+2):=DH
 have G:=Ag.2 q0;obtain⟨l,m,n⟩:=c (qs.length-1);have r:l≠0:=λe=>by
  have:=Jp tq q0;rw[n,e]at this;exact this J
 have B:Yu (cf qs (qs.length-1))=((l.natAbs:Int):Rat):=by
  rw[n];unfold Yu;have a:((l:Rat)<0)↔l<0:=by
   rw[show(0:Rat)=((0:Int):Rat)from J];exact Fd
  split
  . rename_i h;rw[a]at h;rw[<-Rat.intCast_neg];congr 1;omega
  grind
 have g:∀i:Nat,∃z:Int,Sm (i*A+1) z/\Yu (cf qs (qs.length-1))^i=(z:Rat):=λi=>by
  refine⟨(l.natAbs:Int)^i,?_,?_⟩
  . refine Sm.powZ ?_ i;unfold Sm at m ⊢;rwa[AR]
  grind
 have j:∀(k:Nat) (z:Int),Sm k z->k<=1000000000->1<=k->Sq (z:Rat):=λk z u hk a=>Sq.of ((PD (D:=1) DK u DH).smq DK (Sm.one k a)) hk;have x:ps.length+1-qs.length<=ps.length:=O
 have q:∀i:Nat,i<=ps.length->i*A<=(ps.length+2)*A:=λi hi=>Af _ O;have d:Ef ((ps.length+2)*A+1) (XW ps qs):=λi=>by
  obtain⟨z,a,b⟩:=p i;obtain⟨y,f,t⟩:=g (ps.length+1-qs.length);refine⟨z*y,(a.mul f).mono ?_,?_⟩
  . have w:(ps.length+1-qs.length+1)*A<=(ps.length+2)*A:=Af _ O;grind
  . unfold XW Ek;rw[Yx,b,t,AD]
 have hA9:A<=(ps.length+2)*A:=by
  grind
 refine⟨Sqs.of λi=>Sq.of (p.smq hA i) O,Sqs.of λi=>Sq.of (c.smq hA i) O,λi hi=>?_,λi=>?_,Sqs.of λi=>Sq.of (d.smq O i) O,c.smq hA,l,?_⟩
 . obtain⟨z,a,b⟩:=g i;rw[b];exact j _ z a (by have:=q i O;omega) O
 . obtain⟨z,a,b⟩:=d i;have f:cf ps i*Ek ps qs=(z:Rat):=by rw[<-b];unfold XW;rw[Yx]
   rw[f];exact j _ z a O O
 . refine⟨DK,Sm.one _ O,d.cdl,DK,Sm.one _ hA,c.cdl,r,m,?_⟩;grind[AC]
def pi(tp:Jc ps=ps)(tq:Jc qs=qs)(q0:qs≠[]):(XW ps qs).length=ps.length:=YV (SH tq q0) tp
def pj(A:Nat)(va vb:I)(ps qs:Ja)(w:F)(N:Je w va ps)(hb:Je w vb qs)(wp:Ef A ps)(wq:Ef A qs)(tp:Jc ps=ps)(tq:Jc qs=qs)(q0:qs≠[])(hA:1<=A)(ae:4*((ps.length+2)*(A+1))<=1000000000)(hr:Ln A (J5 ps qs)):
 Calls X 185 #[va,vb] w λe w'=>∃u,e=.returned u/\Je w' u (X6 ps qs)/\Bl w w':=by
 obtain⟨s1,s2,s3,s4,s5,s6,l,k⟩:=ph wp wq tq q0 hA ae;have b1:(ps.length+2)*(A+1)=(ps.length+2)*A+(ps.length+2):=DH
 obtain⟨m,n⟩:=ex ((XW ps qs).length-(qs.length-1));have Qg:m<=ps.length:=by rw[pi tp tq q0]at n;omega
 have b2:m*(A+1)<=ps.length*(A+1):=Af _ Qg;have b3:(ps.length+2)*(A+1)=ps.length*(A+1)+2*(A+1):=Ck _ _ _;have Qj:=Z (λ(V:F) (x y:I) (d:Je V x (XW ps qs)) (g:Je V y qs)=>ySplit_n A x y (XW ps qs) qs V d g s5 s6 (JH _ _) tq q0 (by
  rw[n];exact k.sizes O))
 have Qf:=(k.rem n).1;have z:=k.den m;have Qm:=Z λ(V:F) (x:I) (d:Je V x (J5 (XW ps qs) qs))=>SO (1*l^m) ((ps.length+2)*A+1+m*(A+1)+1) x (J5 (XW ps qs) qs) V d (XN _ _) z.1 z.2 (λi=>(Qf i).mono O) O;have D:=Zg tq q0 hr;have W:=Sqs.of λi=>Sq.of (D.1.smq hA i) O;have Qh:Sqs (JT [] (Jn (J5 (XW ps qs) qs))):=Sqs.of λi=>Sq.of (D.2.smq hA i) O;have Qn:=Z λ(V:F) (y:I) (g:Je V y (Jn (J5 (XW ps qs) qs)))=>WN _ y [] (Jn (J5 (XW ps qs) qs)) V (WM V) g (Sqs.of λi=>by rw[XH];exact GF) W Qh;have Qi:=Z λ(V:F) (x y:I) (d:Je V x ps) (g:Je V y qs)=>pg x y ps qs V d g s1 s2 q0 s3 s4;clear s1 s2 s3 s4 s5 s6 k b1 n Qg b2 b3 Qf z D W Qh wp wq tp tq q0 hA ae hr;obtain⟨R,la,S,rfl⟩:=N.form;obtain⟨q,lb,r,rfl⟩:=hb.form;obtain⟨W0,ah,U⟩:=Ix 25 (.cell 25 (E R la S)) EO 25 (.cell 25 (E q lb r)) EO 25 (.cell 25 (E none 0 0)) EO (w:=w);have HP:=Z λ(V:F) (G:Bl w V)=>N.below G;have T:=Z λ(V:F) (G:Bl w V)=>hb.below G;clear N hb;go_enter func185,ntmps185
 go_upto_region 1 with fail
 rw[ah.o];refine YD Di [[],[],[0,1],[],[2,3,2],[4],[5],[5],[5],[],[],[9,6,4,0,1,2,3,4,5,6,9,10],[10,7,11,0,1,2,3,4,5,6,7,9,10,11],[8,12,0,1,2,3,4,5,6,7,8,9,10,11,12]] [.eq (s #[E R la S]),.eq (s #[E q lb r]),.poly (XW ps qs),.eq (s #[E q lb r]),.tup2 (.poly (Jm (XW ps qs) qs)) (.poly (J5 (XW ps qs) qs)),.tup2 (.poly (Jm (XW ps qs) qs)) (.poly (J5 (XW ps qs) qs)),.poly (Jm (XW ps qs) qs),.poly (J5 (XW ps qs) qs),.eq (o true),.ptr,.ptr,.eq undef,.eq undef,.eq (o true)] [9,10,11,12] (λb v V=>DJ w V [some (w.heap.size,.cell 25 (E R la S)),some (w.heap.size+1,.cell 25 (E q lb r)),some (w.heap.size+1+1,.cell 25 (E none 0 0)),nb b v 0 2 (.poly []) (.poly (Jm (XW ps qs) qs)),nb b v 1 3 (.poly []) (.poly (J5 (XW ps qs) qs))]) ((U.o.none).none).drew (SR (.vl J λ_ j=>GE 0 j)<|SR (.vl J λ_ j=>GE 1 j)<|SR (.cl λh j=>c2 (h.e 0) (h.e 1) (Qi.o _ _ _ (HP.o _ j.2.2) (T.o _ j.2.2)))<|SR (.vl J λ_ j=>GE 1 j)<|SR (.cl λh j=>c2 J (h.e 3) (Oc (Qj.o _ _ _ (h.g 2) (T.o _ j.2.2))))<|SR (.vl J λh _=>mw (h.g 4))<|SR (.vl J λh _=>Oh (h.g 5))<|SR (.vl J λh _=>Oi (h.g 5))<|SR (.vl J λh _=>Oj (h.g 5))<|SR (.wr J λ_ j=>LN 3 j)<|SR (.wr J λ_ j=>LN 4 j)<|SR (.wr J λh j=>GZ 3 j (h.g 6) (hp:=h.g 9))<|SR (.wr J λh j=>GZ 4 j (h.g 7) (hp:=h.g 10))<|SR (.vl J λh _=>aw (h.g 8)) Stp.end_)
  λf V2 hF c=>?_
 refine DP ?_;rw[hF.e 0,hF.e 1,hF.e 3,hF.e 8,hF.e 13];obtain⟨B3,H⟩:=hF.p 9;obtain⟨B4,M⟩:=hF.p 10;have c:=Dw c;simp only[H,M]at c;rw[H,M];have t:=Z c;clear c hF H M;clear U;obtain⟨a5,l5,c5,a,r5⟩:=t.o.poly2 (i:=4) J;have an:=a.cell;have n1:=(t.o.cell (i:=2) J).1;have Qe:=Z t.o.2.2;have H1:=Z (Qm.o V2 _ r5);go_wp2_with(first
  |(go_at_call 184;refine H1.o.mono ?_;rintro e w4 ⟨u4,rfl,am,ai⟩)
  |(go_at_call 15;refine(Qn.o _ _ am).mono ?_;rintro e w5 ⟨u5,rfl,P,_,aj⟩;have B:=Bt ai aj;obtain⟨a7,l7,c7,rfl⟩:=P.form;have a:=boxed_below n1 B;have x0:=a.cell;have x1:=a.frozen;have Ql:=Z (Mv a (x:=E a7 l7 c7) P);have Qk:=Z ((Bt Qe.o B).setCell (p:=⟨w.heap.size+1+1,0,none⟩) (by show w.heap.size<=w.heap.size+1+1;omega) (E a7 l7 c7));clear P B a))
 exact BA (by simp[results,results185,go_sem,x0]) J ⟨_,J,Ql.o,Qk.o⟩
theorem Zk(v:I)(ps:Ja)(w:F)(h:Je w v ps)(aj:Sqs ps)(an:Jc ps=ps)(am:∀i,Sq (cf ps i/cf ps (ps.length-1))):
 Calls X 108 #[v] w λe w'=>∃u,e=.returned u/\Je w' u (Jr ps)/\Bl w w':=by
 obtain⟨a,la,c,rfl⟩:=h.form;obtain⟨ay,ap,aq,az,_⟩:=h.row.forms;obtain⟨V0,ae,k⟩:=Lx 25 (.cell 25 (E a la c)) EO 25 (.cell 25 (E none 0 0)) EO (w:=w);have M1:=k.o;obtain⟨n,hn⟩:=ex (ps.length:Nat);obtain⟨e0,ai⟩:=ex ((n:Int)-1:Int);have B:=Z (Yo (s #[E a la c]) ps V0 (h.below M1.2.2));rw[hn,ai]at B;have bg:e0+1=(n:Int):=O
 have bi:Q.wrap (n:Int)=(n:Int):=by rw[BG];omega
 have Qm:∀W:F,(Instr.makeSlice 22 (K Q (n:Int)) (K Q (n:Int))).run X W=.ok (E (some ⟨W.heap.size,0,none⟩) n n) (W.alloc (C (YH n) 50)):=λW=>SL n O W;obtain⟨x,Qf,Qi,U⟩:=Dx (λ(V:F) (hB:Bl w V)=>h.below hB) aj am (show ps.length=n from hn);have Qb:n<=1099511627776:=O
 have Qr:=Z an;clear h aj am ay ap aq hn ai M1 az an;go_enter func108,ntmps108
 go_upto_region 1 with fail
 rw[ae.o];have c0:=(k.o.cell (i:=0) J).1.cell;go_upto_region 2 with(go_at_call 75;refine B.o.mono ?_;clear B;rintro e w1 ⟨rfl,ah⟩)
 have z:DJ w (w1.alloc (C (YH n) 50)) [some (w.heap.size,.cell 25 (E a la c)),some (w.heap.size+1,.cell 25 (E none 0 0)),some (w1.heap.size,.rats (yA n 0))]:=(k.o.below ah).push (.rats (yA n 0)) (NG _ n);obtain⟨V1,D⟩:=ex (w1.alloc (C (YH n) 50));obtain⟨r,H⟩:=ex (w1.heap.size);rw[D,H]at z;rw[D,H];have Qh:=Z z;clear z D H ah c0 k ae Qm;go_wp2;go_loopw [11] (λR wr=>∃(i:Nat) (S:Ja),i<=n/\R=K Q (i:Int)/\Hid (KM (λj=>cf ps j/cf ps (ps.length-1)) n i S)/\Hid (DJ w wr [some (w.heap.size,.cell 25 (E a la c)),some (w.heap.size+1,.cell 25 (E none 0 0)),some (r,.rats S)])) λR _=>n-(intOf R).toNat
 case atStart=>exact⟨0,_,Ay _,J,Z ⟨A2,λj=>by rw[Ya,BE O]⟩,Qh⟩
 case round=>
  obtain⟨i,S,hi,rfl,d,g⟩:=hrel;clear Qh;by_cases M:i<n
  . have bj:(i:Int)<(n:Int):=O
    have Qn:=Z (show i<S.length by rw[d.o.1];exact M);have Qg:=Z (show i<ps.length by rw[U.o];exact M);go_wp2_with fail
    have Qj:=g.o.drew;obtain⟨m,N⟩:=ex (ps.length-1:Nat);obtain⟨Qq,Ql,Qo⟩:=DZ (show(ps.length:Int)-1=(m:Int)by have:=Qg.o;omega) N (show decide (cf ps m≠0)=true by rw[<-N];exact BI (Jp Qr.o λe=>by have:=Qg.o;rw[e]at this;simp at this));clear N;refine YD Di [[],[],[],[],[2,3],[],[],[6,4],[5,7,7],[4,8,8],[9],[10],[10],[0,1,0,1,2,3,4,5,6,7,8,9,10,11],[13,11,9,0,1,2,3,4,5,6,7,8,9,10,11]] [.eq (E (some ⟨r,0,none⟩) n n),.eq (K Q (i:Int)),.eq (s #[E a la c]),.eq (K Q (i:Int)),.rat (cf ps i),.eq (s #[E a la c]),.eq (s #[E a la c]),.eq (K Q (m:Int)),.rat (cf ps m),.tup1 (.rat (cf ps i/cf ps m)),.tup1 (.rat (cf ps i/cf ps m)),.rat (cf ps i/cf ps m),.eq (o true),.eq (L (some ⟨r,i*4,none⟩)),.eq undef] [14] (λb _ V=>DJ w V [some (w.heap.size,.cell 25 (E a la c)),some (w.heap.size+1,.cell 25 (E none 0 0)),some (r,if b.getD 0 false then .rats (S.set i (cf ps i/cf ps m))else .rats S)]) Qj (SR (.vl J λ_ _=>mv)<|SR (.vl J λ_ _=>mv)<|SR (.vl J λ_ j=>GE 0 j)<|SR (.vl J λ_ _=>mv)<|SR (.cl λh j=>c2 (h.e 2) (h.e 3) (by have q:=IA _ ps (i:Int) _ (x.o _ j.2.2);rw[Iz]at q;exact q))<|SR (.vl J λ_ j=>GE 0 j)<|SR (.vl J λ_ j=>GE 0 j)<|SR (.cl λh j=>c1 (h.e 6) (rv (Qq.o ▸ Yo _ ps _ (x.o _ j.2.2))))<|SR (.cl λh j=>c2 (h.e 5) (h.e 7) (by have q:=IA _ ps (m:Int) _ (x.o _ j.2.2);rw[Iz]at q;exact q))<|SR (.cl λh _=>Od (Qo.o ▸ Re _ _ (cf ps i) (cf ps m) _ (h.g 4) (h.g 8) (Qf.o.at i) (Qf.o.at m)))<|SR (.vl J λh _=>mw (h.g 9))<|SR (.vl J λh _=>Ol (h.g 10))<|SR (.vl J λh _=>Om (h.g 10))<|SR (.vl J λh _=>⟨_,by refine DP ?_;rw[h.e 0,h.e 1];go_simp,J⟩)<|SR (.wr J λh j=>Ms 2 j Qn.o (h.g 11) (h.e 13)) Stp.end_)
     λf V hF l=>?_
    refine DP ?_;rw[hF.e 0,hF.e 1,hF.e 2,hF.e 3,hF.e 5,hF.e 6,hF.e 7,hF.e 12,hF.e 13];have l:=Dw l;have HO:=Z l;clear l hF;rw[<-Ql.o]at HO;go_wp2_with fail
    go_roundw
    case rel=>exact⟨i+1,_,O,by go_num,Z (d.o.next M),HO⟩
    case measure=>simp[intOf];omega
  . obtain rfl:i=n:=O
    have hE:=g.o.rats (i:=2) J;have y:=hE.row (n:=i) (cap:=i) (by rw[d.o.1];exact Aa _) (Aa _) O Qb;rw[Ai (by rw[d.o.1];exact Aa _)]at y;have A:=Z (Rn _ S wr y (Sqs.of λj=>by
     rw[d.o.2 j];split
     . exact Qi.o j
     . exact GF))
    rw[d.o.done (T:=Jr ps) (JH _ _) (λj hj=>by grind[Jr,Yx]) λj hj=>by unfold Jr;rw[Yx,Yt (by rw[U.o];exact hj),Cs]]at A;clear hE y;go_wp2_with(go_at_call 178;refine A.o.mono ?_;clear A;rintro e w5 ⟨u5,rfl,P,_,G⟩;obtain⟨a7,l7,c7,rfl⟩:=P.form;have t:=boxed_below (g.o.cell (i:=1) J).1 G;have x0:=t.cell;have x1:=t.frozen;have Qp:=Z (GM t (E a7 l7 c7) P.row);have Qk:=Z ((Bt g.o.2.2 G).setCell (p:=⟨w.heap.size+1,0,none⟩) (by show w.heap.size<=w.heap.size+1;omega) (E a7 l7 c7));clear P G t)
    exact BA (by simp[results,results108,go_sem,x0]) J ⟨_,J,⟨_,J,Qp.o⟩,Qk.o⟩
end M3
def Gf:Nat->Ja->Ja->List Ja
 |0,a,_=>[a]
 |n+1,a,b=>if b=[]then [a]else a::Gf n b (X6 a b)
theorem pk:∀(n m:Nat) (a b:Ja),Jc b=b->b.length<=n->b.length<=m->Gf n a b=Gf m a b:=by
 intro n;induction n with
 |zero=>
  intro m a b _ h _;have hb:b=[]:=NI O;subst hb;cases m with
  |zero=>rfl
  |succ m=>simp[Gf]
 |succ n f=>
  intro m a b tb h d;by_cases c:b=[]
  . grind
  . have hl:0<b.length:=Ag.2 c;cases m with
    |zero=>omega
    |succ m=>
     have e:=Xv (a:=a) tb c;grind[Gf,KL]
def ET(a b:Ja):List Ja:=Gf b.length a b
theorem LX(a:Ja):ET a []=[a]:=rfl
theorem XR{a b:Ja}(tb:Jc b=b)(c:b≠[]):ET a b=a::ET b (X6 a b):=by
 have d:=Xv (a:=a) tb c;have hl:0<b.length:=Ag.2 c;unfold ET;obtain⟨n,hn⟩:∃n,b.length=n+1:=⟨b.length-1,O⟩;grind[Gf,pk,KL]
def Xk(p q:Ja):List Ja:=ET (Jn p) (Jn q)
def Je.setB{V:F}{v:I}{ps:Ja}(h:Je V v ps){B:Nat}{a:om}{l c:Nat}(b:Boxed V B 25 (E a l c)){u:I}:Je (V.setCell ⟨B,0,none⟩ u) v ps:=M3.Mv b h
namespace M3
def Dd(V:F)(B:Nat)(a:om)(l c:Nat):Prop:=Boxed V B 25 (E a l c)
section
variable {V V':World} {B B':Nat} {a a':om} {l c l' c':Nat}
def Dd.cell(h:Dd V B a l c):V.cell? ⟨B,0,none⟩=some (E a l c):=Boxed.cell h
def Dd.frozen(h:Dd V B a l c):V.frozen? ⟨B,0,none⟩=false:=Boxed.frozen h
def Dd.below(h:Dd V B a l c)(hb:Bl V V'):Dd V' B a l c:=boxed_below h hb
def Dd.far(h:Dd V B a l c)(b:B≠B'){u:I}:Dd (V.setCell ⟨B',0,none⟩ u) B a l c:=Bx.far (cs:=#[E a l c]) h (p:=⟨B',0,none⟩) b u
def Dd.put(h:Dd V B a l c):Dd (V.setCell ⟨B,0,none⟩ (E a' l' c')) B a' l' c':=(show Boxed V B 25 (E a l c)from h).set _
end
def GB(G:List Ja->F->Prop):Prop:=∀H W W',G H W->Bl W W'->G H W'
def NS(B4 B5:Nat)(G:List Ja->F->Prop):Prop:=∀H W B a l c u,B=B4\/B=B5->Dd W B a l c->G H W->G H (W.setCell ⟨B,0,none⟩ u)
def ID(B4 B5:Nat)(G:List Ja->F->Prop)(H:List Ja)(V:F)(v4 v5:I)(p q:Ja):Prop:=(GB G/\NS B4 B5 G)/\G H V/\Je V v4 p/\Je V v5 q
section
variable {B4 B5:Nat} {G:List Ja->World->Prop} {H:List Ja} {V V':World} {v4 v5:Value} {p q:Ja}
def ID.below(h:ID B4 B5 G H V v4 v5 p q)(hb:Bl V V'):ID B4 B5 G H V' v4 v5 p q:=⟨h.1,h.1.1 _ _ _ h.2.1 hb,h.2.2.1.below hb,h.2.2.2.below hb⟩
def ID.put(h:ID B4 B5 G H V v4 v5 p q){B:Nat}(d:B=B4\/B=B5){a:om}{l c:Nat}(b:Dd V B a l c){u:I}:ID B4 B5 G H (V.setCell ⟨B,0,none⟩ u) v4 v5 p q:=⟨h.1,h.1.2 _ _ _ _ _ _ _ d b h.2.1,h.2.2.1.setB b,h.2.2.2.setB b⟩
end
def NT(V:F)(B:Nat)(r:Ja):Prop:=∃a l c,Dd V B a l c/\Je V (s #[E a l c]) r
def NT.below{V V':F}{B:Nat}{r:Ja}(h:NT V B r)(hb:Bl V V'):NT V' B r:=by
 obtain⟨a,l,c,b,d⟩:=h;exact⟨a,l,c,b.below hb,d.below hb⟩
def NU(V:F)(B:Nat):Nat:=match V.cell? ⟨B,0,none⟩with|some (E _ l _)=>l|_=>0
def Dd.len{V:F}{B:Nat}{a:om}{l c:Nat}(h:Dd V B a l c):NU V B=l:=by
 unfold NU;rw[h.cell]
def Zl{V:F}{a:om}{l c:Nat}{ps:Ja}(h:Je V (s #[E a l c]) ps):l=ps.length:=h.row.forms.1
def chnL_head(a b:Ja):∃t,ET a b=a::t:=by
 unfold ET;cases b.length with
 |zero=>exact⟨_,J⟩
 |succ n=>
  rw[Gf];split
  . exact⟨_,J⟩
  . exact⟨_,J⟩
def pm(B4 B5 n l:Nat)(C:List Ja)(G:List Ja->F->Prop):Prop:=∀H W a b c4 c d c5 p q,H++[p] <+: C->B4<W.heap.size->B5<W.heap.size->G H W->Dd W B4 a b c4->Dd W B5 c d c5->Je W (s #[E a b c4]) p->Je W (s #[E c d c5]) q->
 YieldAt Fence.wide (n-1) X l #[s #[E a b c4]] W λe W'=>e=.returned (o true)/\G (H++[p]) W'/\Dd W' B4 a b c4/\Dd W' B5 c d c5/\Je W' (s #[E a b c4]) p/\Je W' (s #[E c d c5]) q
structure ChOk(K:Nat)(p q:Ja):Prop where
 tp:Jc p=p
 tq:Jc q=q
 cp:∃D:Int,D≠0/\Sm K D/\EQ D K p
 cq:∃D:Int,D≠0/\Sm K D/\EQ D K q
 le:4*((max p.length q.length+2)*(Db K p q+1))<=1000000000
 ln:max p.length q.length<=1000
def ChOk.lp{K:Nat}{p q:Ja}(h:ChOk K p q):Ln K p:=by obtain⟨D,a,_,b⟩:=h.cp;exact b.ln a
def ChOk.lq{K:Nat}{p q:Ja}(h:ChOk K p q):Ln K q:=by obtain⟨D,a,_,b⟩:=h.cq;exact b.ln a
theorem ChOk.bd{K:Nat}{p q:Ja}(h:ChOk K p q):Db K p q<=1000000000/\K<=1000000000/\p.length+q.length<=1000000000/\1<=Db K p q:=by
 have a:=h.le;grind[Db]
def pn(K n:Nat)(hn:1<=n)(Bp Bq:Nat)(pa qa:om)(pl pc ql qc:Nat)(p q:Ja)(g:ChOk K p q)(l:Nat)(B:Nat->Nat->List Ja->F->Prop)(w:F)(bi:Dd w Bp pa pl pc)(bj:Dd w Bq qa ql qc)(ip:Je w (s #[E pa pl pc]) p)(iq:Je w (s #[E qa ql qc]) q)
(ay:∀B4 B5,GB (B B4 B5))(az:∀B4 B5,w.heap.size<=B4->w.heap.size<=B5->NS B4 B5 (B B4 B5))(hY:∀B4 B5,w.heap.size<=B4->w.heap.size<=B5->pm B4 B5 n l (Xk p q) (B B4 B5))(h0:∀B4 B5 V,w.heap.size<=B4->w.heap.size<=B5->Bl w V->B B4 B5 [] V):
 CallsIn Fence.wide n X 183 (#[.func (.yield l) #[] #[]]++#[L (some ⟨Bp,0,none⟩),L (some ⟨Bq,0,none⟩)]) w λe W'=>(∃v,e=.returned v)/\∃B4 B5 H a,(w.heap.size<=B4/\w.heap.size<=B5)/\B B4 B5 (H++[a]) W'/\Xk p q=H++[a]/\Chn p q (Db K p q) a []:=by
 have Qq:=Z λ(V:F) (T:Bl w V)=>(bi.below T).cell;have Qi:=Z λ(V:F) (T:Bl w V)=>(bj.below T).cell;have Qo:=Z (λ(V:F) (T:Bl w V)=>show Calls X 184 #[s #[E pa pl pc]] V λe w'=>∃u,e=.returned u/\Je w' u (Jn p)/\Bl V w' by
  obtain⟨D,h1,h2,N⟩:=g.cp;exact SO D K _ p V (ip.below T) g.tp h1 h2 N g.bd.2.1)
 have Qh:=Z (λ(V:F) (T:Bl w V)=>show Calls X 184 #[s #[E qa ql qc]] V λe w'=>∃u,e=.returned u/\Je w' u (Jn q)/\Bl V w' by
  obtain⟨D,h1,h2,N⟩:=g.cq;exact SO D K _ q V (iq.below T) g.tq h1 h2 N g.bd.2.1)
 obtain⟨Qp,Qr,Qs⟩:=DZ h0 (Chn.start g.tp g.tq g.lp g.lq g.bd.2.2.1) λ(a b:Ja) (h:Chn p q (Db K p q) a b) (hb:b≠[])=>Chn.next g.tp g.tq g.lp g.lq g.bd.2.2.1 h hb;have Ua:=Z (λ(V:F) (x y:I) (a b:Ja) (hx:Je V x a) (hy:Je V y b) (h:Chn p q (Db K p q) a b) (hb:b≠[])=>pj (Db K p q) x y a b V hx hy h.wa h.wb h.ta h.tb hb g.bd.2.2.2 (by
  have h1:=h.la;have h2:(a.length+2)*(Db K p q+1)<=(max p.length q.length+2)*(Db K p q+1):=Af _ O;have N:=g.le;omega) (h.nx hb))
 obtain⟨Qm,Qj,M1⟩:=DZ (show ∀B4 B5,w.heap.size<=B4->w.heap.size<=B5->GB (B B4 B5)/\NS B4 B5 (B B4 B5)from λB4 B5 h4 h5=>⟨ay B4 B5,az B4 B5 h4 h5⟩) hY (DJ.nil w);clear g bi bj ip iq ay az hY h0;refine Bn func183 J trivial ?_ J;simp only[ntmps183,Aw,Al,AX,Nat.reduceAdd,Nat.reduceSub,Az,AA,AU,AJ,As,AK];gi_wp2_with fail
 refine Lz (An J) Di [[],[0],[],[2],[],[],[1,4],List.range 7] [.eq (s #[E pa pl pc]),.poly (Jn p),.eq (s #[E qa ql qc]),.poly (Jn q),.ptr,.ptr,.eq undef,.eq undef] [4,5,6,7] (λo v V=>DJ w V [nb o v 0 2 (.poly []) (.poly (Jn p)),nb o v 1 3 (.poly []) (.poly (Jn q))]) M1.o.none.none.drew (SR (.vl J λ_ j=>⟨_,by have e0:=Qq.o _ j.2.2;refine DP ?_;go_simp,J⟩)<|SR (.cl λh j=>c1 (h.e 0) (Qo.o _ j.2.2))<|SR (.vl J λ_ j=>⟨_,by have e0:=Qi.o _ j.2.2;refine DP ?_;go_simp,J⟩)<|SR (.cl λh j=>c1 (h.e 2) (Qh.o _ j.2.2))<|SR (.wr J λ_ j=>LN 0 j)<|SR (.wr J λ_ j=>LN 1 j)<|SR (.wr J λh j=>GZ 0 j (h.g 1) (hp:=h.g 4))<|SR (.wr J λh j=>GZ 1 j (h.g 3) (hp:=h.g 5)) Stp.end_)
  λf V2 hF S=>?_
 refine DP ?_;obtain⟨B3,am⟩:=hF.p 4;obtain⟨B4,an⟩:=hF.p 5;have S:=Dw S;simp only[am,an]at S;rw[hF.e 0,hF.e 2,am,an];replace S:=Z S;clear hF am an M1;have R:=S;clear S;obtain⟨a5,c,c5,n5,r5⟩:=R.o.poly2 (i:=0) J;obtain⟨a6,l6,c6,n6,r6⟩:=R.o.poly2 (i:=1) J;have M:=Z (show B3≠B4/\w.heap.size<=B3/\w.heap.size<=B4 from⟨R.o.ne 0 1 J J DK,R.o.ge 0 J,R.o.ge 1 J⟩);obtain⟨Qe,Qc,Qf,Qn⟩:=Dx (Qp.o B3 B4 V2 M.o.2.1 M.o.2.2 R.o.2.2) (Qm.o B3 B4 M.o.2.1 M.o.2.2) (Qj.o B3 B4 M.o.2.1 M.o.2.2) (show ∀H a W,B B3 B4 (H++[a]) W->Xk p q=H++[a]->Chn p q (Db K p q) a []->∃B4 B5 H a,(w.heap.size<=B4/\w.heap.size<=B5)/\B B4 B5 (H++[a]) W/\Xk p q=H++[a]/\Chn p q (Db K p q) a []from λH a W h1 h2 N=>⟨B3,B4,H,a,⟨M.o.2.1,M.o.2.2⟩,h1,h2,N⟩);clear Qp Qm Qj;obtain⟨G,hG⟩:=ex (B B3 B4);rw[hG]at Qe Qc Qf Qn;clear hG;have Qg:Hid (ID B3 B4 G [] V2 (s #[E a5 c c5]) (s #[E a6 l6 c6]) (Jn p) (Jn q)):=Z ⟨Qc.o,Qe.o,r5,r6⟩;have N4:Hid (Dd V2 B3 a5 c c5):=Z n5;have N5:Hid (Dd V2 B4 a6 l6 c6):=Z n6;clear n5 n6 r5 r6 R Qo Qh Qe Qq Qi;gi_wp2;gi_loopw [] (λwr=>∃(H:List Ja) (a b:Ja) (A r:om) (z c4 c c5:Nat),Hid (ID B3 B4 G H wr (s #[E A z c4]) (s #[E r c c5]) a b)/\Hid (Dd wr B3 A z c4)/\Hid (Dd wr B4 r c c5)/\Hid (Chn p q (Db K p q) a b)/\Hid (Xk p q=H++ET a b)) λwr=>NU wr B4
 case atStart=>exact⟨[],_,_,_,_,_,_,_,_,Qg,N4,N5,Qr,Z J⟩
 case round=>
  clear Qg N4 N5 Qr;obtain⟨H,a,b,A,r,z,c4,c,c5,HG,H4,H5,HC,HH⟩:=hrel;obtain⟨fn,tmps,assign,body,hy,bg⟩:=Qf.o H wr A z c4 r c c5 a b (by obtain⟨t,ht⟩:=chnL_head a b;exact⟨t,by rw[HH.o,ht];simp⟩) (Bx.lt (cs:=#[E A z c4]) H4.o) (Bx.lt (cs:=#[E r c c5]) H5.o) HG.o.2.1 H4.o H5.o HG.o.2.2.1 HG.o.2.2.2;have e4:=H4.o.cell;gi_wp2;refine bg.mono ?_;rintro e W3 ⟨rfl,aq,ap,aj,bm,ah⟩;have Ql:Hid (ID B3 B4 G (H++[a]) W3 (s #[E A z c4]) (s #[E r c c5]) a b):=Z ⟨Qc.o,aq,bm,ah⟩;obtain⟨Ug,Ud,U⟩:=DZ (Zl ah) (H5.o.len) (Yo _ b W3 ah);have e5:=aj.cell;have Uc:=Z ap;have Uf:=Z aj;clear hy bg e4 aq ap aj bm ah HG H4 H5;by_cases P:b=[]
  . have HE:=Z (show Xk p q=H++[a]by rw[HH.o,P];rfl);have Qz:=Z (show Chn p q (Db K p q) a []by have:=HC.o;rwa[P]at this);rw[P,show((([]:Ja).length:Int)-1)=-1 from J]at U;gi_wp2_with(refine⟨trivial,?_⟩;gi_at_call 75;refine((BJ (n:=_)).2 U.o).mono ?_;clear U;rintro e w4 ⟨rfl,ae⟩)
    go_end0;exact⟨⟨_,J⟩,Qn.o H a _ (Ql.o.below ae).2.1 HE.o Qz.o⟩
  . obtain⟨m,hm⟩:=ex (b.length-1:Nat);have Qk:(b.length:Int)-1=(m:Int):=by have:=Ag.2 P;omega
    rw[Qk]at U;obtain⟨Qy,Ub,Qt,Qd⟩:=Dx (Qs.o a b HC.o P) (Xv (a:=a) HC.o.tb P) (show Xk p q=(H++[a])++ET b (X6 a b)by rw[HH.o,XR HC.o.tb P,C1];rfl) λ(V:F) (x y:I) (hx:Je V x a) (hy:Je V y b)=>Ua.o V x y a b hx hy HC.o P;have bn:¬(m:Int)<0:=O
    clear hm Qk P;gi_wp2_with(refine⟨trivial,?_⟩;gi_at_call 75;refine((BJ (n:=_)).2 U.o).mono ?_;clear U;rintro e w4 ⟨rfl,ae⟩)
    have Qv:=(Ql.o.below ae).below ((BB _ w4).drew);have Ue:=(Uc.o.below ae).below ((BB _ w4).drew);have Qw:=(Uf.o.below ae).below ((BB _ w4).drew);refine Lz (An J) Di [[],[],[],[1,2],[0,1,2,3],List.range 5] [.eq (s #[E r c c5]),.eq (s #[E A z c4]),.eq (s #[E r c c5]),.poly (X6 a b),.eq undef,.eq undef] [4,5] (λo _ V=>ID B3 B4 G (H++[a]) V (s #[E A z c4]) (s #[E r c c5]) a b/\(if o.getD 0 false then Dd V B3 r c c5 else Dd V B3 A z c4)/\if o.getD 1 false then NT V B4 (X6 a b)else Dd V B4 r c c5) ⟨Qv,Ue,Qw⟩ (SR (.vl J λ_ j=>⟨_,by have e0:=(show Dd _ B4 r c c5 from j.2.2).cell;refine DP ?_;go_simp,J⟩)<|SR (.vl J λ_ j=>⟨_,by have e0:=(show Dd _ B3 A z c4 from j.2.1).cell;refine DP ?_;go_simp,J⟩)<|SR (.vl J λ_ j=>⟨_,by have e0:=(show Dd _ B4 r c c5 from j.2.2).cell;refine DP ?_;go_simp,J⟩)<|SR (.cl (λh j=>c2 (h.e 1) (h.e 2) (Qd.o _ _ _ j.1.2.2.1 j.1.2.2.2)) (hJ:=λ_ _ _ _ h b=>⟨h.1.below b,Ra h.2.1 (·.below b) (·.below b),Ra h.2.2 (·.below b) (·.below b)⟩))<|SR (.wr J fun {_ V _} h j=>by
       have n:Dd V B3 A z c4:=j.2.1;have e0:=n.cell;have f0:=n.frozen;exact⟨.skip,undef,_,by refine DP ?_;rw[h.e 0];go_simp,Ap ⟨J,J⟩,J,λd v _ k=>k.set1 n J _,j.1.put (An J) n,n.put,(show Dd V B4 r c c5 from j.2.2).far λe=>M.o.1 e.symm⟩)<|SR (.wr J fun {f V _} h j=>by
       have n:Dd V B4 r c c5:=j.2.2;have e0:=n.cell;have f0:=n.frozen;have N:Je V (f 3) (X6 a b):=h.g 3;obtain⟨x7,l7,c7,e⟩:=Je.form N;rw[e]at N;exact⟨.skip,undef,_,by refine DP ?_;rw[e];go_simp,Ap ⟨J,J⟩,J,λd v _ k=>k.set1 n J _,j.1.put (Ap J) n,(show Dd V B3 r c c5 from j.2.1).far M.o.1,x7,l7,c7,n.put,N.setB n⟩) Stp.end_)
     λf V hF SS=>?_
    refine DP ?_;obtain⟨ai,n6,x7,l7,c7,n7,i7⟩:=(show ID B3 B4 G (H++[a]) V (s #[E A z c4]) (s #[E r c c5]) a b/\Dd V B3 r c c5/\NT V B4 (X6 a b)from SS);rw[hF.e 0,hF.e 1,hF.e 2];have Qx:Hid (ID B3 B4 G (H++[a]) V (s #[E r c c5]) (s #[E x7 l7 c7]) b (X6 a b)):=Z ⟨Qc.o,ai.2.1,ai.2.2.2,i7⟩;obtain⟨Qu,N6,N7⟩:=DZ (show NU V B4<NU wr B4 by rw[n7.len,Ud.o,Zl i7,Ug.o];exact Ub.o) n6 n7;clear SS ai hF n6 n7 i7;gi_wp2;go_roundw
    case rel=>exact⟨H++[a],b,X6 a b,_,_,_,_,_,_,Qx,N6,N7,Qy,Qt⟩
    case measure=>exact Qu.o
end M3
namespace M3
variable{ps:Ja}{v:I}{W:F}
def Zm(n:Nat)(a d:om)(c b g f:Nat)(w:F):
 CallsIn Fence.wide n X 113 #[s #[E a c b],s #[E d g f]] w λe w'=>e=.returned (.func (.func 183) #[] #[L (some ⟨w.heap.size,0,none⟩),L (some ⟨w.heap.size+1,0,none⟩)])/\w'=(w.alloc (C #[E a c b] 25)).alloc (C #[E d g f] 25):=by
 refine Bn func113 J trivial ?_ J;simp only[ntmps113,Aw,Al,AX,Nat.reduceAdd,Nat.reduceSub,Az,AA,AU,AJ,As,AK];gi_wp2;go_ret;exact⟨J,J⟩
def SP(B B4 B5:Nat)(I:List Ja->F->Prop)(H:List Ja)(W:F):Exit->Act->F->Prop
 |.normal,_,W'=>I H W'/\W.heap.size<=W'.heap.size/\(∀(k:Nat) (o:Obj),B<=k->o.isCells=false\/k=B4\/k=B5->W.heap[k]?=some o->W'.heap[k]?=some o)/\∀v ps,Je W v ps->Je W' v ps
 |_,_,_=>False
def PH{W':F}{row:Option Nat}(hg:W.grownBy W' row)(a:∀r,row=some r->∃o:Obj,W.heap[r]?=some o/\o.isCells=false)(h:Je W v ps):Je W' v ps:=by
 obtain⟨u,e,h⟩:=h;exact⟨u,e,Oz hg a h⟩
def PI{l:Nat}{o o':Obj}(hl:W.heap[l]?=some o)(a:o.isCells=false)(h:Je W v ps):Je (W.putObj l o') v ps:=
 PH (BR W l o') (λr e=>by cases e;exact⟨o,hl,a⟩) h
theorem Zn{g:Operand}{ps:Array Tmp}{assign body:Code}{Q:Exit->Act->F->Prop}{a:Act}{w:F}{n:Nat}
(h1:2<=n){K z A:Nat}{pa qa:om}{pl pc ql qc:Nat}{p q:Ja}(bz:ChOk K p q)(bg:Dd w z pa pl pc)(bi:Dd w A qa ql qc)(ip:Je w (s #[E pa pl pc]) p)(iq:Je w (s #[E qa ql qc]) q)
(hg:a.eval g=.func (.func 183) #[] #[L (some ⟨z,0,none⟩),L (some ⟨A,0,none⟩)])(eg:∀args w,(callFunc 183 args).run X w=.ok (.enter 183 args) w)(cn:ps.size=1)
(I:Nat->Nat->List Ja->F->Prop)(hI:∀B4 B5,OwnFrom w.heap.size (I B4 B5))(ai:∀B4 B5,GB (I B4 B5))(aq:∀B4 B5,w.heap.size<=B4->w.heap.size<=B5->NS B4 B5 (I B4 B5))(h0:∀B4 B5 V,w.heap.size+2<=B4->w.heap.size+2<=B5->Bl w V->I B4 B5 [] V)(a₁:Value->Nat->Act)
(ay:∀(l:Nat) (x:om) (j i:Nat) (W:F) (K:Act->F->Prop),K (a₁ (E x j i) W.heap.size) (W.alloc (C #[E x j i] 25))->
  assign.wpIn (Fence.wide.inRound l) (n-1-1) X (Exit.then K λ_ _ _=>False) { tmps:=(ps.zip #[s #[E x j i]]).foldl (λt (p,v)=>t.setIfInBounds p v) a.tmps,defers:=[] } W)
(az:∀(l b B4 B5:Nat) (x:om) (j i:Nat) (r:Ja) (H:List Ja) (W:F),I B4 B5 H W->H++[r] <+: Xk p q->w.heap.size+1<b->B4<b->B5<b->Dd W b x j i->Je W (s #[E x j i]) r->
  body.wpIn (Fence.wide.inRound l) (n-1-1) X (SP w.heap.size B4 B5 (I B4 B5) (H++[r]) W) (a₁ (E x j i) b) W)
(bm:∀(D B4 B5:Nat) (W:F) (H:List Ja) (r:Ja),w.heap.size<=D->I B4 B5 (H++[r]) W->Xk p q=H++[r]->Chn p q (Db K p q) r []->W.heap[D]?=some (.deferred (some []))->Q .normal { a with defers:={ target:=.collected D,args:=#[] }::a.defers } W):
 (Code.rangeFunc g ps assign body).wpIn Fence.wide n X Q a w:=by
 refine wpIn_rangeFunc λfn bn=>?_;rw[show Fence.wide.round=none from J];obtain⟨rc,y⟩:∃rc:LoopState->Option Code->Loop,rc=λst pe=>{ state:=st,pending:=pe,fn,tmps:=a.tmps,params:=ps,assign,body,defers:=w.heap.size }:=⟨_,J⟩;obtain⟨V,R⟩:=ex ((w.alloc (.deferred (some []))).alloc (.loop (rc .ready none)));have vL:V.heap[w.heap.size+1]?=some (.loop (rc .ready none)):=by
  rw[<-R];have:=BD (w.alloc (.deferred (some []))) (.loop (rc .ready none));rwa[Ax]at this
 have vD:V.heap[w.heap.size]?=some (.deferred (some [])):=by
  rw[<-R];exact(Bf _ _ _ DI).trans (BD w _)
 have G:Bl w V:=by rw[<-R];exact(Ba w _).alloc (by rw[Ax];omega) _
 have df:V.heap.size=w.heap.size+2:=by rw[<-R];simp
 refine⟨w.heap.size+1,[{ target:=.collected w.heap.size,args:=#[] }],V,{ target:=.fn (.func 183) #[L (some ⟨z,0,none⟩),L (some ⟨A,0,none⟩)],args:=#[.func (.yield (w.heap.size+1)) #[] #[]] },V,183,
  #[.func (.yield (w.heap.size+1)) #[] #[]]++#[L (some ⟨z,0,none⟩),L (some ⟨A,0,none⟩)],V,?_,?_,?_,?_,λ_=>by omega,?_⟩
 . rw[<-R,y];exact run_enterLoop_outer _ _ _ _ _
 . simp only[resolve,hg];simp[go_sem]
 . intro f' aj;simp[Target.leads]at aj;subst aj;exact trivial
 . simp[invoke,go_sem,eg]
 refine(pn K (n-1) O z A pa qa pl pc ql qc p q bz (w.heap.size+1)
  (λB4 B5 H W=>I B4 B5 H W/\W.heap[w.heap.size+1]?=some (.loop (rc .ready none))/\W.heap[w.heap.size]?=some (.deferred (some [])))
  V (bg.below G) (bi.below G) (ip.below G) (iq.below G) ?_ ?_ ?_ λB4 B5 U h4 h5 hU=>⟨h0 B4 B5 U O O (G.trans (hU.mono O)),(hU.block _ (Ab.1 vL).1).trans vL,(hU.block _ (Ab.1 vD).1).trans vD⟩).mono ?_
 . rintro B4 B5 H W W' ⟨hi,hl,hk⟩ hb;exact⟨ai _ _ _ _ _ hi hb,(hb.block _ (Ab.1 hl).1).trans hl,(hb.block _ (Ab.1 hk).1).trans hk⟩
 . rintro B4 B5 h4 h5 H W B x j i u hB hb ⟨hi,hl,hk⟩;exact⟨aq B4 B5 O O _ _ _ _ _ _ _ hB hb hi,(BC W ⟨B,0,none⟩ u _ DH).trans hl,(BC W ⟨B,0,none⟩ u _ DH).trans hk⟩
 . rintro B4 B5 co de H W d f c4 a5 l5 c5 p4 q5 cj an ap ⟨hi,hl,hk⟩ h4 h5 i4 i5;have Qf:=(Ab.1 hl).1;have hy:=run_yield (P:=X) (args:=#[s #[E d f c4]]) hl (by rw[y];exact cn.symm);rw[y]at hy;obtain⟨T,ah⟩:=ex (W.alloc (C #[E d f c4] 25));have hA:Bl W T:=by rw[<-ah];exact Ba W _
   have N:=(hA.block _ Qf).trans hl;have Ql:=(hA.block _ O).trans hk;have Qj:=ai _ _ _ _ _ hi hA;have Qh:Dd T W.heap.size d f c4:=by rw[<-ah];exact BH W 25 (E d f c4)
   refine⟨fn,_,assign,body,hy,roundIn_of_wpIn bn (ay _ _ _ _ W _ ?_)⟩;rw[ah];refine⟨_,run_beginRound N (by rw[y]),?_⟩;obtain⟨bx,bj⟩:=ex (W.heap.size);have Qu:=h4.below hA;have Qr:=h5.below hA;have Qv:=i4.below hA;have Qn:=i5.below hA;rw[bj]at Qh Qf an ap ⊢;have Qg:=(Ab.1 N).1;obtain⟨c,m⟩:=ex (T.putObj (w.heap.size+1) (.loop { rc .ready none with state:=.busy }));rw[m];have Qo:c.heap[w.heap.size+1]?=some (.loop { rc .ready none with state:=.busy }):=by rw[<-m];exact Bb Qg
   have S:∀k,k≠w.heap.size+1->c.heap[k]?=T.heap[k]?:=λk hk=>by rw[<-m];exact BM O
   have Qt:Dd c bx d f c4:=(S bx O).trans Qh;have Qk:=(S _ O).trans Ql;have Qp:I B4 B5 H c:=by rw[<-m];exact(hI B4 B5).putObj _ Qj O N J
   have Qq:Dd c B4 d f c4:=(S B4 O).trans Qu;have Qw:Dd c B5 a5 l5 c5:=(S B5 O).trans Qr;have Qi:Je c (s #[E d f c4]) p4:=by rw[<-m];exact PI N J Qv
   have Qs:Je c (s #[E a5 l5 c5]) q5:=by rw[<-m];exact PI N J Qn
   refine wpIn_mono (az _ bx B4 B5 d f c4 p4 H c Qp cj Qf an ap Qt Qi) λe a3 W3 hp=>?_;cases e with
   |normal=>
    obtain⟨bu,dh,ae,am⟩:=hp;have M:=ae _ _ O (An J) Qo;have hr:=run_endRound (P:=X) none M;have Qa:∀k,k≠w.heap.size+1->(W3.putObj (w.heap.size+1) (.loop (rc .ready none))).heap[k]?=W3.heap[k]?:=λk hk=>BM O;have Qm:(Instr.endRound (w.heap.size+1) none).run X W3=.ok (o true) (W3.putObj (w.heap.size+1) (.loop (rc .ready none))):=by
     grind
    exact⟨_,_,Qm,J,⟨(hI B4 B5).putObj _ bu O M J,Bb (Ab.1 M).1,(Qa _ O).trans (ae _ _ (Aa _) (An J) Qk)⟩,
     (Qa _ O).trans (ae _ _ O (Ap (An J)) Qq),(Qa _ O).trans (ae _ _ O (Ap (Ap J)) Qw),PI M J (am _ _ Qi),PI M J (am _ _ Qs)⟩
   |ret=>exact hp.elim
   |exit id=>exact hp.elim
   |goto t=>exact hp.elim
   |panic ch=>exact hp.elim
   |outgrown=>exact hp.elim
 . rintro e c ⟨⟨v,rfl⟩,B4,B5,H,r,⟨h4,h5⟩,⟨hi,hl,hk⟩,hc,hn⟩;exact⟨none,_,by have:=run_endLoop (P:=X) hl (by rw[y];simp);rw[y]at this;exact this,bm _ B4 B5 _ H r (Aa _) ((hI B4 B5).putObj _ hi O hl J) hc hn ((BM O).trans hk)⟩
def DJ.setFar{w V:F}{bs:List (Option (Nat × Dat))}(M:DJ w V bs){B:Nat}(f:w.heap.size<=B){a:om}{l c:Nat}(hb:Dd V B a l c)(g:∀(i:Nat) B' d,bs[i]?=some (some (B',d))->B'≠B)(u:I):DJ w (V.setCell ⟨B,0,Option.none⟩ u) bs:=by
 refine⟨λi B' d h=>?_,M.2.1,M.2.2.setCell (p:=⟨B,0,Option.none⟩) f u⟩;obtain⟨⟨cs,b,e⟩,j⟩:=M.1 i B' d h;exact⟨⟨cs,b.far (p:=⟨B,0,Option.none⟩) (g i B' d h) u,e.set1 hb J u⟩,j⟩
def Ku(w:F)(a d:om)(c b f e:Nat)(H:List Ja):List (Option (Nat × Dat)):=
 [some (w.heap.size,.cell 25 (E a c b)),some (w.heap.size+1,.cell 25 (E d f e)),some (w.heap.size+1+1,.cell 25 (E none 0 0)),some (w.heap.size+1+1+1,.poly (H.getLastD []))]
theorem po{w:F}{a f:om}{c b j g:Nat}{H:List Ja}{i B:Nat}{d:Dat}(e:(Ku w a f c b j g H)[i]?=some (some (B,d))):B<=w.heap.size+1+1+1:=by
 grind[Ku]
def Zo(K:Nat)(va vb:I)(p q:Ja)(w:F)(ha:Je w va p)(hb:Je w vb q)(ai:ChOk K p q):
 Calls X 109 #[va,vb] w λe w'=>∃u,e=.returned u/\Je w' u (Ju p q)/\Bl w w':=by
 obtain⟨f,j,g,rfl⟩:=ha.form;obtain⟨m,y,t,rfl⟩:=hb.form;have M0:DJ w _ _:=((((DJ.nil w).push (.cell 25 (E f j g)) (cs:=#[E f j g]) ⟨J,J⟩).push (.cell 25 (E m y t)) (cs:=#[E m y t]) ⟨J,J⟩).push (.cell 25 (E none 0 0)) (cs:=#[E none 0 0]) ⟨J,J⟩).push (.poly []) (cs:=#[E none 0 0]) (Ri _);simp only[Ax]at M0;obtain⟨W0,ae⟩:=ex ((((w.alloc (C #[E f j g] 25)).alloc (C #[E m y t] 25)).alloc (C #[E none 0 0] 25)).alloc (C #[E none 0 0] 25));have M1:DJ w W0 (Ku w f m j g y t []):=by rw[<-ae];exact M0
 have hN:W0.heap.size=w.heap.size+1+1+1+1:=by rw[<-ae];simp
 obtain⟨Qe,Qg,HN,HP,HQ,Qm⟩:=KA ae M1 hN (λ(V:F) (hB:Bl w V)=>ha.below hB) (λ(V:F) (hB:Bl w V)=>hb.below hB) ai;have Qj:=Z (λ(V:F) (x:I) (r:Ja) (hx:Je V x r) (hc:Chn p q (Db K p q) r [])=>show Calls X 108 #[x] V λe w'=>∃u,e=.returned u/\Je w' u (Ju p q)/\Bl V w' by
  have Qb:=ai.bd;have h1:=Zk x r V hx (Sqs.of λi=>Sq.of (hc.wa.smq Qb.2.2.2 i) Qb.1) hc.ta (λi=>by
   have h2:=Ln.sqs hc.ta hc.wa.ln Qb.2.2.2 i;unfold Jr at h2;rw[Yx,Rat.div_def,FG,<-Rat.div_def]at h2;exact Sq.of h2 Qb.1)
  rw[<-hc.gc,ZX];exact h1)
 clear ha hb ai M0 M1 ae hN;refine(BJ (n:=3)).1 ?_;refine BO func109 J trivial ?_ J;simp only[ntmps109,Aw,Al,AX,Nat.reduceAdd,Nat.reduceSub,Az,AA,AU,AJ,As,AK];gi_wp2_with fail
 rw[Qe.o];refine⟨trivial,?_⟩;refine(Zm _ _ _ _ _ _ _ _).mono ?_;rintro e w' ⟨rfl,rfl⟩;obtain⟨z,T⟩:=ex ((W0.alloc (C #[E f j g] 25)).alloc (C #[E m y t] 25));have Qi:Bl W0 z:=by rw[<-T];exact(Ba W0 _).alloc (by rw[Ax];omega) _
 have nP:Dd z W0.heap.size f j g:=by rw[<-T];exact(BH W0 25 (E f j g)).alloc _
 have nQ:Dd z (W0.heap.size+1) m y t:=by
  rw[<-T];have:=BH (W0.alloc (C #[E f j g] 25)) 25 (E m y t);rwa[Ax]at this
 have M2:=DJ.below Qg.o Qi;have Qf:z.heap.size=w.heap.size+6:=by rw[<-T];simp[HN.o]
 rw[T,HN.o];rw[HN.o]at nP nQ;obtain⟨Qc,Ql,Qn,R⟩:=Dx M2 nP nQ Qf;clear M2 nP nQ Qf Qi T Qe HN Qg;gi_wp2_with fail
 refine Zn O Qm.o Ql.o Qn.o (HP.o z Qc.o.2.2) (HQ.o z Qc.o.2.2) J (Be func183 v0 J) J
  (λ_ _ H W=>DJ w W (Ku w f m j g y t H)) (λ_ _ H W W' row M hg hr=>DJ.own M hg λr e=>⟨by have:=(hr r e).1;have:=R.o;omega,(hr r e).2⟩) (λ_ _ H W W' M hb=>DJ.below M hb)
  (λB4 B5 S h5 H W B a l c u hB hb M=>DJ.setFar M (by have:=R.o;omega) hb (λi B' d e=>by have:=po e;have:=R.o;omega) u) (λ_ _ V _ _ hV=>DJ.below Qc.o hV)
  (λv b=>{ tmps:=#[s #[E f j g],s #[E m y t],L (some ⟨w.heap.size,0,none⟩),L (some ⟨w.heap.size+1,0,none⟩),L (some ⟨w.heap.size+1+1,0,none⟩),L (some ⟨w.heap.size+1+1+1,0,none⟩),L (some ⟨b,0,none⟩),s #[E f j g],s #[E m y t],.func (.func 183) #[] #[L (some ⟨w.heap.size+1+1+1+1,0,none⟩),L (some ⟨w.heap.size+1+1+1+1+1,0,none⟩)],s #[v],undef,undef,undef],defers:=[] }) ?assign ?body ?done
 case assign=>
  intro l x xl xc W K hK;gi_wp2;exact hK
 case body=>
  intro l b B4 B5 x xl xc r H W M _ hb _ _ am hr;obtain⟨ya,yl,yc,P,r3⟩:=DJ.poly2 M (i:=3) J;have e3:=P.cell;have f3:=P.frozen;have eb:=am.cell;have HH:=Z (show ∀aj,SP z.heap.size B4 B5 (λH W=>DJ w W (Ku w f m j g y t H)) (H++[r]) W .normal aj (W.setCell ⟨w.heap.size+1+1+1,0,none⟩ (E x xl xc))from λaj=>by
   refine⟨?_,?_,λk o hk _ ho=>?_,λv ps h=>h.setB P⟩
   . have S:=DJ.putPoly M (i:=3) J hr;show DJ w _ (Ku w f m j g y t (H++[r]));unfold Ku at S ⊢;rw[show(H++[r]).getLastD []=r by simp];exact S
   . rw[World.size_setCell];exact Aa _
   . exact(BC W ⟨w.heap.size+1+1+1,0,none⟩ _ k (by show k≠w.heap.size+1+1+1;have:=R.o;omega)).trans ho)
  clear M hb am hr P r3;gi_wp2;exact HH.o _
 case done=>
  intro D _ _ W H r hD M aq an hK;have Qo:w.heap.size<=D:=by have:=R.o;omega
  have M:DJ w W [some (w.heap.size,.cell 25 (E f j g)),some (w.heap.size+1,.cell 25 (E m y t)),some (w.heap.size+1+1,.cell 25 (E none 0 0)),some (w.heap.size+1+1+1,.poly r)]:=by
   have S:=M;unfold Ku at S;rwa[show(H++[r]).getLastD []=r by simp]at S
  obtain⟨ya,yl,yc,P,r3⟩:=DJ.poly2 M (i:=3) J;have e3:=P.cell;have n2:=(DJ.cell M (i:=2) J).1;obtain⟨HC,Qh,HK⟩:=DZ (Qj.o W _ r r3 an) M.2.2 hK;clear M aq an hK r3 P Qj;gi_wp2_with(refine⟨trivial,?_⟩;gi_at_call 108;refine((BJ (n:=_)).2 HC.o).mono ?_;clear HC;rintro e U ⟨u5,rfl,ap,ah⟩;obtain⟨A,N,G,rfl⟩:=ap.form;have n5:=boxed_below n2 ah;have x0:=n5.cell;have x1:=n5.frozen)
  have Qd:(U.setCell ⟨w.heap.size+1+1,0,none⟩ (E A N G)).heap[D]?=some (.deferred (some [])):=by
   rw[BC U ⟨w.heap.size+1+1,0,none⟩ _ D (by show D≠w.heap.size+1+1;have:=R.o;omega)];exact(ah.block D (Ab.1 HK.o).1).trans HK.o
  refine⟨DI,.inl ⟨_,_,J,BQ Qd,?_⟩⟩;have q:Dd (U.setCell ⟨w.heap.size+1+1,0,none⟩ (E A N G)) (w.heap.size+1+1) A N G:=Dd.put (show Dd U (w.heap.size+1+1) none 0 0 from n5);have hg:=BR (U.setCell ⟨w.heap.size+1+1,0,none⟩ (E A N G)) D (.deferred none);have Qk:∀r,some D=some r->∃o:Obj,(U.setCell ⟨w.heap.size+1+1,0,none⟩ (E A N G)).heap[r]?=some o/\o.isCells=false:=λr e=>by cases e;exact⟨_,Qd,J⟩
  have q2:Dd _ (w.heap.size+1+1) A N G:=YP hg Qk q;have g0:=q2.cell;refine⟨s #[E A N G],by simp[results,results109,go_sem,g0],_,J,?_,?_⟩
  . exact PH hg Qk (ap.setB n5)
  . exact((Bt Qh.o ah).setCell (p:=⟨w.heap.size+1+1,0,none⟩) DH _).trans (B0 (w:=w) (Aa _) _ D _ _ Qo Qd J J)
end M3
def Cd(M:Nat)(p:Ja):Prop:=∃D:Int,D≠0/\Sm M D/\EQ D M p
section
variable {M N:Nat} {p q:Ja}
def Cd.mono(h:Cd M p)(hn:M<=N):Cd N p:=by
 obtain⟨D,d1,a,b⟩:=h;exact⟨D,d1,a.mono hn,λi=>(b i).mono hn⟩
def Cd.smq(h:Cd M p)(i:Nat):DS M (cf p i):=by
 obtain⟨D,d1,a,b⟩:=h;exact(b i).smq d1 a
def Cd.ln(h:Cd M p):Ln M p:=by
 obtain⟨D,d1,b,a⟩:=h;exact a.ln d1
def Cd.sqs(h:Cd M p)(hM:M<=1000000000):Sqs p:=Sqs.of λi=>Sq.of (h.smq i) hM
theorem Cd.pos(h:Cd M p):1<=M:=by
 obtain⟨D,d1,b,_⟩:=h;by_cases a:1<=M
 . exact a
 . exfalso
   obtain rfl:M=0:=O
   grind[Sm]
def Cd.mon(h:Cd M p)(tp:Jc p=p):Cd M (Jr p):=NM tp h.ln h.pos
def Cd.monS(h:Cd M p)(tp:Jc p=p)(hM:M<=1000000000)(i:Nat):Sq (cf p i/cf p (p.length-1)):=by
 have a:=Ln.sqs tp h.ln h.pos i;unfold Jr at a;rw[Yx,Rat.div_def,FG,<-Rat.div_def]at a;exact Sq.of a hM
def Cd.dvn(h:Cd M p)(f:Cd M q)(g:cf q (q.length-1)=1):∃D E:Int,Dvn D E E M M p q:=by
 obtain⟨D,d1,c,d⟩:=h;obtain⟨E,a,b,e⟩:=f;exact⟨D,E,d1,c,d,a,b,e,a,b,by rw[g,Rat.divInt_self' a]⟩
end
theorem MD{q:Ja}(tq:Jc q=q)(q0:q≠[])(a:Jr q=q):cf q (q.length-1)=1:=by
 have:=R8 tq q0;rwa[a]at this
def Ds(p q:Ja):Ja:=if q=[]then []else Jm p q
def pq(p:Ja):Ja:=Jr (Ds p (Ju p (Jb p)))
namespace M3
def Chn.ends{p q:Ja}{K:Nat}(c:ChOk K p q):∀(n:Nat) (a b:Ja),b.length<=n->Chn p q (Db K p q) a b->∃r,Chn p q (Db K p q) r []:=by
 intro n;induction n with
 |zero=>
  intro a b hl h;have hb:b=[]:=NI O;subst hb;exact⟨a,h⟩
 |succ n d=>
  intro a b hl h;by_cases hb:b=[]
  . subst hb;exact⟨a,h⟩
  . have e:=Xv (a:=a) h.tb hb;exact d b (X6 a b) O (Chn.next c.tp c.tq c.lp c.lq c.bd.2.2.1 h hb)
def ChOk.gcd{p q:Ja}{K:Nat}(a:ChOk K p q):Cd (Db K p q) (Ju p q):=by
 obtain⟨r,b⟩:=Chn.ends a _ _ _ (Aa _) (Chn.start a.tp a.tq a.lp a.lq a.bd.2.2.1);rw[<-b.gc,ZX];exact NM b.ta b.wa.ln a.bd.2.2.2
def pt(M:Nat)(v:I)(p:Ja)(w:F)(h:Je w v p)(tp:Jc p=p)(a:Cd M p)(hM:M<=1000000000):
 Calls X 108 #[v] w λe w'=>∃u,e=.returned u/\Je w' u (Jr p)/\Bl w w':=
 Zk v p w h (a.sqs hM) tp λi=>a.monS tp hM i
def pu(M:Nat)(a b:I)(p q:Ja)(w:F)(c:Je w a p)(hb:Je w b q)(hp:Cd M p)(hq:Cd M q)(tp:Jc p=p)(tq:Jc q=q)(g:Jr q=q)(hM:2*((p.length+3)*(M+1))<=1000000000):
 Calls X 181 #[a,b] w λe w'=>∃u v,e=.returned (.tuple #[u,v,o (decide (q≠[]))])/\Je w' u (if q=[]then []else Jm p q)/\Je w' v (if q=[]then []else J5 p q)/\Bl w w':=by
 have i:(p.length+3)*(M+1)=p.length*(M+1)+3*(M+1):=Ck _ _ _;refine oi M a b p q w c hb (hp.sqs O) hq.smq tp tq λq0=>?_;obtain⟨D,E,d⟩:=hp.dvn hq (MD tq q0 g);obtain⟨m,f⟩:=ex (p.length-(q.length-1));have j:m*(M+1)<=p.length*(M+1):=Af _ O;rw[f];exact d.sizes O
def PJ(M:Nat)(T U:I)(p q:Ja)(w:F)(z:Je w T p)(hb:Je w U q)(hp:Cd M p)(hq:Cd M q)(tp:Jc p=p)(tq:Jc q=q)(S:Jr q=q)(hM:2*((p.length+3)*(M+1))<=1000000000):
 Calls X 111 #[T,U] w λe w'=>∃u,e=.returned u/\Je w' u (Ds p q)/\Bl w w':=by
 obtain⟨j,la,k,rfl⟩:=z.form;obtain⟨l,lb,m,rfl⟩:=hb.form;have t:=(((DJ.nil w).push (.cell 25 (E j la k)) (cs:=#[E j la k]) ⟨J,J⟩).push (.cell 25 (E l lb m)) (cs:=#[E l lb m]) ⟨J,J⟩).push (.cell 25 (E none 0 0)) (cs:=#[E none 0 0]) ⟨J,J⟩;simp only[Ax]at t;obtain⟨W0,y⟩:=ex (((w.alloc (C #[E j la k] 25)).alloc (C #[E l lb m] 25)).alloc (C #[E none 0 0] 25));have D:=Z y;have a:Hid (DJ w W0 [some (w.heap.size,.cell 25 (E j la k)),some (w.heap.size+1,.cell 25 (E l lb m)),some (w.heap.size+1+1,.cell 25 (E none 0 0))]):=Z (by rw[<-y];exact t);have r:=Z (pu M _ _ p q W0 (z.below a.o.2.2) (hb.below a.o.2.2) hp hq tp tq S hM);obtain⟨bq,N⟩:=ex (decide (q≠[]));rw[N,show(if q=[]then []else Jm p q)=Ds p q from J]at r;have c0:=(a.o.cell (i:=0) J).1.cell;have c1:=(a.o.cell (i:=1) J).1.cell;have n1:=(a.o.cell (i:=2) J).1;have B:=Z a.o.2.2;clear t y z hb hp hq tp tq S hM N a;go_enter func111,ntmps111
 go_upto_region 1 with fail
 rw[D.o];clear D;go_upto_region 2 with(go_at_call 181;refine r.o.mono ?_;clear r;rintro e n ⟨u4,v4,rfl,A,P,f⟩;obtain⟨b,c,c4,rfl⟩:=A.form;obtain⟨G,R,H,rfl⟩:=P.form)
 have d:Bl n ((n.alloc (C #[E b c c4] 25)).alloc (C #[E G R H] 25)):=(Ba n _).alloc (by rw[Ax];omega) _;have nb:=(BH n 25 (E b c c4)).alloc (C #[E G R H] 25);have e5:=nb.cell;have g:=boxed_below (boxed_below n1 f) d;have x0:=g.cell;have x1:=g.frozen;have W:=Z (Mv g (x:=E b c c4) (A.below d));have V:=Z (((Bt B.o f).trans (d.mono (Ae B.o.size f.size))).setCell (p:=⟨w.heap.size+1+1,0,none⟩) DH (E b c c4));clear c0 c1 A P f nb g d;go_wp2_with fail
 exact BA (v:=s #[E b c c4]) (by simp[results,results111,go_sem,x0]) J ⟨_,J,W.o,V.o⟩
structure FrOk(K:Nat)(p:Ja):Prop where
 ch:ChOk K p (Jb p)
 le:(p.length+3)*(Db K p (Jb p)+1)*2<=1000000000
end M3
variable{cs:List I}{base t:Nat}{v:I}{W W':F}
def Tryz.infoPart:(Tryz.prog.info? 107).map (λi=>(i.zero,i.size,i.bytes))=some (some (s #[E none 0 0,K Q 0]),2,32):=by kernel_rfl
def Tryz.infoRPart:(Tryz.prog.info? 144).map (λi=>(i.zero,i.size,i.bytes))=some (some (s #[E none 0 0,K Q 0]),2,32):=by kernel_rfl
def EG(r:Bool):TypeId:=match r with|true=>107|false=>144
def Ie(r:Bool):TypeId:=match r with|true=>104|false=>137
def zP:Array I:=#[E none 0 0,.int Q 0]
def pv(r:Bool):Tryz.prog.underlying (Ie r)=some (.slice (EG r)):=by
 cases r with
 |true=>exact underlying104
 |false=>exact underlying137
def px(r:Bool):∃i,Tryz.prog.info? (EG r)=some i/\i.zero=some (s zP)/\i.size=2/\i.bytes=32:=by
 cases r with
 |true=>
  obtain⟨i,a,b,c,d⟩:=Bo Tryz.infoPart;exact⟨i,a,b,c,d⟩
 |false=>
  obtain⟨i,a,b,c,d⟩:=Bo Tryz.infoRPart;exact⟨i,a,b,c,d⟩
def I0(r:Bool)(W W':F):Prop:=∀B,B<W.heap.size->(∀cs m,W.heap[B]?≠some (C cs (EG r) m))->W'.heap[B]?=W.heap[B]?
theorem I0.at{r:Bool}(h:I0 r W W'){B:Nat}{cs:Array I}{t:TypeId}{m:Nat × Nat}(hb:W.heap[B]?=some (C cs t m))(b:t≠EG r):W'.heap[B]?=W.heap[B]?:=
 h B (Ab.1 hb).1 λa c e=>by
  grind
def py(k:IntKind)(r:Bool):IM k≠EG r:=by cases r<;>cases k<;>decide
def pz(k:Bool)(r:Bool):Hy k≠EG r:=by cases r<;>cases k<;>decide
def I0.row{r:Bool}(h:I0 r W W'){k:IntKind}{ds:m0}(t:Row k W v ds):Row k W' v ds:=by
 obtain⟨a,c,e,i,l,n,g4⟩:=t;refine⟨a,c,e,i,l,n,?_⟩;rcases g4 with g4|⟨b,off,g,f,p⟩
 . exact An g4
 . obtain⟨cs,m,hb⟩:=id f;have d:=h.at hb (py k r);refine Ap ⟨b,off,g,f.of d,λj q=>?_⟩;rw[<-p j q];simp only[World.cell?,d]
def I0.rowK{r:Bool}(h:I0 r W W'){k:Bool}{qs:Ja}(B:RowK k W v qs):RowK k W' v qs:=by
 obtain⟨a,cap,e,n,p,q,c⟩:=B;refine⟨a,cap,e,n,p,q,?_⟩;rcases c with c|⟨b,m,cs,hb,w⟩
 . exact An c
 . refine Ap ⟨b,m,cs,(h.at hb (pz k r)).trans hb,λj A=>?_⟩;obtain⟨x,y,z,u,d,f,i,l,t⟩:=w j A;exact⟨x,y,z,u,d,f,i,l,t.keep λ_ _ _ g=>h.row g⟩
def IE(r:Bool)(W:F)(cs:List I)(L:List (Ja × Nat)):Prop:=
 cs.length=L.length*2/\∀j p t,L[j]?=some (p,t)->∃x,cs[j*2]?=some x/\cs[j*2+1]?=some (.int Q (t:Int))/\RowK r W x p
theorem IE.keep{r:Bool}{L:List (Ja × Nat)}(h:IE r W cs L)(hk:∀v qs,RowK r W v qs->RowK r W' v qs):IE r W' cs L:=by
 refine⟨h.1,λj p t e=>?_⟩;obtain⟨x,a,b,c⟩:=h.2 j p t e;grind
def IE.below{r:Bool}{W W':F}{cs:List I}{L:List (Ja × Nat)}(h:IE r W cs L)(hb:Bl W W'):IE r W' cs L:=h.keep λ_ _ g=>g.below hb
theorem IE.snoc{r:Bool}{L:List (Ja × Nat)}(h:IE r W cs L){x:I}{p:Ja}(f:RowK r W x p):IE r W (cs++[x,K Q (t:Int)]) (L++[(p,t)]):=by
 refine⟨by simp[h.1];omega,λj g t' e=>?_⟩;by_cases c:j<L.length
 . rw[CY c]at e;obtain⟨y,i,k,l⟩:=h.2 j g t' e;grind
 . rw[Cg O]at e;obtain⟨d,b⟩:=ex (j-L.length);rw[b]at e;cases d with
   |succ d=>simp at e
   |zero=>
    simp at e;obtain⟨rfl,rfl⟩:=e;have a:j=L.length:=O
    subst a;refine⟨x,?_,?_,f⟩
    . rw[Cg (by have:=h.1;omega),h.1,Cz];rfl
    . rw[Cg (by have:=h.1;omega),h.1,show L.length*2+1-L.length*2=1 by omega];rfl
def EL(r:Bool)(base:Nat)(W:F)(v:I)(L:List (Ja × Nat)):Prop:=
 (v=E none 0 0/\L=[])\/∃g cap cur,v=E (some ⟨g,0,none⟩) L.length cap/\base<=g/\W.heap[g]?=some (C cur (EG r) (0,0))/\L.length<=cap/\cap<=maxLen/\cur.size=cap*2/\IE r W (cur.toList.take (L.length*2)) L
theorem EL.nil(r:Bool)(base:Nat)(W:F):EL r base W (E none 0 0) []:=An ⟨J,J⟩
def EL.below{r:Bool}{base:Nat}{W W':F}{v:I}{L:List (Ja × Nat)}(h:EL r base W v L)(hb:Bl W W'):EL r base W' v L:=by
 rcases h with h|⟨g,cap,cur,b,c,a,d,e,f,i⟩
 . exact An h
 . exact Ap ⟨g,cap,cur,b,c,(hb.block g (Ab.1 a).1).trans a,d,e,f,i.below hb⟩
theorem EL.form{r:Bool}{L:List (Ja × Nat)}(h:EL r base W v L):∃a c,v=E a L.length c/\L.length<=c/\c<=maxLen:=by
 rcases h with⟨rfl,rfl⟩|⟨g,cap,cur,rfl,_,_,b,d,_⟩
 . exact⟨none,0,J,DI,by unfold maxLen;omega⟩
 grind
theorem EL.set{r:Bool}{L:List (Ja × Nat)}(h:EL r base W v L){B:Nat}{a:om}{l c:Nat}(b:Boxed W B 25 (E a l c)){u:I}(hk:∀v qs,RowK r W v qs->RowK r (W.setCell ⟨B,0,none⟩ u) v qs):EL r base (W.setCell ⟨B,0,none⟩ u) v L:=by
 rcases h with h|⟨g,cap,cur,f,i,j,k,m,n,p⟩
 . exact An h
 . have d:g≠B:=λe=>by
    subst e;have hb:W.heap[g]?=some (C #[E a l c] 25 (0,0)):=b;grind
   exact Ap ⟨g,cap,cur,f,i,(BC W ⟨B,0,none⟩ u g d).trans j,k,m,n,p.keep hk⟩
theorem p5(r:Bool)(base:Nat)(W:F)(v:I)(L:List (Ja × Nat))(h:EL r base W v L){a:om}{l c:Nat}{p:Ja}(hx:RowK r W (E a l c) p)(hl:L.length+1<=1099511627776)(M:base<=W.heap.size):
 ∃v' w',(Builtin.append_ #[Ie r,Ie r] (Ie r) #[v,E (some ⟨W.heap.size,0,none⟩) 1 1]).run X (W.alloc (C #[E a l c,K Q (t:Int)] (EG r)))=.ok v' w'/\EL r base w' v' (L++[(p,t)])/\I0 r W w'/\(∀n w0,n<=base->Below n w0 W->Below n w0 w')/\W.heap.size<=w'.heap.size:=by
 obtain⟨i,hi,hz,w,U⟩:=px r;have N:=pv r;have d:Bl W (W.alloc (C #[E a l c,K Q (t:Int)] (EG r))):=Ba W _;obtain⟨b,T⟩:=ex (W.alloc (C #[E a l c,K Q (t:Int)] (EG r)));have aj:b.heap[W.heap.size]?=some (C #[E a l c,K Q (t:Int)] (EG r) (0,0)):=by rw[<-T];exact BD W _
 rw[T]at d ⊢;have R:=hx.below d;have y:∀j c',[Value.slice a l c,K Q (t:Int)][j]?=some c'->b.cell? ((⟨W.heap.size,0,none⟩:Addr).add j)=some c':=λj c' u=>by
  grind[YG,cell_of]
 have Qf:∀c'∈[Value.slice a l c,K Q (t:Int)],c'.oneCell'=true:=λc' u=>by
  simp at u;rcases u with rfl|rfl<;>rfl
 have Ql:(Value.agg zP).cells=zP:=rfl;have am:zP.size=2:=rfl;have grown:∀(cs:List I) (q:Nat) (m:Nat),m=L.length+1->IE r b (cs++[E a l c,K Q (t:Int)]) (L++[(p,t)])->cs.length=L.length*2->
  EL r base (b.drew.alloc (C (cs.toArray++[Value.slice a l c,K Q (t:Int)].toArray++Builtin.zeroCells zP (grownCap b m q (EG r)-m)) (EG r))) (E (some ⟨b.heap.size,0,none⟩) m (grownCap b m q (EG r))) (L++[(p,t)]):=by
  intro cs q m hm u D;subst hm;have ai:=grownCap_ge b (L.length+1) q (EG r);have Qn:=grownCap_le_maxLen b (L.length+1) q (EG r) (by unfold maxLen;omega);have Qo:Bl b (b.drew.alloc (C (cs.toArray++[Value.slice a l c,K Q (t:Int)].toArray++Builtin.zeroCells zP (grownCap b (L.length+1) q (EG r)-(L.length+1))) (EG r))):=((BB _ b).drew).alloc (Aa _) _;refine Ap ⟨b.heap.size,_,_,DH,Ae M d.size,BD b.drew _,DH,Qn,?_,?_⟩
  . grind[size_zeroCells,AX]
  . have e:(cs.toArray++[Value.slice a l c,K Q (t:Int)].toArray++Builtin.zeroCells zP (grownCap b (L.length+1) q (EG r)-(L.length+1))).toList.take ((L++[(p,t)]).length*2)=cs++[E a l c,K Q (t:Int)]:=by
     simp only[Array.toList_append];have z:(L++[(p,t)]).length*2=(cs++[Value.slice a l c,K Q (t:Int)]).length:=by simp;omega
     rw[z];exact List.take_left
    rw[e];exact u.below Qo
 have fin:∀o,I0 r W (b.drew.alloc o)/\(∀n w0,n<=base->Below n w0 W->Below n w0 (b.drew.alloc o))/\W.heap.size<=(b.drew.alloc o).heap.size:=λo=>by
  have A:Bl W (b.drew.alloc o):=(d.drew).alloc (by exact d.size) _;exact⟨λB x _=>A.block B x,λn w0 hn hb=>hb.trans (A.mono (Ae hn M)),A.size⟩
 rcases h with⟨rfl,rfl⟩|⟨g,cap,cur,rfl,S,G,h4,h5,h6,h7⟩
 . have k:=run_append_nil (P:=X) b (Ie r) (Ie r) (EG r) i _ N hi hz ⟨W.heap.size,0,none⟩ 1 1 [E a l c,K Q (t:Int)] (by rw[w];rfl) y O O (by rw[U];omega);rw[Ql]at k;refine⟨_,_,k,?_,fin _⟩;have:=grown [] 0 1 J (by rw[As];exact IE.snoc (cs:=[]) (L:=[]) ⟨J,λj p t e=>by simp at e⟩ R) J;simpa using this
 . have H:b.heap[g]?=some (C cur (EG r) (0,0)):=(d.block g (Ab.1 G).1).trans G;have D:(cur.toList.take (L.length*2)).length=L.length*2:=by rw[AG];have h0:cur.toList.length=cur.size:=Array.length_toList;omega
   have Qk:=(h7.below d).snoc (t:=t) R;by_cases ah:L.length+1<=cap
   . have k:=run_append_room (P:=X) b (Ie r) (Ie r) (EG r) i N hi g L.length cap cur H ⟨W.heap.size,0,none⟩ 1 1 [E a l c,K Q (t:Int)] (by rw[w];rfl) y Qf ah (by rw[w];simp;omega);rw[w]at k;obtain⟨f,V⟩:=ex ((cur.toList.take (L.length*2)++[Value.slice a l c,K Q (t:Int)]++cur.toList.drop (L.length*2+[Value.slice a l c,K Q (t:Int)].length)).toArray);rw[V]at k;have Qm:=setRow_heap b g cur f (EG r) (0,0) H;have Qc:I0 r b (b.setRow g f):=λB x hn=>setRow_other b g B f λe=>hn cur (0,0) (by rw[e];exact H);have Qe:b.heap.size<=(b.setRow g f).heap.size:=(below_setRow (B:=0) (BB _ b) (Ay _) f).size;refine⟨_,_,k,?_,λB x hn=>?_,λn w0 hn hb=>below_setRow (hb.trans (d.mono (Ae hn M))) (Ae hn S) f,Ae d.size Qe⟩
     . refine Ap ⟨g,cap,f,DH,S,Qm,DH,h5,?_,?_⟩
       . grind
       . have e:f.toList.take ((L++[(p,t)]).length*2)=cur.toList.take (L.length*2)++[E a l c,K Q (t:Int)]:=by
          rw[<-V];have z:(L++[(p,t)]).length*2=(cur.toList.take (L.length*2)++[Value.slice a l c,K Q (t:Int)]).length:=by simp[D];omega
          rw[z];exact List.take_left
         rw[e];exact Qk.keep λ_ _ g=>Qc.rowK g
     . have Qj:B≠g:=λe=>hn cur (0,0) (by rw[e];exact G);exact(setRow_other b g B f Qj).trans (d.block B x)
   . have ae:∀j c',(cur.toList.take (L.length*2))[j]?=some c'->b.cell? ((⟨g,0,none⟩:Addr).add j)=some c':=λj c' u=>by
      grind[YG,cell_of]
     have k:=run_append_grow (P:=X) b (Ie r) (Ie r) (EG r) i _ N hi hz ⟨g,0,none⟩ L.length cap (cur.toList.take (L.length*2)) (by rw[w];exact D) ae ⟨W.heap.size,0,none⟩ 1 1 [E a l c,K Q (t:Int)] (by rw[w];rfl) y O O (by rw[U];exact growslice_fits O O);grind
namespace M3
def DJ.farP{w W W':F}{bs:List (Option (Nat × Dat))}{r:Bool}(M:DJ w W bs)(a:I0 r W W')(hb:Bl w W')(e:∀(i:Nat) B d,bs[i]?=some (some (B,d))->d.ty≠EG r):DJ w W' bs:=by
 refine⟨λi B d h=>?_,M.2.1,hb⟩;obtain⟨⟨cs,b,c⟩,f⟩:=M.1 i B d h;exact⟨⟨cs,(a.at b (e i B d h)).trans b,c.keep (λ_ _ _ g=>a.row g) (Ap λ_ _ g=>a.rowK g)⟩,f⟩
end M3

