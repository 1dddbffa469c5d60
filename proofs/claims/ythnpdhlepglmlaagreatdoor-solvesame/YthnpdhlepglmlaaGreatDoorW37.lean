import Derived.Test.YthnpdhlepglmlaaGreatDoorW36
set_option linter.all false
open Go.Value renaming slice->E,agg->s,int->K,pointer->L,bool->o
open Go renaming World->F,Value->I
open Go.Proofs.Tryz renaming prog->X
open Go.Obj renaming cells->C
open Go.IntKind renaming i64->Q
set_option maxRecDepth 99999
set_option maxHeartbeats 0
namespace Go.Proofs.YthnpdhlepglmlaaGreatDoor
open Proofs.Tryz
open Go.RowKit Go.Shelf
attribute [local go_sem] Oper.semAt_some
def Dv(a b:List Rat):Prop:=∃c:List Rat,∀x,ev b x=ev a x*ev c x
def DP(a b:List Rat):Prop:=∃u v:List Rat,∀x,ev u x*ev a x+ev v x*ev b x=1
section
variable {a b c d p q:List Rat}
theorem Dv.refl(a:List Rat):Dv a a:=⟨[1],λx=>by simp[ev];grind⟩
theorem Dv.trans(h:Dv a b)(d:Dv b c):Dv a c:=by
 obtain⟨u,e⟩:=h;obtain⟨v,hv⟩:=d;exact⟨Ji u v,λx=>by rw[hv,e,Jd];grind⟩
theorem Dv.zero(a:List Rat):Dv a []:=⟨[],λx=>by simp[ev]⟩
theorem Dv.mul(h:Dv a b)(c:List Rat):Dv a (Ji b c):=by
 obtain⟨u,d⟩:=h;exact⟨Ji u c,λx=>by rw[Jd,d,Jd];grind⟩
theorem Dv.mul'(h:Dv a b)(c:List Rat):Dv a (Ji c b):=by
 obtain⟨u,d⟩:=h;exact⟨Ji u c,λx=>by rw[Jd,d,Jd];grind⟩
theorem Dv.comb(h:Dv d a)(e:Dv d b)(u v:List Rat)(f:∀x,ev c x=ev u x*ev a x+ev v x*ev b x):Dv d c:=by
 obtain⟨s,hs⟩:=h;obtain⟨t,g⟩:=e;exact⟨YK (Ji u s) (Ji v t),λx=>by rw[f,hs,g,Yg,Jd,Jd];grind⟩
theorem Dv.of_sc{k:Rat}(hk:k≠0)(h:Dv a b):Dv (DM k a) b:=by
 obtain⟨u,c⟩:=h;have e:(1/k)*k=1:=Ak hk;exact⟨DM (1/k) u,λx=>by rw[c,Jp,Jp];grind⟩
theorem Dv.sc(h:Dv a b)(k:Rat):Dv a (DM k b):=by
 obtain⟨u,c⟩:=h;exact⟨DM k u,λx=>by rw[Jp,c,Jp];grind⟩
theorem DP.symm(h:DP a b):DP b a:=by
 obtain⟨u,v,h⟩:=h;exact⟨v,u,λx=>by rw[<-h x];grind⟩
theorem DP.of_dv(h:DP a b)(c:Dv d a):DP d b:=by
 obtain⟨u,v,h⟩:=h;obtain⟨s,hs⟩:=c;exact⟨Ji u s,v,λx=>by rw[<-h x,hs x,Jd];grind⟩
theorem DP.dv(h:DP a b)(d:Dv a (Ji b c)):Dv a c:=by
 obtain⟨u,v,h⟩:=h;obtain⟨k,hk⟩:=d;refine⟨YK (Ji u c) (Ji v k),λx=>?_⟩;grind[Jd,Yg]
theorem DP.mul(h:DP a b)(d:DP a c):DP a (Ji b c):=by
 obtain⟨u,v,h⟩:=h;obtain⟨s,t,d⟩:=d;refine⟨YK u (Ji (Ji v b) s),Ji v t,λx=>?_⟩;grind[Yg,Jd]
theorem DP.unit(h:DP a b)(c:Dv a b):Dv a [1]:=by
 obtain⟨u,v,h⟩:=h;obtain⟨s,hs⟩:=c;refine⟨YK u (Ji v s),λx=>?_⟩;grind[Yg,Jd,ev]
end
theorem Kx{p:List Rat}(x:Rat):ev (Jr p) x=ev p x*(1/cf p (p.length-1)):=Jp _ _ _
theorem oR:∀(n:Nat) (p q:List Rat),Jc p=p->Jc q=q->q.length<=n->Dv (EX n p q) p/\Dv (EX n p q) q/\∃u v:List Rat,∀x,ev (EX n p q) x=ev u x*ev p x+ev v x*ev q x:=by
 intro n;induction n with
 |zero=>
  intro p q hp hq hl;have a:q=[]:=Mg O;subst a;rw[EX];refine⟨?_,Dv.zero _,[1/cf p (p.length-1)],[],λx=>by rw[Kx];simp[ev];grind⟩;by_cases b:p=[]
  . subst b;exact Dv.refl _
  . exact Dv.of_sc (Le (Js hp b)) (Dv.refl _)
 |succ n g=>
  intro p q hp hq hl;by_cases a:q=[]
  . subst a;simp only[EX,BE];refine⟨?_,Dv.zero _,[1/cf p (p.length-1)],[],λx=>by rw[Kx];simp[ev];grind⟩;by_cases b:p=[]
    . subst b;exact Dv.refl _
    . exact Dv.of_sc (Le (Js hp b)) (Dv.refl _)
  . simp only[EX,BD a];obtain⟨d,j,k,i⟩:=Y9 p q hq a;obtain⟨c,e,u,v,f⟩:=g q (J6 p q) hq i O;refine⟨c.comb e (Jm p q) [1] (λx=>by rw[d x];simp[ev];grind),c,v,JR u (Ji v (Jm p q)),λx=>?_⟩;rw[f x,d x,XA,Jd];grind
section
variable {p q d:List Rat}
theorem Yc(hp:Jc p=p)(hq:Jc q=q):Dv (Jt p q) p/\Dv (Jt p q) q/\∃u v:List Rat,∀x,ev (Jt p q) x=ev u x*ev p x+ev v x*ev q x:=oR _ p q hp hq (Aa _)
theorem Iv(hp:Jc p=p)(hq:Jc q=q)(a:Dv d p)(b:Dv d q):Dv d (Jt p q):=by
 obtain⟨_,_,u,v,h⟩:=Yc hp hq;exact a.comb b u v h
def oS:∀(n:Nat) (p q:List Rat),Jc p=p->Jc q=q->q.length<=n->Jr (EX n p q)=EX n p q:=by
 intro n;induction n with
 |zero=>intro p q hp _ _;exact It hp
 |succ n b=>
  intro p q hp hq hl;rw[EX];split
  . exact It hp
  . rename_i a;have:=(Y9 p q hq a).2.1;exact b _ _ hq (XJ _ _) O
theorem YI(hp:Jc p=p)(hq:Jc q=q):Jr (Jt p q)=Jt p q:=oS _ p q hp hq (Aa _)
end
theorem XF{p:List Rat}(hp:Jc p=p)(h:∀x,ev p x=0):p=[]:=YL hp J (λx=>by rw[h x];rfl)
def Dv.some{a b:List Rat}(hb:Jc b=b)(h:Dv a b):∃c,Jc c=c/\b=Ji a c:=by
 obtain⟨c,d⟩:=h;exact⟨Jc c,Yp _,YL hb (Jn _ _) λx=>by rw[Jd,Hi,d]⟩
theorem YM(a:List Rat):Ji a []=[]:=XF (Jn _ _) λx=>by rw[Jd];simp[ev]
theorem Dv.anti{a b:List Rat}(n:Jc a=a)(hb:Jc b=b)(h:Dv a b)(r:Dv b a):∃k:Rat,k≠0/\b=DM k a:=by
 obtain⟨c,p,e⟩:=h.some hb;obtain⟨d,t,i⟩:=r.some n;by_cases g:a=[]
 . refine⟨1,DJ,?_⟩;rw[e,g];rfl
 . have m:b≠[]:=λf=>g (by rw[i,f];rfl);have l:c≠[]:=λf=>m (by rw[e,f];exact YM _);have j:d≠[]:=λf=>g (by rw[i,f];exact YM _);have l1:=JC n p g l;have l2:=JC hb t m j;rw[<-e]at l1;rw[<-i]at l2;have p1:0<c.length:=Ae.2 l;have u:0<d.length:=Ae.2 j;have v:0<a.length:=Ae.2 g;have q:c.length=1:=O
   match c,q with
   |[k],_=>
    have hk:k≠0:=by
     have:=Js p DH;simpa[Xm]using this
    refine⟨k,hk,YL hb (JH _ _) λx=>?_⟩;grind[Jd,Jp,ev]
theorem Dv.eq{a b:List Rat}(c:Jc a=a)(hb:Jc b=b)(ma:Jr a=a)(mb:Jr b=b)(h:Dv a b)(d:Dv b a):a=b:=by
 obtain⟨k,hk,e⟩:=h.anti c hb d;rw[<-mb,e,Mh hk c,ma]
theorem JK{p g:List Rat}(hg:Jc g=g)(a:g≠[])(h:Dv g p):J6 p g=[]/\∀x,ev p x=ev g x*ev (Jm p g) x:=by
 obtain⟨c,b⟩:=h;have d:=OV (p:=p) (u:=Jc c) (v:=[]) hg a (Yp _) J (Ae.2 a) (λx=>by rw[b,Hi];simp[ev];grind);grind[Hi]
theorem Y8{g u v:List Rat}(hg:Jc g=g)(c:g≠[])(h:∀x,ev g x*ev u x=ev g x*ev v x):∀x,ev u x=ev v x:=by
 have d:Ji g (JR u v)=[]:=XF (Jn _ _) λx=>by rw[Jd,XA];have:=h x;grind
 have a:JR u v=[]:=by
  by_cases b:JR u v=[]
  . exact b
  . grind[JC,Yj,Ae]
 intro x;have e:=congrArg (λr=>ev r x) a;grind[XA,ev]
theorem Ob{p q:List Rat}(hp:Jc p=p)(hq:Jc q=q)(a:Jt p q≠[]):DP (Jm p (Jt p q)) (Jm q (Jt p q)):=by
 obtain⟨c,d,u,v,i⟩:=Yc hp hq;have b:=JE p q;have f:=(JK b a c).2;have g:=(JK b a d).2;refine⟨u,v,?_⟩;have e:=Y8 (u:=YK (Ji u (Jm p (Jt p q))) (Ji v (Jm q (Jt p q)))) (v:=[1]) b a (λx=>by
  grind[Yg,Jd,ev])
 intro x;have j:=e x;grind[Yg,Jd,ev]
theorem Yd{p q:List Rat}(hp:Jc p=p)(hq:Jc q=q)(h:p≠[]\/q≠[]):Jt p q≠[]:=λe=>by
 obtain⟨a,b,_⟩:=Yc hp hq;rw[e]at a b;obtain⟨c,f⟩:=a;obtain⟨d,g⟩:=b;grind[XF,ev]
section
variable {a b c d e f g k p q r u w y z R:List Rat}
theorem Yt(p q:List Rat)(x:Rat):ev (Jb (Ji p q)) x=ev (Jb p) x*ev q x+ev p x*ev (Jb q) x:=by
 rw[TB,Yg,Jd,Jd]
theorem XM(p:List Rat)(i:Nat):cf (Jb p) i=cf p (i+1)*(((i+1:Nat):Int):Rat):=by
 unfold Jb;rw[Yw,LI];rfl
theorem Y6(a:p≠[]):(Jb p).length<p.length:=by
 have b:0<p.length:=Ae.2 a;have c:(Jb p).length<=p.length-1:=Ir (Jv _) λi hi=>by
  rw[XM,Yn O,AZ]
 omega
theorem Mk(hp:Jc p=p)(h:Jb p=[]):p.length<=1:=by
 refine Ir hp λi hi=>?_;obtain⟨j,rfl⟩:∃j,i=j+1:=⟨i-1,O⟩;have b:=XM p j;rw[h,Xu]at b;rcases Cx.1 b.symm with a|a
 . exact a
 . exfalso
   have c:((j+1:Nat):Int)=0:=by exact_mod_cast a
   omega
theorem Lg(hp:Jc p=p)(a:p≠[])(hl:p.length<=1):Dv p [1]:=by
 have b:0<p.length:=Ae.2 a;match p,hl,hp,a with
 |[c],_,hp,_=>
  have d:c≠0:=by
   have:=Js hp DH;simpa[Xm]using this
  exact⟨[1/c],λx=>by simp[ev];grind⟩
theorem Ml(a:Jc u=u)(b:u≠[])(h:Dv u (Jb u)):Dv u [1]:=by
 refine Lg a b (Mk a ?_);obtain⟨c,d,e⟩:=h.some (Jv u);grind[YM,JC,Y6,Ae]
theorem Yu(c:Jc a=a)(hb:Jc b=b)(d:a≠[])(f:b≠[]):Ji a b≠[]:=λe=>by
 grind[JC,Ae]
theorem oT(A:Jc d=d)(r:d≠[])(h:Dv d (Ji (Jb d) f)):∀(n:Nat) (u:List Rat),Jc u=u->d.length-u.length<=n->Dv u d->DP u f->Dv u [1]:=by
 intro n;induction n with
 |zero=>
  intro u b hl p j;obtain⟨m,l,e⟩:=p.some A;have a:u≠[]:=λg=>r (by rw[e,g];rfl);have w:m≠[]:=λg=>r (by rw[e,g];exact YM _);have l1:=JC b l a w;rw[<-e]at l1;have p3:0<u.length:=Ae.2 a;have P:m.length<=1:=O
  have R:=Lg l w P;have N:Dv d u:=by
   obtain⟨c,q⟩:=R;refine⟨c,λx=>?_⟩;have V:=q x;rw[e,Jd,Rat.mul_assoc,<-V];simp[ev];grind
  have i:Dv u (Ji f (Jb d)):=by
   obtain⟨c,q⟩:=p.trans h;exact⟨c,λx=>by rw[<-q,Jd,Jd];grind⟩
  have W:=j.dv i;refine Ml b a ?_;obtain⟨k,hk,S⟩:=N.anti A b p;have y:Jb u=DM k (Jb d):=by
   refine YL (Jv _) (JH _ _) λx=>?_;rw[S,Jp];have z:DM k d=Ji d [k]:=YL (JH _ _) (Jn _ _) λx=>by rw[Jp,Jd];simp[ev];grind
   rw[z,Yt];have G:ev (Jb [k]) x=0:=by rw[X6];simp[dv,ev];grind
   rw[G];simp[ev];grind
  rw[y];exact W.sc k
 |succ n ih=>
  intro u b hl p j;obtain⟨m,l,e⟩:=p.some A;have a:u≠[]:=λg=>r (by rw[e,g];rfl);have w:m≠[]:=λg=>r (by rw[e,g];exact YM _);obtain⟨T,U,s,t,g3⟩:=Yc b l;have D:=Yd b l (Or.inl a);have B:=JE u m;by_cases hg:(Jt u m).length<=1
  . obtain⟨c,q⟩:=Lg B D hg;have M:DP u m:=⟨Ji s c,Ji t c,λx=>by
     grind[Jd,ev]⟩
    have i:Dv u (Ji f (Ji m (Jb u))):=by
     obtain⟨v,hv⟩:=h;refine⟨JR (Ji m v) (Ji f (Jb m)),λx=>?_⟩;have y:=hv x;have z:=Yt u m x;rw[<-e]at z;have G:ev d x=ev u x*ev m x:=by rw[e,Jd]
     rw[Jd]at y;rw[Jd,Jd,XA,Jd,Jd];grind
    exact Ml b a (M.dv (j.dv i))
  . have H:Dv (Ji u (Jt u m)) d:=by
     obtain⟨v,hv⟩:=U;exact⟨v,λx=>by rw[e,Jd,hv,Jd];grind⟩
    have l1:=JC b B a D;have p3:0<u.length:=Ae.2 a;have i:=ih (Ji u (Jt u m)) (Jn _ _) O H (j.symm.mul (j.of_dv T).symm).symm;obtain⟨v,hv⟩:=i;exact⟨Ji (Jt u m) v,λx=>by rw[hv,Jd,Jd];grind⟩
structure Yun(R w y:List Rat):Prop where
 tR:Jc R=R
 R0:R≠[]
 tw:Jc w=w
 w0:w≠[]
 mw:Jr w=w
 ty:Jc y=y
 eq:∀x,ev y x*ev R x=ev w x*ev (Jb R) x
 cop:DP w y
theorem Yun.dv(h:Yun R w y):Dv w R:=by
 refine h.cop.dv ⟨Jb R,λx=>?_⟩;rw[Jd,h.eq]
theorem Mm(f:Jc w=w)(w0:w≠[])(mw:Jr w=w)(hg:Jc g=g)(m:Jr g=g)(h:Dv g w):Jr (Jm w g)=Jm w g/\g≠[]/\Jm w g≠[]/\w=Ji g (Jm w g):=by
 have g0:g≠[]:=λe=>w0 (by
  obtain⟨c,k⟩:=h;grind[XF,ev])
 have e:=(JK hg g0 h).2;have a:w=Ji g (Jm w g):=YL f (Jn _ _) λx=>by rw[Jd,<-e]
 have q0:Jm w g≠[]:=λb=>w0 (by rw[a,b];exact YM _);refine⟨?_,g0,q0,a⟩;have l:=JC hg (YG w g) g0 q0;have p1:0<g.length:=Ae.2 g0;have i:0<(Jm w g).length:=Ae.2 q0;have j:cf w (w.length-1)=cf g (g.length-1)*cf (Jm w g) ((Jm w g).length-1):=by
  obtain⟨Q,d⟩:=ex (Jm w g);rw[d]at a l i ⊢;rw[a,l,show g.length+Q.length-1-1=(g.length-1)+(Q.length-1)by omega];unfold Ji;rw[Yw];exact PL g Q (g.length-1) (Q.length-1) O O
 grind[RI,Jr,KR,YG]
theorem Yun.step(h:Yun R w y):Jt w (Jm R w)=Jm w (Jt w (JR y (Jb w)))/\Jm w (Jt w (Jm R w))=Jt w (JR y (Jb w))/\
 Yun (Jm R w) (Jm w (Jt w (JR y (Jb w)))) (Jm (JR y (Jb w)) (Jt w (JR y (Jb w))))/\R=Ji w (Jm R w)/\
 (∀x,ev (JR y (Jb w)) x*ev (Jm R w) x=ev w x*ev (Jb (Jm R w)) x)/\w=Ji (Jt w (JR y (Jb w))) (Jm w (Jt w (JR y (Jb w)))):=by
 obtain⟨r,W⟩:=ex (Jm R w);obtain⟨z,hz⟩:=ex (JR y (Jb w));have tr:Jc r=r:=by rw[<-W];exact YG _ _
 have tz:Jc z=z:=by rw[<-hz];exact Yj _ _
 have eR:∀x,ev R x=ev w x*ev r x:=by rw[<-W];exact(JK h.tw h.w0 h.dv).2
 have Qf:R=Ji w r:=YL h.tR (Jn _ _) λx=>by rw[Jd,eR]
 have r0:r≠[]:=λe=>h.R0 (by rw[Qf,e];exact YM _);have Qt:∀x,ev z x*ev r x=ev w x*ev (Jb r) x:=by
  have a:=Y8 (g:=w) (u:=Ji z r) (v:=Ji w (Jb r)) h.tw h.w0 (λx=>by
   have b:=h.eq x;grind[Yt,Jd,XA])
  intro x;have b:=a x;rwa[Jd,Jd]at b
 have N:=Jv r;obtain⟨d,m⟩:=ex (Jt r (Jb r));have q:Jc d=d:=by rw[<-m];exact JE _ _
 have d0:d≠[]:=by rw[<-m];exact Yd tr N (Or.inl r0)
 obtain⟨g1,g2,_⟩:=Yc tr N;rw[m]at g1 g2;obtain⟨f,V⟩:=ex (Jm r d);obtain⟨e,he⟩:=ex (Jm (Jb r) d);have B:∀x,ev r x=ev d x*ev f x:=by rw[<-V];exact(JK q d0 g1).2
 have ee:∀x,ev (Jb r) x=ev d x*ev e x:=by rw[<-he];exact(JK q d0 g2).2
 have tf:Jc f=f:=by rw[<-V];exact YG _ _
 have f0:f≠[]:=λS=>r0 (XF tr λx=>by rw[B,S];simp[ev]);have Qg:DP f e:=by
  have:=Ob tr N (by rw[m];exact d0);rwa[m,V,he]at this
 have Qo:∀x,ev z x*ev f x=ev w x*ev e x:=by
  have a:=Y8 (g:=d) (u:=Ji z f) (v:=Ji w e) q d0 (λx=>by
   grind[Jd])
  intro x;have b:=a x;rwa[Jd,Jd]at b
 have Qe:Dv f w:=Qg.dv (⟨z,λx=>by rw[Jd];have:=Qo x;grind⟩);obtain⟨k,tk,T⟩:=Qe.some h.tw;have A:∀x,ev w x=ev f x*ev k x:=λx=>by rw[T,Jd]
 have M:∀x,ev z x=ev k x*ev e x:=by
  have a:=Y8 (g:=f) (u:=z) (v:=Ji k e) tf f0 (λx=>by
   grind[Jd])
  intro x;have b:=a x;rwa[Jd]at b
 obtain⟨P,i⟩:=ex (Jt w z);have j:Jc P=P:=by rw[<-i];exact JE _ _
 have mP:Jr P=P:=by rw[<-i];exact YI h.tw tz
 obtain⟨p1,p2,_⟩:=Yc h.tw tz;have Qm:Dv k P:=by rw[<-i];exact Iv h.tw tz ⟨f,λx=>by rw[A];grind⟩ ⟨e,M⟩
 rw[i]at p1 p2;have Qk:Dv P k:=by
  obtain⟨u,v,p⟩:=Qg;refine p1.comb p2 u v λx=>?_;have a:=p x;rw[A,M];grind
 obtain⟨m1,l,G,eW⟩:=Mm h.tw h.w0 h.mw j mP p1;have zP:=(JK j l p2).2;have wP:=(JK j l p1).2;have Qj:DP k y:=h.cop.of_dv ⟨f,λx=>by rw[A];grind⟩;have Qp:DP k f:=by
  obtain⟨u,v,p⟩:=Qj;refine⟨YK u (Ji v (YK e (Jb f))),Ji v (Jb k),λx=>?_⟩;have a:=p x;have b:ev y x=ev z x+ev (Jb w) x:=by rw[<-hz,XA];grind
  have D:=Yt f k x;rw[<-T]at D;have h4:=M x;rw[Yg,Jd,Jd,Yg];grind
 have Qh:Dv d (Ji (Jb d) f):=by
  refine⟨JR e (Jb f),λx=>?_⟩;have a:r=Ji d f:=YL tr (Jn _ _) λx=>by rw[Jd,B]
  have b:=Yt d f x;rw[<-a,ee]at b;rw[Jd,XA];grind
 have Qn:DP k d:=by
  obtain⟨q1,q2,s,t,q3⟩:=Yc tk q;obtain⟨c,U⟩:=oT q d0 Qh (d.length) (Jt k d) (JE _ _) O q2 (Qp.of_dv q1);refine⟨Ji s c,Ji t c,λx=>?_⟩;have a:=U x;have b:=q3 x;have D:ev [1] x=1:=by simp[ev];grind
  rw[D]at a;rw[Jd,Jd];grind
 obtain⟨c1,c2,s,t,c3⟩:=Yc h.tw tr;have Qi:Dv f (Jt w r):=Iv h.tw tr Qe ⟨d,λx=>by rw[B];grind⟩;have Qr:Dv (Jt w r) f:=by
  obtain⟨u,v,p⟩:=Qn;refine c1.comb c2 u v λx=>?_;have a:=p x;rw[A,B];grind
 obtain⟨n,hn⟩:=ex (Jm w P);rw[hn]at m1 G eW wP;have H:Jc n=n:=by rw[<-hn];exact YG _ _
 have Qs:Dv f n:=by
  obtain⟨c,U⟩:=Qk;refine⟨c,λx=>?_⟩;have a:=Y8 (g:=P) (u:=n) (v:=Ji f c) j l (λx=>by
   grind[Jd])
  have b:=a x;rwa[Jd]at b
 have Ql:Dv n f:=by
  have k0:k≠[]:=λS=>h.w0 (by rw[T,S];exact YM _);obtain⟨c,U⟩:=Qm;refine⟨c,λx=>?_⟩;have a:=Y8 (g:=k) (u:=f) (v:=Ji n c) tk k0 (λx=>by
   grind[Jd])
  have b:=a x;rwa[Jd]at b
 have hG:Jt w r=n:=Dv.eq (JE _ _) H (YI h.tw tr) m1 (Qr.trans Qs) (Ql.trans Qi);have Qq:Dv n w:=⟨P,λx=>by rw[wP];grind⟩;have Qa:Jm w n=P:=by
  refine YL (YG _ _) j λx=>?_;have a:=(JK H G Qq).2;refine Y8 (g:=n) (u:=Jm w n) (v:=P) H G (λx=>?_) x;have b:=a x;have D:=wP x;grind
 rw[W,hz,i,hn];refine⟨hG,by rw[hG];exact Qa,⟨tr,r0,H,G,m1,YG _ _,λx=>?_,?_⟩,Qf,Qt,eW⟩
 . refine(Y8 (g:=P) (u:=Ji (Jm z P) r) (v:=Ji n (Jb r)) j l (λx=>?_) x |> λa=>by rwa[Jd,Jd]at a);grind[Jd]
 . have:=Ob h.tw tz (by rw[i];exact l);rwa[i,hn]at this
theorem Yun.start(tp:Jc p=p)(p0:p≠[])(d:Jr p=p):Yun p (Jm p (Jt p (Jb p))) (Jm (Jb p) (Jt p (Jb p))):=by
 have ts:=Jv p;obtain⟨a,b,_⟩:=Yc tp ts;have g0:=Yd tp ts (Or.inl p0);obtain⟨c,_,f,e⟩:=Mm tp p0 d (JE _ _) (YI tp ts) a;have g:=(JK (JE p (Jb p)) g0 a).2;have i:=(JK (JE p (Jb p)) g0 b).2;refine⟨tp,p0,YG _ _,f,c,YG _ _,λx=>?_,Ob tp ts g0⟩;grind
end
theorem Hx{a b:Rat}(c:0<a)(hb:0<b):∃e,0<e/\e<=a/\e<=b:=by
 grind
def RU{w:List Rat}(tw:Jc w=w)(w0:w≠[])(hl:w.length<=1)(x y:Rat):Stb w x y:=by
 match w,w0,hl with
 |[c],_,_=>
  have c0:c≠0:=by
   have:=Js tw DH;simpa[cf]using this
  exact XK c0 (λx=>Jq c x) x y
theorem RV:∀(n:Nat) (R w y:List Rat),R.length<=n->Yun R w y->∀ {B:Rat},0<=B->∃k,0<k/\Sh B λx z=>¬Stb w x z->k<=ev y x*ev (Jb w) x/\k<=ev y z*ev (Jb w) z:=by
 intro n;induction n with
 |zero=>intro R w y hn h;exact absurd (Aj.1 O) h.R0
 |succ n ih=>
  intro R w y hn h B f;by_cases hl:w.length<=1
  . exact⟨1,DJ,Sh.all λx z _ _ _ hs=>absurd (RU h.tw h.w0 hl x z) hs⟩
  . obtain⟨_,_,c,N,_,D⟩:=h.step;have tz:=Yj y (Jb w);have Qa:∀x,ev (JR y (Jb w)) x=ev y x-ev (Jb w) x:=λx=>XA _ _ _;obtain⟨z,hz⟩:=ex (JR y (Jb w));rw[hz]at c D tz Qa;obtain⟨g1,g2,_⟩:=Yc h.tw tz;have a0:=Yd h.tw tz (Or.inl h.w0);have P:=(JK (JE w z) a0 g2).2;obtain⟨a,ha⟩:=ex (Jt w z);rw[ha]at c D P;obtain⟨w2,df⟩:=ex (Jm w a);rw[df]at c D;obtain⟨y2,dh⟩:=ex (Jm z a);rw[dh]at c P;obtain⟨H,cn⟩:=ex (Jm R w);rw[cn]at c N;have lR:H.length<=n:=by
     have:=JC h.tw c.tR h.w0 c.R0;rw[<-N]at this;omega
    obtain⟨G,di,s2⟩:=ih H w2 y2 lR c f;have j:∀x,ev w x=ev a x*ev w2 x:=λx=>by
     grind[Jd]
    have fd:∀x,ev (Jb w) x=ev (Jb a) x*ev w2 x+ev a x*ev (Jb w2) x:=λx=>by
     grind[Yt]
    have fy:∀x,ev (Jb w) x=ev y x-ev a x*ev y2 x:=λx=>by
     grind
    obtain⟨u,v,ah⟩:=h.cop;obtain⟨U,pU,W⟩:=XU u f;obtain⟨V,g,hV⟩:=XU v f;obtain⟨dx,pY,hY⟩:=XU y f;obtain⟨A,pA,hA⟩:=XU a f;obtain⟨A1,ai,hA1⟩:=XU (Jb a) f;obtain⟨W2,dj,de⟩:=XU w2 f;obtain⟨i,fm,co⟩:=XU (Jb w2) f;obtain⟨m,dt,ae⟩:=XU y2 f;have nn:∀ {a b:Rat},0<a->0<b->0<a*b:=λS c=>Rat.mul_pos S c;obtain⟨e1,an,ap⟩:=small (Rat.le_of_lt (nn pU dj)) (show(0:Rat)<1/4 by grind);obtain⟨e2,aq,bg⟩:=small (Rat.le_of_lt (nn (nn g g) (nn pY dt))) (show(0:Rat)<1/16 by grind);obtain⟨e,e0,ce,cj⟩:=Hx an aq;have l:0<V*(i+m):=nn g DG;obtain⟨M,hM⟩:=ex (V*(i+m));obtain⟨e3,bi,bj⟩:=small (Rat.le_of_lt (nn pU pA)) (show(0:Rat)<1/4 by grind);obtain⟨e4,bm,bn⟩:=small (Rat.le_of_lt (nn g ai)) (show(0:Rat)<1/4 by grind);obtain⟨e5,bu,bz⟩:=small (Rat.le_of_lt (nn (nn l l) (nn ai (nn pA (show 0<i+i+m by grind))))) (show(0:Rat)<G/8 by grind);obtain⟨d1,aj,dz,ed⟩:=Hx bi bm;obtain⟨d,d0,ei,am⟩:=Hx aj bu;obtain⟨k,k0,fg,fh⟩:=Hx (Yo (show(0:Rat)<1/2 by grind) (nn g g)) (Yo (show(0:Rat)<G/8 by grind) (nn l l));refine⟨k,k0,(((Xo a f e0).and (Xo w2 f d0)).and s2).mono λx x' hx f9 _ ⟨⟨ta,tw⟩,s2⟩ hs=>?_⟩;have fi:∀ {K r t:Rat},0<K->r<=K*t->k<=r/K->k<=t:=fun {K r t} hK S c=>by
     have h3:r/K*K=r:=Ak DG;rcases JV k t with T|T
     . exact T
     . have:=Rat.mul_nonneg (a:=K) (b:=k-t) DG DG;have:=Rat.mul_nonneg (a:=r/K-k) (b:=K) DG DG;grind[Rat.le_iff_lt_or_eq]
    have ca:∀p,Wi B p->Wi e (ev a p)->k<=ev y p*ev (Jb w) p:=λp hp hq=>by
     have:=dQ (W p hp) (hV p hp) (hY p hp) hq (de p hp) (ae p hp) (ah p) (j p) (by have:=ap e ce;grind) (by have:=bg e cj;grind);grind
    have cw:∀p,Wi B p->Wi d (ev w2 p)->G<=ev y2 p*ev (Jb w2) p->k<=ev y p*ev (Jb w) p:=λp hp hq hk=>by
     have h9:=dR (W p hp) (hV p hp) (hA p hp) (hA1 p hp) hq (co p hp) (ae p hp) (ah p) (j p) DG di hk (by have:=bj d DG;grind) (by have:=bn d DG;grind) (by have:=bz d am;grind);grind
    by_cases sa:Stb a x x'
    . have sw:¬Stb w2 x x':=λq=>hs (by
       unfold Stb at *;rw[j,j];grind)
      grind
    grind
namespace M3
variable{S ps qs:List Rat}{n:Nat}
theorem oU(D:I)(q:Rat)(w:F)(v:Jg w D q)(B:Sq q):
 Calls X 268 #[D] w λe w'=>∃u,e=.returned u/\Jg w' u (Yv q)/\Bl w w':=by
 obtain⟨bj,S,bg,ai,bn,ae,ap,am,rfl⟩:=Jg.form v;obtain⟨W0,y,c⟩:=LN 50 (.rat q) v 50 (.rat 0) (XE _);have z:=Z B;clear v B;go_enter func268,ntmps268
 go_upto_region 1 with fail
 rw[y.o];clear y;obtain⟨s1,P,l1,c1,t1,U,k1,d1,k,r1,M,N⟩:=c.o.rat (i:=0) J;have d:=Bx.all k;obtain⟨s2,R,l2,c2,t2,W,k2,d2,a,r2,i2,j2⟩:=c.o.rat (i:=1) J;have b:=Bx.all a;have f:=Bx.f a;obtain⟨g,l,G⟩:=DY (XI _ _ q 0 W0 r1 (XE _) z.o FO) (λ(V:F) (h:Bl W0 V)=>LT _ _ 0 q V (XE _) (r1.below h) FO z.o) r1;obtain⟨n,hn⟩:=ex (Xq q 0);rw[hn]at g;have x:=Z hn;clear hn r1 M N;by_cases A:n<0
 . have m:=Z (show 0-q=Yv q by
    have t:=(Oa q).1 (by rw[x.o];exact A);unfold Yv;rw[BE t];grind)
   rw[m.o]at l;go_wp2_with(first
    |(go_at_call 21;refine g.o.mono ?_;clear g;rintro e w1 ⟨rfl,hq⟩;clear d;have d:=Bx.all (k.below hq);clear b;have b:=Bx.all (a.below hq);clear f;have f:=Bx.f (a.below hq))
    |(go_at_call 42;refine(l.o _ hq).mono ?_;clear l;rintro e w2 ⟨u2,rfl,j,H⟩;obtain⟨bm,T,bi,aj,bu,ah,aq,an,rfl⟩:=Jg.form j;have hq:=Bt hq H;clear d;have d:=Bx.all (k.below hq);clear b;have b:=Bx.all (a.below hq);clear f;have f:=Bx.f (a.below hq)))
   have r:=Bt c.o.2.2 hq;have p:=c.o.ge 1 J;exact A0 (by simp[results,results268,go_sem,b]) J ⟨_,J,j.put4 (a.below hq) J J J J _ _ _ _,Jw r p _ _ _ _⟩
 . have m:=Z (show Yv q=q by
    have t:¬q<0:=λh=>A (by rw[<-x.o];exact(Oa q).2 h);unfold Yv;rw[BD t])
   go_wp2_with(go_at_call 21;refine g.o.mono ?_;clear g;rintro e w1 ⟨rfl,hq⟩;clear d;have d:=Bx.all (k.below hq);clear b;have b:=Bx.all (a.below hq);clear f;have f:=Bx.f (a.below hq))
   have j:=G.o.below hq;rw[<-m.o]at j;have r:=Bt c.o.2.2 hq;have p:=c.o.ge 1 J;exact A0 (by simp[results,results268,go_sem,b]) J ⟨_,J,j.put4 (a.below hq) J J J J _ _ _ _,Jw r p _ _ _ _⟩
def oV(N P:I)(x y:Nat)(w:F)(r:Jk w N (x:Int))(hb:Jk w P (y:Int))(M:0<x)(D:Sok (x:Int))(G:Sok (y:Int)):
 Calls X 235 #[N,P] w λe w'=>∃u,e=.returned u/\Jk w' u ((Nat.lcm x y:Nat):Int)/\Bl w w':=by
 have R:=Z (show((Int.gcd x y:Nat):Int)≠0 by have:=Nat.gcd_pos_of_pos_left y M;exact Int.natCast_ne_zero.2 (by show Nat.gcd x y≠0;omega));obtain⟨bm,ai,bg,an,rfl⟩:=Jk.form2 r;obtain⟨bn,aj,bi,ap,rfl⟩:=Jk.form2 hb;obtain⟨W0,t,z⟩:=IK 48 (.int ((x:Int))) r 48 (.int ((y:Int))) hb 48 (.int 0) (EW _);have l:=Z D;have g:=Z G;clear r hb D G;go_enter func235,ntmps235
 go_upto_region 1 with fail
 rw[t.o];clear t;clear M;refine YE Dh [[],[],[],[1,2],[0,3,3],[4],[5],[5],[5],[],[],[9,6,4,0,1,2,3,4,5,6,9,10],[10,7,11,0,1,2,3,4,5,6,7,9,10,11],[8,12,0,1,2,3,4,5,6,7,8,9,10,11,12]] [.int ((y:Int)),.int ((x:Int)),.int ((y:Int)),.int (((Int.gcd x y:Nat):Int)),.tup2 (.int ((y:Int)/((Int.gcd x y:Nat):Int))) (.int ((y:Int)%((Int.gcd x y:Nat):Int))),.tup2 (.int ((y:Int)/((Int.gcd x y:Nat):Int))) (.int ((y:Int)%((Int.gcd x y:Nat):Int))),.int ((y:Int)/((Int.gcd x y:Nat):Int)),.int ((y:Int)%((Int.gcd x y:Nat):Int)),.eq (o true),.ptr,.ptr,.eq undef,.eq undef,.eq (o true)] [9,10,11,12] (λb v V=>DI w V [some (w.heap.size,.int ((x:Int))),some (w.heap.size+1,.int ((y:Int))),some (w.heap.size+1+1,.int 0),nb b v 0 2 (.int 0) (.int ((y:Int)/((Int.gcd x y:Nat):Int))),nb b v 1 3 (.int 0) (.int ((y:Int)%((Int.gcd x y:Nat):Int)))]) ((z.o.none).none).drew (SR (.vl J λ_ j=>FM 1 j)<|SR (.vl J λ_ j=>FM 0 j)<|SR (.vl J λ_ j=>FM 1 j)<|SR (.cl λh _=>Kq _ _ (x:Int) (y:Int) _ (h.g 1) (h.g 2) (by have:=l.o.words;omega) (by have:=g.o.words;omega))<|SR (.cl λh _=>Nz (OD _ _ (y:Int) ((Int.gcd x y:Nat):Int) _ (h.g 0) (h.g 3) R.o (by have:=g.o.words;omega) (by have:=(l.o.gcd g.o).words;omega)))<|SR (.vl J λh _=>mw (h.g 4))<|SR (.vl J λh _=>N8 (h.g 5))<|SR (.vl J λh _=>N9 (h.g 5))<|SR (.vl J λh _=>OA (h.g 5))<|SR (.wr J λ_ j=>GN 3 j)<|SR (.wr J λ_ j=>GN 4 j)<|SR (.wr J λh j=>Ey 3 j (h.g 6) (hp:=h.g 9))<|SR (.wr J λh j=>Ey 4 j (h.g 7) (hp:=h.g 10))<|SR (.vl J λh _=>aw (h.g 8)) Stp.end_)
  λf T hF c=>?_
 refine DO ?_;rw[hF.e 8,hF.e 13];obtain⟨B3,n⟩:=hF.p 9;obtain⟨B4,q⟩:=hF.p 10;have c:=Du c;simp only[n,q]at c;rw[n,q];have a:=Z c;clear c hF n q;clear z;obtain⟨s5,a5,l5,c5,n5,U⟩:=a.o.int (i:=0) J;have ae:=Bx.all n5;obtain⟨s6,a6,l6,c6,n6,W⟩:=a.o.int (i:=3) J;have ah:=Bx.all n6;obtain⟨s7,a7,l7,c7,d,i7⟩:=a.o.int (i:=2) J;have m:=Bx.all d;have B:=Bx.f d;have k:=Z (YX _ _ (x:Int) ((y:Int)/((Int.gcd x y:Nat):Int)) T U W (by have h1:=l.o.words;have h2:=(g.o.div (y:=((Int.gcd x y:Nat):Int))).words;omega));rw[oQ]at k;go_wp2_with(go_at_call 48;refine k.o.mono ?_;clear k;rintro e w2 ⟨u2,rfl,H,hq⟩;obtain⟨bu,am,bj,aq,rfl⟩:=Jk.form2 H;clear m;have m:=Bx.all (d.below hq);clear B;have B:=Bx.f (d.below hq))
 have S:=Bt a.o.2.2 hq;have A:=a.o.ge 2 J;exact A0 (by simp[results,results235,go_sem,m]) J ⟨_,J,H.box (d.below hq) J J,(S.setCell (p:=⟨_,0,none⟩) A _).setCell (p:=⟨_,1,none⟩) A _⟩
def Iw(F:Nat->Rat)(n i:Nat)(S:List Rat):Prop:=S.length=n/\∀j,cf S j=if j<i then F j else 0
theorem Iw.next{F:Nat->Rat}{i:Nat}(h:Iw F n i S)(hi:i<n):Iw F n (i+1) (S.set i (F i)):=by
 refine⟨by rw[Fc];exact h.1,λj=>?_⟩;rw[GG _ _ _ _ (by rw[h.1];exact hi),h.2 j];grind
theorem Iw.done{F:Nat->Rat}{T:List Rat}(h:Iw F n n S)(hT:Jc T=T)(hF:∀j,j<n->cf T j=F j)(a:∀j,n<=j->cf T j=0):Jc S=T:=by
 rw[<-hT];refine IX λj=>?_;rw[h.2 j];grind
def Wv(v vf:I)(ps:List Rat)(f:Rat)(w:F)(h:Je w v ps)(R:Jg w vf f)(an:Sqs ps)(ap:Sq f)(aq:∀i,Sq (cf ps i*f)):
 Calls X 236 #[v,vf] w λe w'=>∃u,e=.returned u/\Je w' u (DM f ps)/\Bl w w':=by
 obtain⟨m,la,r,rfl⟩:=h.form;obtain⟨s,a,l,c,t,b,k,d,rfl⟩:=Jg.form R;obtain⟨bj,bg,bi,bm,_⟩:=h.row.forms;obtain⟨V0,ah,y⟩:=IK 25 (.cell 25 (E m la r)) EN 50 (.rat f) R 25 (.cell 25 (E none 0 0)) EN;have M1:=y.o;obtain⟨n,hn⟩:=ex (ps.length:Nat);obtain⟨e0,aj⟩:=ex ((n:Int)-1:Int);have G:=Z (Yq (.agg #[E m la r]) ps V0 (h.below M1.2.2));rw[hn,aj]at G;have bn:e0+1=(n:Int):=O
 have bu:IntKind.i64.wrap (n:Int)=(n:Int):=by rw[BI];omega
 have Ql:∀W:F,(Instr.makeSlice 22 (K Q (n:Int)) (K Q (n:Int))).run X W=.ok (E (some ⟨W.heap.size,0,none⟩) n n) (W.alloc (C (YD n) 50)):=λW=>RT n O W;obtain⟨HP,Qg,Qk,HN⟩:=Ds (λ(V:F) (hB:Bl w V)=>h.below hB) an aq (show ps.length=n from hn);have Qc:n<=1099511627776:=O
 have Qn:=Z ap;clear h an aq bj bg bi hn aj M1 bm R ap;go_enter func236,ntmps236
 go_upto_region 1 with fail
 rw[ah.o];have c0:=(y.o.cell (i:=0) J).1.cell;go_upto_region 2 with(go_at_call 75;refine G.o.mono ?_;clear G;rintro e w1 ⟨rfl,ai⟩)
 have H:DI w (w1.alloc (C (YD n) 50)) [some (w.heap.size,.cell 25 (E m la r)),some (w.heap.size+1,.rat f),some (w.heap.size+1+1,.cell 25 (E none 0 0)),some (w1.heap.size,.rats (List.replicate n 0))]:=(y.o.below ai).push (.rats (List.replicate n 0)) (Me _ n);obtain⟨V1,N⟩:=ex (w1.alloc (C (YD n) 50));obtain⟨A,U⟩:=ex (w1.heap.size);rw[N,U]at H;rw[N,U];have Qf:=Z H;clear H N U ai c0 y ah Ql;go_wp2;go_loopw [13] (λiv wr=>∃(i:Nat) (S:List Rat),i<=n/\iv=K Q (i:Int)/\Hid (Iw (λj=>cf ps j*f) n i S)/\Hid (DI w wr [some (w.heap.size,.cell 25 (E m la r)),some (w.heap.size+1,.rat f),some (w.heap.size+1+1,.cell 25 (E none 0 0)),some (A,.rats S)])) λiv _=>n-(intOf iv).toNat
 case atStart=>exact⟨0,_,Ap _,J,Z ⟨AK,λj=>by rw[Ya,BD O]⟩,Qf⟩
 case round=>
  obtain⟨i,S,hi,rfl,g,x⟩:=hrel;clear Qf;by_cases am:i<n
  . have bz:(i:Int)<(n:Int):=O
    have Qh:=Z (show i<S.length by rw[g.o.1];exact am);go_wp2_with fail
    have Qm:=x.o.drew;refine YE Dh [[],[],[],[],[2,3],[],[4,5,4],[0,1,0,1,2,3,4,5,6],[7,6,6,0,1,2,3,4,5,6]] [.eq (E (some ⟨A,0,none⟩) n n),.eq (K Q (i:Int)),.eq (.agg #[E m la r]),.eq (K Q (i:Int)),.rat (cf ps i),.rat f,.rat (cf ps i*f),.eq (L (some ⟨A,i*4,none⟩)),.eq undef] [8] (λb _ V=>DI w V [some (w.heap.size,.cell 25 (E m la r)),some (w.heap.size+1,.rat f),some (w.heap.size+1+1,.cell 25 (E none 0 0)),some (A,if b.getD 0 false then .rats (S.set i (cf ps i*f))else .rats S)]) Qm (SR (.vl J λ_ _=>mv)<|SR (.vl J λ_ _=>mv)<|SR (.vl J λ_ j=>FN 0 j)<|SR (.vl J λ_ _=>mv)<|SR (.cl λh j=>c2 (h.e 2) (h.e 3) (by have q:=Hb _ ps (i:Int) _ (HP.o _ j.2.2);rw[IM]at q;exact q))<|SR (.vl J λ_ j=>Ei 1 j)<|SR (.cl λh _=>Kr _ _ (cf ps i) f _ (h.g 4) (h.g 5) (Qg.o.at i) Qn.o)<|SR (.vl J λh _=>⟨_,by refine DO ?_;rw[h.e 0,h.e 1];go_simp,J⟩)<|SR (.wr J λh j=>MP 3 j Qh.o (h.g 6) (h.e 7)) Stp.end_)
     λf V hF z=>?_
    refine DO ?_;rw[hF.e 0,hF.e 1,hF.e 2,hF.e 3,hF.e 7];have z:=Du z;have HO:=Z z;clear z hF;go_wp2_with fail
    go_roundw
    case rel=>exact⟨i+1,_,O,by go_num,Z (g.o.next am),HO⟩
    case measure=>simp[intOf];omega
  . obtain rfl:i=n:=O
    have hE:=x.o.rats (i:=3) J;have D:=hE.row (n:=i) (cap:=i) (by rw[g.o.1];exact Aa _) (Aa _) O Qc;rw[Af (by rw[g.o.1];exact Aa _)]at D;have M:=Z (QV _ S wr D (Sqs.of λj=>by
     rw[g.o.2 j];split
     . exact Qk.o j
     . exact FO))
    rw[g.o.done (T:=DM f ps) (JH _ _) (λj hj=>YB _ _ _) λj hj=>by rw[YB,Yn (by rw[HN.o];exact hj),AZ]]at M;clear hE D;go_wp2_with(go_at_call 178;refine M.o.mono ?_;clear M;rintro e w5 ⟨u5,rfl,ae,_,P⟩;obtain⟨a7,l7,c7,rfl⟩:=ae.form;have B:=boxed_below (x.o.cell (i:=2) J).1 P;have x0:=B.cell;have x1:=B.frozen;have Qi:=Z (FP B (E a7 l7 c7) ae.row);have Qj:=Z ((Bt x.o.2.2 P).setCell (p:=⟨w.heap.size+1+1,0,none⟩) (by show w.heap.size<=w.heap.size+1+1;omega) (E a7 l7 c7));clear ae P B)
    exact A0 (by simp[results,results236,go_sem,x0]) J ⟨_,J,⟨_,J,Qi.o⟩,Qj.o⟩
def oW(p:List Rat)(n:Nat):((Int.gcd ((XD p n:Nat):Int) (cf p n).num:Nat):Int)=((XD p (n+1):Nat):Int):=rfl
def oX(p:List Rat)(n:Nat):((Nat.lcm (XR p n) (cf p n).den:Nat):Int)=((XR p (n+1):Nat):Int):=rfl
theorem RW(D:Int)(M:Nat)(v:I)(ps:List Rat)(w:F)(h:Je w v ps)(ah:Jc ps=ps)(hD:D≠0)(ae:Sm M D)(R:EP D M ps)(hM:M<=1000000000):
 Calls X 184 #[v] w λe w'=>∃u,e=.returned u/\Je w' u (Jo ps)/\Bl w w':=by
 obtain⟨c,la,d,rfl⟩:=h.form;obtain⟨bu,bm,bn,bz,_⟩:=h.row.forms;have Qa:∀i,DR M (cf ps i):=λi=>(R i).smq hD ae;obtain⟨HG,HL,Qb⟩:=DY (λi=>Sok.of (Wp (λj=>(Qa j).1) i) O:∀i,Sok ((XD ps i:Nat):Int)) (λi=>Sok.of (Wo hD ae R i) O:∀i,Sok ((XR ps i:Nat):Int)) (show Sqs ps from Sqs.of λi=>Sq.of (Qa i) hM);have HF:=Z (show ps≠[]->Sq ((XR ps ps.length:Rat)/(XD ps ps.length:Rat))/\∀i,Sq (cf ps i*((XR ps ps.length:Rat)/(XD ps ps.length:Rat)))from λg=>by
  have h1:=RO ah g (R.ln hD);refine⟨?_,λi=>?_⟩
  . have h2:((XR ps ps.length:Rat)/(XD ps ps.length:Rat))=Rat.divInt ((XR ps ps.length:Nat):Int) ((XD ps ps.length:Nat):Int):=by grind[An,AG]
    rw[h2];exact Sq.of (DR.divInt (Int.natCast_ne_zero.2 (Mi ah g)) (Wo hD ae R _) (Wp (λj=>(Qa j).1) _)) hM
  . obtain⟨z,h3,h4⟩:=h1 i;have h5:cf ps i*((XR ps ps.length:Rat)/(XD ps ps.length:Rat))=(z:Rat):=by rw[<-h4];unfold Jo;rw[YB]
    rw[h5];have h6:1<=M:=by
     by_cases h7:1<=M
     . exact h7
     . exfalso
       obtain rfl:M=0:=O
       grind[Sm]
    exact Sq.of ((OY (D:=1) DJ h3 DG).smq DJ (Sm.one M h6)) hM)
 have Qj:=Z (λg=>Mi ah g:ps≠[]->XD ps ps.length≠0);obtain⟨W0,aq,M1⟩:=IK 25 (.cell 25 (E c la d)) EN 25 (.cell 25 (E none 0 0)) EN 48 (.int (((XD ps 0:Nat):Int))) (EW _) (w:=w);obtain⟨n,hn⟩:=ex (ps.length:Nat);obtain⟨e0,bj⟩:=ex ((n:Int)-1:Int);have Qc:=Z λ(V:F) (N:Bl w V)=>Yq (s #[E c la d]) ps V (h.below N);rw[hn,bj]at Qc;have de:e0+1=(n:Int):=O
 have df:IntKind.i64.wrap (n:Int)=(n:Int):=by rw[BI];omega
 have HP:=Z λ(V:F) (N:Bl w V)=>h.below N;have HN:=Z (show ps.length=n from hn);have dj:n<=1099511627776:=O
 have Qd:=Z λ(V:F)=>F6 1 O O V;clear h bu bm bn hn bj bz ah hD ae R hM Qa;go_enter func184,ntmps184
 go_upto_region 2 with fail
 rw[aq.o];clear aq;go_upto_region 3 with(go_at_call 107;refine(Qd.o _).mono ?_;clear Qd;rintro e w1 ⟨u1,rfl,an,bg⟩;obtain⟨s1,a1,l1,c1,rfl⟩:=Jk.form2 an)
 obtain⟨V1,r⟩:=ex (w1.alloc (C #[o s1,E a1 l1 c1] 48));obtain⟨B1,m⟩:=ex (w1.heap.size);have a:DI w (w1.alloc (C #[o s1,E a1 l1 c1] 48)) [some (w.heap.size,.cell 25 (E c la d)),some (w.heap.size+1,.cell 25 (E none 0 0)),some (w.heap.size+1+1,.int (((XD ps 0:Nat):Int))),some (w1.heap.size,.int (((XR ps 0:Nat):Int)))]:=DI.push (M1.o.below bg) (.int (((XR ps 0:Nat):Int))) an;rw[r,m]at a;rw[r];rw[m];have M2:Hid (DI w V1 [some (w.heap.size,.cell 25 (E c la d)),some (w.heap.size+1,.cell 25 (E none 0 0)),some (w.heap.size+1+1,.int (((XD ps 0:Nat):Int))),some (B1,.int (((XR ps 0:Nat):Int)))]):=Z (a);clear M1;clear a r m;clear an bg;have c0:=(M2.o.cell (i:=0) J).1.cell;go_upto_region 4 with(go_at_call 75;refine(Qc.o _ M2.o.2.2).mono ?_;clear Qc;rintro e w2 ⟨rfl,bi⟩)
 have ML:Hid (DI w w2 [some (w.heap.size,.cell 25 (E c la d)),some (w.heap.size+1,.cell 25 (E none 0 0)),some (w.heap.size+1+1,.int (((XD ps 0:Nat):Int))),some (B1,.int (((XR ps 0:Nat):Int)))]):=Z (M2.o.below bi);clear c0 bi M2;go_loopw [12] (λiv wr=>∃i:Nat,i<=n/\iv=K Q (i:Int)/\Hid (DI w wr [some (w.heap.size,.cell 25 (E c la d)),some (w.heap.size+1,.cell 25 (E none 0 0)),some (w.heap.size+1+1,.int (((XD ps i:Nat):Int))),some (B1,.int (((XR ps i:Nat):Int)))])) λiv _=>n-(intOf iv).toNat
 case atStart=>exact⟨0,Ap _,J,ML⟩
 case round=>
  obtain⟨i,hi,rfl,M3⟩:=hrel;clear ML;by_cases dh:i<n
  . have di:(i:Int)<(n:Int):=O
    go_upto_region 6 with fail
    refine YE Dh [[],[],[],[1,2],[3,3],[0,4,4],[5,5,0,1,2,3,4,5]] [.int (((XD ps i:Nat):Int)),.eq (s #[E c la d]),.eq (Value.int IntKind.i64 ↑i),.rat (cf ps i),.int ((cf ps i).num),.int (((XD ps (i+1):Nat):Int)),.eq undef] [6] (λb _ V=>DI w V [some (w.heap.size,.cell 25 (E c la d)),some (w.heap.size+1,.cell 25 (E none 0 0)),some (w.heap.size+1+1,if b.getD 0 false then .int (((XD ps (i+1):Nat):Int))else .int (((XD ps i:Nat):Int))),some (B1,.int (((XR ps i:Nat):Int)))]) M3.o.drew (SR (.vl J λ_ j=>FM 2 j)<|SR (.vl J λ_ j=>FN 0 j)<|SR (.vl J λ_ _=>mv)<|SR (.cl λh j=>c2 (h.e 1) (h.e 2) (by have q:=Hb _ ps (i:Int) _ (HP.o _ j.2.2);rw[IM]at q;exact q))<|SR (.cl λh _=>Md _ (cf ps i) _ (h.g 3))<|SR (.cl λh _=>by have q:=Kq _ _ ((XD ps i:Nat):Int) (cf ps i).num _ (h.g 0) (h.g 4) (by have:=(HG.o i).words;omega) (by have:=(Qb.o.at i).num.words;omega);rw[oW]at q;exact q)<|SR (.wr J λh j=>Ey 2 j (h.g 5)) Stp.end_)
     λf V3 hF a=>?_
    refine DO ?_;rw[hF.e 1,hF.e 2];have a:=Du a;have l:=Z a;clear a hF;clear M3;go_upto_region 7 with fail
    refine YE Dh [[],[],[],[1,2],[3,3],[0,4,4],[5,5,0,1,2,3,4,5]] [.int (((XR ps i:Nat):Int)),.eq (s #[E c la d]),.eq (Value.int IntKind.i64 ↑i),.rat (cf ps i),.int (((cf ps i).den:Int)),.int (((XR ps (i+1):Nat):Int)),.eq undef] [6] (λb _ V=>DI w V [some (w.heap.size,.cell 25 (E c la d)),some (w.heap.size+1,.cell 25 (E none 0 0)),some (w.heap.size+1+1,.int (((XD ps (i+1):Nat):Int))),some (B1,if b.getD 0 false then .int (((XR ps (i+1):Nat):Int))else .int (((XR ps i:Nat):Int)))]) l.o.drew (SR (.vl J λ_ j=>FM 3 j)<|SR (.vl J λ_ j=>FN 0 j)<|SR (.vl J λ_ _=>mv)<|SR (.cl λh j=>c2 (h.e 1) (h.e 2) (by have q:=Hb _ ps (i:Int) _ (HP.o _ j.2.2);rw[IM]at q;exact q))<|SR (.cl λh _=>FU _ (cf ps i) _ (h.g 3))<|SR (.cl λh _=>by have q:=oV _ _ (XR ps i) (cf ps i).den _ (h.g 0) (h.g 4) (Wl ps i) (HL.o i) (Qb.o.at i).den;rw[oX]at q;exact q)<|SR (.wr J λh j=>Ey 3 j (h.g 5)) Stp.end_)
     λf V5 hF a=>?_
    refine DO ?_;rw[hF.e 1,hF.e 2];have a:=Du a;have M5:=Z a;clear a hF;clear l;go_wp2_with fail
    go_roundw
    case rel=>exact⟨i+1,O,by go_num,M5⟩
    case measure=>simp[intOf];omega
  . obtain rfl:i=n:=O
    obtain⟨s6,a6,l6,c6,n6,i6⟩:=M3.o.int (i:=2) J;obtain⟨Qi,Ql⟩:=n6.cp;obtain⟨s7,a7,l7,c7,n7,i7⟩:=M3.o.int (i:=3) J;obtain⟨Qf,Qm⟩:=n7.cp;have k:=Z (KJ _ _ ((XR ps i:Nat):Int) ((XD ps i:Nat):Int) wr i7 i6 (HL.o i) (HG.o i));have Qe:=(M3.o.cell (i:=1) J).1;obtain⟨r9,am⟩:=ex (Rat.divInt ((XR ps i:Nat):Int) ((XD ps i:Nat):Int));rw[am]at k;have Qg:=Z am;clear am;by_cases g:ps=[]
    . have A:=Z (show decide (((XD ps i:Nat):Int)≠0)=false by rw[<-HN.o,g];decide);rw[A.o]at k;have HE:=Z (show Jo ps=[]by rw[g];rfl);clear g A;go_wp2_with(go_at_call 193;refine k.o.mono ?_;clear k;rintro e y ⟨u4,rfl,ai,P⟩;obtain⟨U,B,T,G,W,b9,S,H,rfl⟩:=Jg.form ai;have t:=boxed_below (boxed_below Qe P) (Ba y (C #[o U,E B T G,o W,E b9 S H] 50));have x0:=t.cell;have x1:=t.frozen)
      rw[HE.o];exact A0 (by simp[results,results184,go_sem,x0]) J ⟨_,J,VV _,((Bt M3.o.2.2 P).alloc (by have:=M3.o.2.2.size;have:=P.size;omega) _).setCell (p:=⟨w.heap.size+1,0,none⟩) (by show w.heap.size<=w.heap.size+1;omega) _⟩
    . have A:=Z (show decide (((XD ps i:Nat):Int)≠0)=true by
       refine BG ?_;rw[<-HN.o];exact Int.natCast_ne_zero.2 (Qj.o g))
      rw[A.o]at k;have HE:=Z (show r9=(XR ps ps.length:Rat)/(XD ps ps.length:Rat)by rw[<-Qg.o,An,AG,AG,HN.o]);have HT:=Z (show DM r9 ps=Jo ps by rw[HE.o];rfl);have HS:=Z (show Sq r9/\∀j,Sq (cf ps j*r9)by rw[HE.o];exact HF.o g);clear g A;have H2:=Z λ(V:F) (N:Bl w V) (x:I) (hx:Jg V x r9)=>Wv (s #[E c la d]) x ps r9 V (HP.o V N) hx Qb.o HS.o.1 HS.o.2;rw[HT.o]at H2;go_upto_region 12 with(go_at_call 193;refine k.o.mono ?_;clear k;rintro e y ⟨u4,rfl,ai,P⟩;obtain⟨U,B,T,G,W,b9,S,H,rfl⟩:=Jg.form ai)
      clear Qi Ql Qf Qm;obtain⟨V8,r⟩:=ex (y.alloc (C #[o U,E B T G,o W,E b9 S H] 50));obtain⟨B8,m⟩:=ex (y.heap.size);have a:DI w (y.alloc (C #[o U,E B T G,o W,E b9 S H] 50)) [some (w.heap.size,.cell 25 (E c la d)),some (w.heap.size+1,.cell 25 (E none 0 0)),some (w.heap.size+1+1,.int (((XD ps i:Nat):Int))),some (B1,.int (((XR ps i:Nat):Int))),some (y.heap.size,.rat r9)]:=DI.push (M3.o.below P) (.rat r9) ai;rw[r,m]at a;rw[r];rw[m];have l:Hid (DI w V8 [some (w.heap.size,.cell 25 (E c la d)),some (w.heap.size+1,.cell 25 (E none 0 0)),some (w.heap.size+1+1,.int (((XD ps i:Nat):Int))),some (B1,.int (((XR ps i:Nat):Int))),some (B8,.rat r9)]):=Z (a);clear M3;clear a r m;obtain⟨U,B,T,G,W,b9,S,H,n9,r9,i9,j9⟩:=l.o.rat (i:=4) J;obtain⟨ce,cj,cn,co⟩:=n9.cq;have c0:=(l.o.cell (i:=0) J).1.cell;have n1:=(l.o.cell (i:=1) J).1;have HQ:=Z l.o.2.2;go_wp2_with(go_at_call 236;refine(H2.o _ HQ.o _ r9).mono ?_;clear H2;rintro e w5 ⟨u5,rfl,ap,aj⟩;obtain⟨a7,l7,c7,rfl⟩:=ap.form;have t:=boxed_below n1 aj;have x0:=t.cell;have x1:=t.frozen;have Qk:=Z (MT t (x:=E a7 l7 c7) ap);have Qh:=Z ((Bt HQ.o aj).setCell (p:=⟨w.heap.size+1,0,none⟩) (by show w.heap.size<=w.heap.size+1;omega) (E a7 l7 c7));clear ap aj t)
      exact A0 (by simp[results,results184,go_sem,x0]) J ⟨_,J,Qk.o,Qh.o⟩
theorem oY(va vb:I)(ps qs:List Rat)(w:F)(D:Je w va ps)(hb:Je w vb qs)(aq:Sqs ps)(bj:Sqs qs)(bi:qs≠[])(bg:∀i,i<=ps.length+1-qs.length->Sq (Yv (cf qs (qs.length-1))^i))(bm:∀i,Sq (cf ps i*Ej ps qs)):
 Calls X 237 #[va,vb] w λe w'=>∃u,e=.returned u/\Je w' u (XS ps qs)/\Bl w w':=by
 obtain⟨m,M⟩:=ex (qs.length-1:Nat);have Qs:=Ae.2 bi;have Qo:ps.length<=1099511627776:=by
  obtain⟨g,la,k,rfl⟩:=D.form;have:=D.row.forms;omega
 have Qk:qs.length<=1099511627776:=by
  obtain⟨c,lb,d,rfl⟩:=hb.form;have:=hb.row.forms;omega
 obtain⟨L,B⟩:=ex (Yv (cf qs m):Rat);obtain⟨N,hN⟩:=ex (ps.length+1-qs.length:Nat);obtain⟨e1,an⟩:=ex ((ps.length:Int)-1:Int);have Qh:(qs.length:Int)-1=(m:Int):=O
 obtain⟨A,dh⟩:=ex (e1-(m:Int):Int);obtain⟨t,di⟩:=ex (A+1:Int);have dj:IntKind.i64.wrap A=A:=by rw[BI];omega
 have dt:IntKind.i64.wrap t=t:=by rw[BI];omega
 obtain⟨Qb,Qg,Qr,Qm,Qc,HT,Ql,Qj⟩:=Ho (show(∀i:Nat,(i:Int)<t↔i<N)/\N<=1099511627777 from⟨λi=>by omega,O⟩) Qh an B (show ∀i,i<=N->Sq (L^i)from λi hi=>by rw[<-B,<-M];exact bg i O) (show DM (L^N) ps=XS ps qs by unfold XS Ej;rw[M,B,hN]) (show ∀i,Sq (cf ps i*L^N)from λi=>by have:=bm i;unfold Ej at this;rwa[M,B,hN]at this) aq;have Qp:=Z bj;clear bg bm aq bj bi hN B M Qs Qo Qk an Qh;obtain⟨g,la,k,rfl⟩:=D.form;obtain⟨c,lb,d,rfl⟩:=hb.form;obtain⟨W0,aj,M1⟩:=IK 25 (.cell 25 (E g la k)) EN 25 (.cell 25 (E c lb d)) EN 25 (.cell 25 (E none 0 0)) EN (w:=w);have HP:=Z λ(V:F) (hB:Bl w V)=>D.below hB;have HQ:=Z λ(V:F) (hB:Bl w V)=>hb.below hB;clear D hb;go_enter func237,ntmps237
 go_upto_region 1 with fail
 rw[aj.o];clear aj;refine YE Dh [[],[],[1],[0,2,2],[3,3],[],[5,4,4,0,1,2,3,4,5]] [.eq (s #[E c lb d]),.eq (s #[E c lb d]),.eq (K Q (m:Int)),.rat (cf qs m),.rat L,.ptr,.eq undef] [5,6] (λb v V=>DI w V [some (w.heap.size,.cell 25 (E g la k)),some (w.heap.size+1,.cell 25 (E c lb d)),some (w.heap.size+1+1,.cell 25 (E none 0 0)),nb b v 0 1 (.rat 0) (.rat L)]) (M1.o.none).drew (SR (.vl J λ_ j=>FN 1 j)<|SR (.vl J λ_ j=>FN 1 j)<|SR (.cl λh j=>c1 (h.e 1) (rv (Qg.o ▸ Yq _ qs _ (HQ.o _ j.2.2))))<|SR (.cl λh j=>c2 (h.e 0) (h.e 2) (by have q:=Hb _ qs (m:Int) _ (HQ.o _ j.2.2);rw[IM]at q;exact q))<|SR (.cl λh _=>Qm.o ▸ oU _ (cf qs m) _ (h.g 3) (Qp.o.at m))<|SR (.wr J λ_ j=>N3 3 j)<|SR (.wr J λh j=>LR 3 j (h.g 4) (hp:=h.g 5)) Stp.end_)
  λf V2 hF a=>?_
 refine DO ?_;rw[hF.e 0,hF.e 1,hF.e 2];obtain⟨B3,ae⟩:=hF.p 5;have a:=Du a;simp only[ae]at a;rw[ae];have M2:=Z a;clear a hF ae;clear M1;have U:=Z λ(V:F)=>F6 1 O O V;have HB:=U;have W:=Z λ(V:F) (x y:I) (hx:Jk V x 1) (hy:Jk V y 1)=>KJ x y 1 1 V hx hy Sok.one Sok.one;rw[show decide ((1:Int)≠0)=true from J,show Rat.divInt 1 1=L^0 by rw[Rat.pow_zero];rfl]at W;go_upto_region 3 with(first
  |(go_at_call 107;refine(U.o _).mono ?_;clear U;rintro e w3 ⟨u3,rfl,H,am⟩)
  |(go_at_call 107;refine(HB.o _).mono ?_;clear HB;rintro e w4 ⟨u4,rfl,bn,ai⟩;have H:=H.below ai)
  |(go_at_call 193;refine(W.o _ _ _ H bn).mono ?_;clear W;rintro e G ⟨u5,rfl,r,z⟩;obtain⟨s9,a9,l9,c9,t9,b9,k9,d9,rfl⟩:=Jg.form r))
 obtain⟨V4,n⟩:=ex (G.alloc (C #[o s9,E a9 l9 c9,o t9,E b9 k9 d9] 50));obtain⟨B4,ah⟩:=ex (G.heap.size);have a:DI w (G.alloc (C #[o s9,E a9 l9 c9,o t9,E b9 k9 d9] 50)) [some (w.heap.size,.cell 25 (E g la k)),some (w.heap.size+1,.cell 25 (E c lb d)),some (w.heap.size+1+1,.cell 25 (E none 0 0)),some (B3,.rat L),some (G.heap.size,.rat (L^0))]:=DI.push (((M2.o.below am).below ai).below z) (.rat (L^0)) r;rw[n,ah]at a;rw[n];rw[ah];have M3:Hid (DI w V4 [some (w.heap.size,.cell 25 (E g la k)),some (w.heap.size+1,.cell 25 (E c lb d)),some (w.heap.size+1+1,.cell 25 (E none 0 0)),some (B3,.rat L),some (B4,.rat (L^0))]):=Z (a);clear M2;clear a n ah;clear H bn r am ai z;refine YE Dh [[],[0],[],[2,1],[1,3],[4],[]] [.eq (s #[E g la k]),.eq (K Q e1),.eq (s #[E c lb d]),.eq (K Q (m:Int)),.eq (K Q A),.eq (K Q t),.eq (K Q 0)] [] (λ_ _ V=>DI w V [some (w.heap.size,.cell 25 (E g la k)),some (w.heap.size+1,.cell 25 (E c lb d)),some (w.heap.size+1+1,.cell 25 (E none 0 0)),some (B3,.rat L),some (B4,.rat (L^0))]) M3.o.drew (SR (.vl J λ_ j=>FN 0 j)<|SR (.cl λh j=>c1 (h.e 0) (rv (Qr.o ▸ Yq _ ps _ (HP.o _ j.2.2))))<|SR (.vl J λ_ j=>FN 1 j)<|SR (.cl λh j=>c1 (h.e 2) (rv (Qg.o ▸ Yq _ qs _ (HQ.o _ j.2.2))))<|SR (.vl J λh _=>⟨(K Q A),by refine DO ?_;rw[h.e 1,h.e 3];go_simp,J⟩)<|SR (.vl J λh _=>⟨(K Q t),by refine DO ?_;rw[h.e 4];go_simp,J⟩)<|SR (.vl J λ_ _=>mv) Stp.end_)
  λf V6 hF a=>?_
 refine DO ?_;rw[hF.e 0,hF.e 1,hF.e 2,hF.e 3,hF.e 4,hF.e 5,hF.e 6];have M4:=Z a;clear a hF;clear M3;go_wp2;go_loopw [25] (λiv wr=>∃i:Nat,i<=N/\iv=K Q (i:Int)/\Hid (DI w wr [some (w.heap.size,.cell 25 (E g la k)),some (w.heap.size+1,.cell 25 (E c lb d)),some (w.heap.size+1+1,.cell 25 (E none 0 0)),some (B3,.rat L),some (B4,.rat (L^i))])) λiv _=>N-(intOf iv).toNat
 case atStart=>exact⟨0,Ap _,J,M4⟩
 case round=>
  clear M4;obtain⟨i,hi,rfl,l⟩:=hrel;by_cases ap:i<N
  . have Qe:=(Qb.o.1 i).2 ap;have df:=Qb.o.2;obtain⟨s7,a7,l7,c7,t7,b7,k7,d7,n7,r7,i7,j7⟩:=l.o.rat (i:=3) J;have cj:=n7.kb;obtain⟨s8,a8,l8,c8,t8,b8,k8,d8,R,r8,i8,j8⟩:=l.o.rat (i:=4) J;have Qi:=R.kb;have Qf:=R.fb;have S:=Z (Kr _ _ (L^i) L wr r8 r7 (Qc.o i O) (by have:=Qc.o 1 O;rwa[Rat.pow_one]at this));rw[<-Rat.pow_succ]at S;go_upto_region 6 with(go_at_call 179;refine S.o.mono ?_;clear S;rintro e w6 ⟨u6,rfl,bu,hq⟩;obtain⟨s8,a8,l8,c8,t8,b8,k8,d8,rfl⟩:=Jg.form bu;clear Qi;have Qi:=(R.below hq).kb;clear Qf;have Qf:=(R.below hq).fb)
    obtain⟨V9,n⟩:=ex ((((w6.setCell ⟨B4,0,none⟩ (o s8)).setCell ⟨B4,1,none⟩ (E a8 l8 c8)).setCell ⟨B4,2,none⟩ (o t8)).setCell ⟨B4,3,none⟩ (E b8 k8 d8));have a:DI w ((((w6.setCell ⟨B4,0,none⟩ (o s8)).setCell ⟨B4,1,none⟩ (E a8 l8 c8)).setCell ⟨B4,2,none⟩ (o t8)).setCell ⟨B4,3,none⟩ (E b8 k8 d8)) [some (w.heap.size,.cell 25 (E g la k)),some (w.heap.size+1,.cell 25 (E c lb d)),some (w.heap.size+1+1,.cell 25 (E none 0 0)),some (B3,.rat L),some (B4,.rat (L^(i+1)))]:=DI.putRat (l.o.below hq) (i:=4) J bu;rw[n]at a;rw[n];have M6:Hid (DI w V9 [some (w.heap.size,.cell 25 (E g la k)),some (w.heap.size+1,.cell 25 (E c lb d)),some (w.heap.size+1+1,.cell 25 (E none 0 0)),some (B3,.rat L),some (B4,.rat (L^(i+1)))]):=Z (a);clear l;clear a n;go_wp2_with fail
    grind[intOf]
  . have Qe:¬(i:Int)<t:=λh=>ap ((Qb.o.1 i).1 h);obtain rfl:i=N:=O
    obtain⟨f9,cn,ei,co,fg,b10,ed,de,bz,r10,dx,dz⟩:=l.o.rat (i:=4) J;have ce:=bz.kb;have c0:=(l.o.cell (i:=0) J).1.cell;have n1:=(l.o.cell (i:=2) J).1;have Qd:=Z l.o.2.2;have T:=Z (Wv (s #[E g la k]) _ ps (L^i) wr (HP.o wr Qd.o) r10 Qj.o (Qc.o i (Aa _)) Ql.o);rw[HT.o]at T;go_wp2_with(go_at_call 236;refine T.o.mono ?_;clear T;rintro e G ⟨u5,rfl,r,z⟩;obtain⟨a7,l7,c7,rfl⟩:=r.form;have P:=boxed_below n1 z;have x0:=P.cell;have x1:=P.frozen;have Qq:=Z (MT P (x:=E a7 l7 c7) r);have Qn:=Z ((Bt Qd.o z).setCell (p:=⟨w.heap.size+1+1,0,none⟩) (by show w.heap.size<=w.heap.size+1+1;omega) (E a7 l7 c7));clear r z P)
    exact A0 (by simp[results,results237,go_sem,x0]) J ⟨_,J,Qq.o,Qn.o⟩
theorem oZ{A:Nat}(p:Ed A ps)(c:Ed A qs)(tq:Jc qs=qs)(q0:qs≠[])(hA:1<=A)(hb:4*((ps.length+2)*(A+1))<=1000000000):
 Sqs ps/\Sqs qs/\(∀i,i<=ps.length+1-qs.length->Sq (Yv (cf qs (qs.length-1))^i))/\(∀i,Sq (cf ps i*Ej ps qs))/\Sqs (XS ps qs)/\(∀i,DR A (cf qs i))/\
 ∃l:Int,Dvn 1 1 l ((ps.length+2)*A+1) A (XS ps qs) qs:=by
 have v:(ps.length+2)*(A+1)=(ps.length+2)*A+(ps.length+2):=DG
 have G:=Ae.2 q0;obtain⟨l,m,n⟩:=c (qs.length-1);have r:l≠0:=λe=>by
  have:=Js tq q0;rw[n,e]at this;exact this J
 have B:Yv (cf qs (qs.length-1))=((l.natAbs:Int):Rat):=by
  rw[n];unfold Yv;have a:((l:Rat)<0)↔l<0:=by
   rw[show(0:Rat)=((0:Int):Rat)from J];exact Rat.intCast_lt_intCast
  split
  . rename_i h;rw[a]at h;rw[<-Rat.intCast_neg];congr 1;omega
  grind
 have g:∀i:Nat,∃z:Int,Sm (i*A+1) z/\Yv (cf qs (qs.length-1))^i=(z:Rat):=λi=>by
  refine⟨(l.natAbs:Int)^i,?_,?_⟩
  . refine Sm.powZ ?_ i;unfold Sm at m ⊢;rwa[AF]
  grind
 have j:∀(k:Nat) (z:Int),Sm k z->k<=1000000000->1<=k->Sq (z:Rat):=λk z u hk a=>Sq.of ((OY (D:=1) DJ u DG).smq DJ (Sm.one k a)) hk;have x:ps.length+1-qs.length<=ps.length:=O
 have q:∀i:Nat,i<=ps.length->i*A<=(ps.length+2)*A:=λi hi=>Ad _ O;have d:Ed ((ps.length+2)*A+1) (XS ps qs):=λi=>by
  obtain⟨z,a,b⟩:=p i;obtain⟨y,f,t⟩:=g (ps.length+1-qs.length);refine⟨z*y,(a.mul f).mono ?_,?_⟩
  . have w:(ps.length+1-qs.length+1)*A<=(ps.length+2)*A:=Ad _ O;grind
  . unfold XS Ej;rw[YB,b,t,At]
 have hA9:A<=(ps.length+2)*A:=by
  grind
 refine⟨Sqs.of λi=>Sq.of (p.smq hA i) O,Sqs.of λi=>Sq.of (c.smq hA i) O,λi hi=>?_,λi=>?_,Sqs.of λi=>Sq.of (d.smq O i) O,c.smq hA,l,?_⟩
 . obtain⟨z,a,b⟩:=g i;rw[b];exact j _ z a (by have:=q i O;omega) O
 . obtain⟨z,a,b⟩:=d i;have f:cf ps i*Ej ps qs=(z:Rat):=by rw[<-b];unfold XS;rw[YB]
   rw[f];exact j _ z a O O
 . refine⟨DJ,Sm.one _ O,d.cdl,DJ,Sm.one _ hA,c.cdl,r,m,?_⟩;grind[An]
def oc(tp:Jc ps=ps)(tq:Jc qs=qs)(q0:qs≠[]):(XS ps qs).length=ps.length:=YV (RQ tq q0) tp
def oe(A:Nat)(va vb:I)(ps qs:List Rat)(w:F)(N:Je w va ps)(hb:Je w vb qs)(wp:Ed A ps)(wq:Ed A qs)(tp:Jc ps=ps)(tq:Jc qs=qs)(q0:qs≠[])(hA:1<=A)(ae:4*((ps.length+2)*(A+1))<=1000000000)(hr:Ln A (J6 ps qs)):
 Calls X 185 #[va,vb] w λe w'=>∃u,e=.returned u/\Je w' u (XW ps qs)/\Bl w w':=by
 obtain⟨s1,s2,s3,s4,s5,s6,l,k⟩:=oZ wp wq tq q0 hA ae;have b1:(ps.length+2)*(A+1)=(ps.length+2)*A+(ps.length+2):=DG
 obtain⟨m,n⟩:=ex ((XS ps qs).length-(qs.length-1));have Qg:m<=ps.length:=by rw[oc tp tq q0]at n;omega
 have b2:m*(A+1)<=ps.length*(A+1):=Ad _ Qg;have b3:(ps.length+2)*(A+1)=ps.length*(A+1)+2*(A+1):=A4 _ _ _;have Qj:=Z (λ(V:F) (x y:I) (d:Je V x (XS ps qs)) (g:Je V y qs)=>ySplit_n A x y (XS ps qs) qs V d g s5 s6 (JH _ _) tq q0 (by
  rw[n];exact k.sizes O))
 have Qf:=(k.rem n).1;have z:=k.den m;have Qm:=Z λ(V:F) (x:I) (d:Je V x (J6 (XS ps qs) qs))=>RW (1*l^m) ((ps.length+2)*A+1+m*(A+1)+1) x (J6 (XS ps qs) qs) V d (XJ _ _) z.1 z.2 (λi=>(Qf i).mono O) O;have D:=Ws tq q0 hr;have W:=Sqs.of λi=>Sq.of (D.1.smq hA i) O;have Qh:Sqs (JR [] (Jo (J6 (XS ps qs) qs))):=Sqs.of λi=>Sq.of (D.2.smq hA i) O;have Qn:=Z λ(V:F) (y:I) (g:Je V y (Jo (J6 (XS ps qs) qs)))=>VW _ y [] (Jo (J6 (XS ps qs) qs)) V (VV V) g (Sqs.of λi=>by rw[Xu];exact FO) W Qh;have Qi:=Z λ(V:F) (x y:I) (d:Je V x ps) (g:Je V y qs)=>oY x y ps qs V d g s1 s2 q0 s3 s4;clear s1 s2 s3 s4 s5 s6 k b1 n Qg b2 b3 Qf z D W Qh wp wq tp tq q0 hA ae hr;obtain⟨R,la,S,rfl⟩:=N.form;obtain⟨q,lb,r,rfl⟩:=hb.form;obtain⟨W0,ah,U⟩:=IK 25 (.cell 25 (E R la S)) EN 25 (.cell 25 (E q lb r)) EN 25 (.cell 25 (E none 0 0)) EN (w:=w);have HP:=Z λ(V:F) (G:Bl w V)=>N.below G;have T:=Z λ(V:F) (G:Bl w V)=>hb.below G;clear N hb;go_enter func185,ntmps185
 go_upto_region 1 with fail
 rw[ah.o];refine YE Dh [[],[],[0,1],[],[2,3,2],[4],[5],[5],[5],[],[],[9,6,4,0,1,2,3,4,5,6,9,10],[10,7,11,0,1,2,3,4,5,6,7,9,10,11],[8,12,0,1,2,3,4,5,6,7,8,9,10,11,12]] [.eq (s #[E R la S]),.eq (s #[E q lb r]),.poly (XS ps qs),.eq (s #[E q lb r]),.tup2 (.poly (Jm (XS ps qs) qs)) (.poly (J6 (XS ps qs) qs)),.tup2 (.poly (Jm (XS ps qs) qs)) (.poly (J6 (XS ps qs) qs)),.poly (Jm (XS ps qs) qs),.poly (J6 (XS ps qs) qs),.eq (o true),.ptr,.ptr,.eq undef,.eq undef,.eq (o true)] [9,10,11,12] (λb v V=>DI w V [some (w.heap.size,.cell 25 (E R la S)),some (w.heap.size+1,.cell 25 (E q lb r)),some (w.heap.size+1+1,.cell 25 (E none 0 0)),nb b v 0 2 (.poly []) (.poly (Jm (XS ps qs) qs)),nb b v 1 3 (.poly []) (.poly (J6 (XS ps qs) qs))]) ((U.o.none).none).drew (SR (.vl J λ_ j=>FN 0 j)<|SR (.vl J λ_ j=>FN 1 j)<|SR (.cl λh j=>c2 (h.e 0) (h.e 1) (Qi.o _ _ _ (HP.o _ j.2.2) (T.o _ j.2.2)))<|SR (.vl J λ_ j=>FN 1 j)<|SR (.cl λh j=>c2 J (h.e 3) (Nz (Qj.o _ _ _ (h.g 2) (T.o _ j.2.2))))<|SR (.vl J λh _=>mw (h.g 4))<|SR (.vl J λh _=>N8 (h.g 5))<|SR (.vl J λh _=>N9 (h.g 5))<|SR (.vl J λh _=>OA (h.g 5))<|SR (.wr J λ_ j=>Ks 3 j)<|SR (.wr J λ_ j=>Ks 4 j)<|SR (.wr J λh j=>GP 3 j (h.g 6) (hp:=h.g 9))<|SR (.wr J λh j=>GP 4 j (h.g 7) (hp:=h.g 10))<|SR (.vl J λh _=>aw (h.g 8)) Stp.end_)
  λf V2 hF c=>?_
 refine DO ?_;rw[hF.e 0,hF.e 1,hF.e 3,hF.e 8,hF.e 13];obtain⟨B3,H⟩:=hF.p 9;obtain⟨B4,M⟩:=hF.p 10;have c:=Du c;simp only[H,M]at c;rw[H,M];have t:=Z c;clear c hF H M;clear U;obtain⟨a5,l5,c5,a,r5⟩:=t.o.poly2 (i:=4) J;have an:=a.cell;have n1:=(t.o.cell (i:=2) J).1;have Qe:=Z t.o.2.2;have H1:=Z (Qm.o V2 _ r5);go_wp2_with(first
  |(go_at_call 184;refine H1.o.mono ?_;rintro e w4 ⟨u4,rfl,am,ai⟩)
  |(go_at_call 15;refine(Qn.o _ _ am).mono ?_;rintro e w5 ⟨u5,rfl,P,_,aj⟩;have B:=Bt ai aj;obtain⟨a7,l7,c7,rfl⟩:=P.form;have a:=boxed_below n1 B;have x0:=a.cell;have x1:=a.frozen;have Ql:=Z (MT a (x:=E a7 l7 c7) P);have Qk:=Z ((Bt Qe.o B).setCell (p:=⟨w.heap.size+1+1,0,none⟩) (by show w.heap.size<=w.heap.size+1+1;omega) (E a7 l7 c7));clear P B a))
 exact A0 (by simp[results,results185,go_sem,x0]) J ⟨_,J,Ql.o,Qk.o⟩
theorem Ww(v:I)(ps:List Rat)(w:F)(h:Je w v ps)(aj:Sqs ps)(an:Jc ps=ps)(am:∀i,Sq (cf ps i/cf ps (ps.length-1))):
 Calls X 108 #[v] w λe w'=>∃u,e=.returned u/\Je w' u (Jr ps)/\Bl w w':=by
 obtain⟨a,la,c,rfl⟩:=h.form;obtain⟨bg,ap,aq,bi,_⟩:=h.row.forms;obtain⟨V0,ae,k⟩:=LN 25 (.cell 25 (E a la c)) EN 25 (.cell 25 (E none 0 0)) EN (w:=w);have M1:=k.o;obtain⟨n,hn⟩:=ex (ps.length:Nat);obtain⟨e0,ai⟩:=ex ((n:Int)-1:Int);have B:=Z (Yq (s #[E a la c]) ps V0 (h.below M1.2.2));rw[hn,ai]at B;have bj:e0+1=(n:Int):=O
 have bm:IntKind.i64.wrap (n:Int)=(n:Int):=by rw[BI];omega
 have Qm:∀W:F,(Instr.makeSlice 22 (K Q (n:Int)) (K Q (n:Int))).run X W=.ok (E (some ⟨W.heap.size,0,none⟩) n n) (W.alloc (C (YD n) 50)):=λW=>RT n O W;obtain⟨x,Qf,Qi,U⟩:=Ds (λ(V:F) (hB:Bl w V)=>h.below hB) aj am (show ps.length=n from hn);have Qb:n<=1099511627776:=O
 have Qr:=Z an;clear h aj am bg ap aq hn ai M1 bi an;go_enter func108,ntmps108
 go_upto_region 1 with fail
 rw[ae.o];have c0:=(k.o.cell (i:=0) J).1.cell;go_upto_region 2 with(go_at_call 75;refine B.o.mono ?_;clear B;rintro e w1 ⟨rfl,ah⟩)
 have z:DI w (w1.alloc (C (YD n) 50)) [some (w.heap.size,.cell 25 (E a la c)),some (w.heap.size+1,.cell 25 (E none 0 0)),some (w1.heap.size,.rats (List.replicate n 0))]:=(k.o.below ah).push (.rats (List.replicate n 0)) (Me _ n);obtain⟨V1,D⟩:=ex (w1.alloc (C (YD n) 50));obtain⟨r,H⟩:=ex (w1.heap.size);rw[D,H]at z;rw[D,H];have Qh:=Z z;clear z D H ah c0 k ae Qm;go_wp2;go_loopw [11] (λR wr=>∃(i:Nat) (S:List Rat),i<=n/\R=K Q (i:Int)/\Hid (Iw (λj=>cf ps j/cf ps (ps.length-1)) n i S)/\Hid (DI w wr [some (w.heap.size,.cell 25 (E a la c)),some (w.heap.size+1,.cell 25 (E none 0 0)),some (r,.rats S)])) λR _=>n-(intOf R).toNat
 case atStart=>exact⟨0,_,Ap _,J,Z ⟨AK,λj=>by rw[Ya,BD O]⟩,Qh⟩
 case round=>
  obtain⟨i,S,hi,rfl,d,g⟩:=hrel;clear Qh;by_cases M:i<n
  . have bn:(i:Int)<(n:Int):=O
    have Qn:=Z (show i<S.length by rw[d.o.1];exact M);have Qg:=Z (show i<ps.length by rw[U.o];exact M);go_wp2_with fail
    have Qj:=g.o.drew;obtain⟨m,N⟩:=ex (ps.length-1:Nat);obtain⟨Qq,Ql,Qo⟩:=DY (show(ps.length:Int)-1=(m:Int)by have:=Qg.o;omega) N (show decide (cf ps m≠0)=true by rw[<-N];exact BG (Js Qr.o λe=>by have:=Qg.o;rw[e]at this;simp at this));clear N;refine YE Dh [[],[],[],[],[2,3],[],[],[6,4],[5,7,7],[4,8,8],[9],[10],[10],[0,1,0,1,2,3,4,5,6,7,8,9,10,11],[13,11,9,0,1,2,3,4,5,6,7,8,9,10,11]] [.eq (E (some ⟨r,0,none⟩) n n),.eq (K Q (i:Int)),.eq (s #[E a la c]),.eq (K Q (i:Int)),.rat (cf ps i),.eq (s #[E a la c]),.eq (s #[E a la c]),.eq (K Q (m:Int)),.rat (cf ps m),.tup1 (.rat (cf ps i/cf ps m)),.tup1 (.rat (cf ps i/cf ps m)),.rat (cf ps i/cf ps m),.eq (o true),.eq (L (some ⟨r,i*4,none⟩)),.eq undef] [14] (λb _ V=>DI w V [some (w.heap.size,.cell 25 (E a la c)),some (w.heap.size+1,.cell 25 (E none 0 0)),some (r,if b.getD 0 false then .rats (S.set i (cf ps i/cf ps m))else .rats S)]) Qj (SR (.vl J λ_ _=>mv)<|SR (.vl J λ_ _=>mv)<|SR (.vl J λ_ j=>FN 0 j)<|SR (.vl J λ_ _=>mv)<|SR (.cl λh j=>c2 (h.e 2) (h.e 3) (by have q:=Hb _ ps (i:Int) _ (x.o _ j.2.2);rw[IM]at q;exact q))<|SR (.vl J λ_ j=>FN 0 j)<|SR (.vl J λ_ j=>FN 0 j)<|SR (.cl λh j=>c1 (h.e 6) (rv (Qq.o ▸ Yq _ ps _ (x.o _ j.2.2))))<|SR (.cl λh j=>c2 (h.e 5) (h.e 7) (by have q:=Hb _ ps (m:Int) _ (x.o _ j.2.2);rw[IM]at q;exact q))<|SR (.cl λh _=>N0 (Qo.o ▸ QP _ _ (cf ps i) (cf ps m) _ (h.g 4) (h.g 8) (Qf.o.at i) (Qf.o.at m)))<|SR (.vl J λh _=>mw (h.g 9))<|SR (.vl J λh _=>OB (h.g 10))<|SR (.vl J λh _=>OC (h.g 10))<|SR (.vl J λh _=>⟨_,by refine DO ?_;rw[h.e 0,h.e 1];go_simp,J⟩)<|SR (.wr J λh j=>MP 2 j Qn.o (h.g 11) (h.e 13)) Stp.end_)
     λf V hF l=>?_
    refine DO ?_;rw[hF.e 0,hF.e 1,hF.e 2,hF.e 3,hF.e 5,hF.e 6,hF.e 7,hF.e 12,hF.e 13];have l:=Du l;have HO:=Z l;clear l hF;rw[<-Ql.o]at HO;go_wp2_with fail
    go_roundw
    case rel=>exact⟨i+1,_,O,by go_num,Z (d.o.next M),HO⟩
    case measure=>simp[intOf];omega
  . obtain rfl:i=n:=O
    have hE:=g.o.rats (i:=2) J;have y:=hE.row (n:=i) (cap:=i) (by rw[d.o.1];exact Aa _) (Aa _) O Qb;rw[Af (by rw[d.o.1];exact Aa _)]at y;have A:=Z (QV _ S wr y (Sqs.of λj=>by
     rw[d.o.2 j];split
     . exact Qi.o j
     . exact FO))
    rw[d.o.done (T:=Jr ps) (JH _ _) (λj hj=>by grind[Jr,YB]) λj hj=>by unfold Jr;rw[YB,Yn (by rw[U.o];exact hj),AZ]]at A;clear hE y;go_wp2_with(go_at_call 178;refine A.o.mono ?_;clear A;rintro e w5 ⟨u5,rfl,P,_,G⟩;obtain⟨a7,l7,c7,rfl⟩:=P.form;have t:=boxed_below (g.o.cell (i:=1) J).1 G;have x0:=t.cell;have x1:=t.frozen;have Qp:=Z (FP t (E a7 l7 c7) P.row);have Qk:=Z ((Bt g.o.2.2 G).setCell (p:=⟨w.heap.size+1,0,none⟩) (by show w.heap.size<=w.heap.size+1;omega) (E a7 l7 c7));clear P G t)
    exact A0 (by simp[results,results108,go_sem,x0]) J ⟨_,J,⟨_,J,Qp.o⟩,Qk.o⟩
end M3
def GD:Nat->List Rat->List Rat->List (List Rat)
 |0,a,_=>[a]
 |n+1,a,b=>if b=[]then [a]else a::GD n b (XW a b)
theorem og:∀(n m:Nat) (a b:List Rat),Jc b=b->b.length<=n->b.length<=m->GD n a b=GD m a b:=by
 intro n;induction n with
 |zero=>
  intro m a b _ h _;have hb:b=[]:=Mg O;subst hb;cases m with
  |zero=>rfl
  |succ m=>simp[GD]
 |succ n f=>
  intro m a b tb h d;by_cases c:b=[]
  . grind
  . have hl:0<b.length:=Ae.2 c;cases m with
    |zero=>omega
    |succ m=>
     have e:=Xs (a:=a) tb c;grind[GD,Iu]
def ES(a b:List Rat):List (List Rat):=GD b.length a b
theorem Ky(a:List Rat):ES a []=[a]:=rfl
theorem XN{a b:List Rat}(tb:Jc b=b)(c:b≠[]):ES a b=a::ES b (XW a b):=by
 have d:=Xs (a:=a) tb c;have hl:0<b.length:=Ae.2 c;unfold ES;obtain⟨n,hn⟩:∃n,b.length=n+1:=⟨b.length-1,O⟩;grind[GD,og,Iu]
def Xh(p q:List Rat):List (List Rat):=ES (Jo p) (Jo q)
def Je.setB{V:F}{v:I}{ps:List Rat}(h:Je V v ps){B:Nat}{a:Option Addr}{l c:Nat}(b:Boxed V B 25 (E a l c)){u:I}:Je (V.setCell ⟨B,0,none⟩ u) v ps:=M3.MT b h
namespace M3
def Dc(V:F)(B:Nat)(a:Option Addr)(l c:Nat):Prop:=Boxed V B 25 (E a l c)
section
variable {V V':World} {B B':Nat} {a a':Option Addr} {l c l' c':Nat}
def Dc.cell(h:Dc V B a l c):V.cell? ⟨B,0,none⟩=some (E a l c):=Boxed.cell h
def Dc.frozen(h:Dc V B a l c):V.frozen? ⟨B,0,none⟩=false:=Boxed.frozen h
def Dc.below(h:Dc V B a l c)(hb:Bl V V'):Dc V' B a l c:=boxed_below h hb
def Dc.far(h:Dc V B a l c)(b:B≠B'){u:I}:Dc (V.setCell ⟨B',0,none⟩ u) B a l c:=Bx.far (cs:=#[E a l c]) h (p:=⟨B',0,none⟩) b u
def Dc.put(h:Dc V B a l c):Dc (V.setCell ⟨B,0,none⟩ (E a' l' c')) B a' l' c':=(show Boxed V B 25 (E a l c)from h).set _
end
def GB(G:List (List Rat)->F->Prop):Prop:=∀H W W',G H W->Bl W W'->G H W'
def Mn(B4 B5:Nat)(G:List (List Rat)->F->Prop):Prop:=∀H W B a l c u,B=B4\/B=B5->Dc W B a l c->G H W->G H (W.setCell ⟨B,0,none⟩ u)
def He(B4 B5:Nat)(G:List (List Rat)->F->Prop)(H:List (List Rat))(V:F)(v4 v5:I)(p q:List Rat):Prop:=(GB G/\Mn B4 B5 G)/\G H V/\Je V v4 p/\Je V v5 q
section
variable {B4 B5:Nat} {G:List (List Rat)->World->Prop} {H:List (List Rat)} {V V':World} {v4 v5:Value} {p q:List Rat}
def He.below(h:He B4 B5 G H V v4 v5 p q)(hb:Bl V V'):He B4 B5 G H V' v4 v5 p q:=⟨h.1,h.1.1 _ _ _ h.2.1 hb,h.2.2.1.below hb,h.2.2.2.below hb⟩
def He.put(h:He B4 B5 G H V v4 v5 p q){B:Nat}(d:B=B4\/B=B5){a:Option Addr}{l c:Nat}(b:Dc V B a l c){u:I}:He B4 B5 G H (V.setCell ⟨B,0,none⟩ u) v4 v5 p q:=⟨h.1,h.1.2 _ _ _ _ _ _ _ d b h.2.1,h.2.2.1.setB b,h.2.2.2.setB b⟩
end
def Mo(V:F)(B:Nat)(r:List Rat):Prop:=∃a l c,Dc V B a l c/\Je V (s #[E a l c]) r
def Mo.below{V V':F}{B:Nat}{r:List Rat}(h:Mo V B r)(hb:Bl V V'):Mo V' B r:=by
 obtain⟨a,l,c,b,d⟩:=h;exact⟨a,l,c,b.below hb,d.below hb⟩
def Mp(V:F)(B:Nat):Nat:=match V.cell? ⟨B,0,none⟩with|some (E _ l _)=>l|_=>0
def Dc.len{V:F}{B:Nat}{a:Option Addr}{l c:Nat}(h:Dc V B a l c):Mp V B=l:=by
 unfold Mp;rw[h.cell]
def Wx{V:F}{a:Option Addr}{l c:Nat}{ps:List Rat}(h:Je V (s #[E a l c]) ps):l=ps.length:=h.row.forms.1
def chnL_head(a b:List Rat):∃t,ES a b=a::t:=by
 unfold ES;cases b.length with
 |zero=>exact⟨_,J⟩
 |succ n=>
  rw[GD];split
  . exact⟨_,J⟩
  . exact⟨_,J⟩
def oh(B4 B5 n l:Nat)(C:List (List Rat))(G:List (List Rat)->F->Prop):Prop:=∀H W a b c4 c d c5 p q,H++[p] <+: C->B4<W.heap.size->B5<W.heap.size->G H W->Dc W B4 a b c4->Dc W B5 c d c5->Je W (s #[E a b c4]) p->Je W (s #[E c d c5]) q->
 YieldAt Fence.wide (n-1) X l #[s #[E a b c4]] W λe W'=>e=.returned (o true)/\G (H++[p]) W'/\Dc W' B4 a b c4/\Dc W' B5 c d c5/\Je W' (s #[E a b c4]) p/\Je W' (s #[E c d c5]) q
structure ChOk(K:Nat)(p q:List Rat):Prop where
 tp:Jc p=p
 tq:Jc q=q
 cp:∃D:Int,D≠0/\Sm K D/\EP D K p
 cq:∃D:Int,D≠0/\Sm K D/\EP D K q
 le:4*((max p.length q.length+2)*(Da K p q+1))<=1000000000
 ln:max p.length q.length<=1000
def ChOk.lp{K:Nat}{p q:List Rat}(h:ChOk K p q):Ln K p:=by obtain⟨D,a,_,b⟩:=h.cp;exact b.ln a
def ChOk.lq{K:Nat}{p q:List Rat}(h:ChOk K p q):Ln K q:=by obtain⟨D,a,_,b⟩:=h.cq;exact b.ln a
theorem ChOk.bd{K:Nat}{p q:List Rat}(h:ChOk K p q):Da K p q<=1000000000/\K<=1000000000/\p.length+q.length<=1000000000/\1<=Da K p q:=by
 have a:=h.le;grind[Da]
def oi(K n:Nat)(hn:1<=n)(Bp Bq:Nat)(pa qa:Option Addr)(pl pc ql qc:Nat)(p q:List Rat)(g:ChOk K p q)(l:Nat)(B:Nat->Nat->List (List Rat)->F->Prop)(w:F)(bm:Dc w Bp pa pl pc)(bn:Dc w Bq qa ql qc)(ip:Je w (s #[E pa pl pc]) p)(iq:Je w (s #[E qa ql qc]) q)
(bg:∀B4 B5,GB (B B4 B5))(bi:∀B4 B5,w.heap.size<=B4->w.heap.size<=B5->Mn B4 B5 (B B4 B5))(hY:∀B4 B5,w.heap.size<=B4->w.heap.size<=B5->oh B4 B5 n l (Xh p q) (B B4 B5))(h0:∀B4 B5 V,w.heap.size<=B4->w.heap.size<=B5->Bl w V->B B4 B5 [] V):
 CallsIn Fence.wide n X 183 (#[.func (.yield l) #[] #[]]++#[L (some ⟨Bp,0,none⟩),L (some ⟨Bq,0,none⟩)]) w λe W'=>(∃v,e=.returned v)/\∃B4 B5 H a,(w.heap.size<=B4/\w.heap.size<=B5)/\B B4 B5 (H++[a]) W'/\Xh p q=H++[a]/\Chn p q (Da K p q) a []:=by
 have Qq:=Z λ(V:F) (T:Bl w V)=>(bm.below T).cell;have Qi:=Z λ(V:F) (T:Bl w V)=>(bn.below T).cell;have Qo:=Z (λ(V:F) (T:Bl w V)=>show Calls X 184 #[s #[E pa pl pc]] V λe w'=>∃u,e=.returned u/\Je w' u (Jo p)/\Bl V w' by
  obtain⟨D,h1,h2,N⟩:=g.cp;exact RW D K _ p V (ip.below T) g.tp h1 h2 N g.bd.2.1)
 have Qh:=Z (λ(V:F) (T:Bl w V)=>show Calls X 184 #[s #[E qa ql qc]] V λe w'=>∃u,e=.returned u/\Je w' u (Jo q)/\Bl V w' by
  obtain⟨D,h1,h2,N⟩:=g.cq;exact RW D K _ q V (iq.below T) g.tq h1 h2 N g.bd.2.1)
 obtain⟨Qp,Qr,Qs⟩:=DY h0 (Chn.start g.tp g.tq g.lp g.lq g.bd.2.2.1) λ(a b:List Rat) (h:Chn p q (Da K p q) a b) (hb:b≠[])=>Chn.next g.tp g.tq g.lp g.lq g.bd.2.2.1 h hb;have Ua:=Z (λ(V:F) (x y:I) (a b:List Rat) (hx:Je V x a) (hy:Je V y b) (h:Chn p q (Da K p q) a b) (hb:b≠[])=>oe (Da K p q) x y a b V hx hy h.wa h.wb h.ta h.tb hb g.bd.2.2.2 (by
  have h1:=h.la;have h2:(a.length+2)*(Da K p q+1)<=(max p.length q.length+2)*(Da K p q+1):=Ad _ O;have N:=g.le;omega) (h.nx hb))
 obtain⟨Qm,Qj,M1⟩:=DY (show ∀B4 B5,w.heap.size<=B4->w.heap.size<=B5->GB (B B4 B5)/\Mn B4 B5 (B B4 B5)from λB4 B5 h4 h5=>⟨bg B4 B5,bi B4 B5 h4 h5⟩) hY (DI.nil w);clear g bm bn ip iq bg bi hY h0;refine Bk func183 J trivial ?_ J;simp only[ntmps183,Am,Ai,AH,Nat.reduceAdd,Nat.reduceSub,Ar,As,AE,Az,Al,AC];gi_wp2_with fail
 refine LP (Or.inl J) Dh [[],[0],[],[2],[],[],[1,4],List.range 7] [.eq (s #[E pa pl pc]),.poly (Jo p),.eq (s #[E qa ql qc]),.poly (Jo q),.ptr,.ptr,.eq undef,.eq undef] [4,5,6,7] (λo v V=>DI w V [nb o v 0 2 (.poly []) (.poly (Jo p)),nb o v 1 3 (.poly []) (.poly (Jo q))]) M1.o.none.none.drew (SR (.vl J λ_ j=>⟨_,by have e0:=Qq.o _ j.2.2;refine DO ?_;go_simp,J⟩)<|SR (.cl λh j=>c1 (h.e 0) (Qo.o _ j.2.2))<|SR (.vl J λ_ j=>⟨_,by have e0:=Qi.o _ j.2.2;refine DO ?_;go_simp,J⟩)<|SR (.cl λh j=>c1 (h.e 2) (Qh.o _ j.2.2))<|SR (.wr J λ_ j=>Ks 0 j)<|SR (.wr J λ_ j=>Ks 1 j)<|SR (.wr J λh j=>GP 0 j (h.g 1) (hp:=h.g 4))<|SR (.wr J λh j=>GP 1 j (h.g 3) (hp:=h.g 5)) Stp.end_)
  λf V2 hF S=>?_
 refine DO ?_;obtain⟨B3,am⟩:=hF.p 4;obtain⟨B4,an⟩:=hF.p 5;have S:=Du S;simp only[am,an]at S;rw[hF.e 0,hF.e 2,am,an];replace S:=Z S;clear hF am an M1;have R:=S;clear S;obtain⟨a5,c,c5,n5,r5⟩:=R.o.poly2 (i:=0) J;obtain⟨a6,l6,c6,n6,r6⟩:=R.o.poly2 (i:=1) J;have M:=Z (show B3≠B4/\w.heap.size<=B3/\w.heap.size<=B4 from⟨R.o.ne 0 1 J J DJ,R.o.ge 0 J,R.o.ge 1 J⟩);obtain⟨Qe,Qc,Qf,Qn⟩:=Ds (Qp.o B3 B4 V2 M.o.2.1 M.o.2.2 R.o.2.2) (Qm.o B3 B4 M.o.2.1 M.o.2.2) (Qj.o B3 B4 M.o.2.1 M.o.2.2) (show ∀H a W,B B3 B4 (H++[a]) W->Xh p q=H++[a]->Chn p q (Da K p q) a []->∃B4 B5 H a,(w.heap.size<=B4/\w.heap.size<=B5)/\B B4 B5 (H++[a]) W/\Xh p q=H++[a]/\Chn p q (Da K p q) a []from λH a W h1 h2 N=>⟨B3,B4,H,a,⟨M.o.2.1,M.o.2.2⟩,h1,h2,N⟩);clear Qp Qm Qj;obtain⟨G,hG⟩:=ex (B B3 B4);rw[hG]at Qe Qc Qf Qn;clear hG;have Qg:Hid (He B3 B4 G [] V2 (s #[E a5 c c5]) (s #[E a6 l6 c6]) (Jo p) (Jo q)):=Z ⟨Qc.o,Qe.o,r5,r6⟩;have N4:Hid (Dc V2 B3 a5 c c5):=Z n5;have N5:Hid (Dc V2 B4 a6 l6 c6):=Z n6;clear n5 n6 r5 r6 R Qo Qh Qe Qq Qi;gi_wp2;gi_loopw [] (λwr=>∃(H:List (List Rat)) (a b:List Rat) (A r:Option Addr) (z c4 c c5:Nat),Hid (He B3 B4 G H wr (s #[E A z c4]) (s #[E r c c5]) a b)/\Hid (Dc wr B3 A z c4)/\Hid (Dc wr B4 r c c5)/\Hid (Chn p q (Da K p q) a b)/\Hid (Xh p q=H++ES a b)) λwr=>Mp wr B4
 case atStart=>exact⟨[],_,_,_,_,_,_,_,_,Qg,N4,N5,Qr,Z J⟩
 case round=>
  clear Qg N4 N5 Qr;obtain⟨H,a,b,A,r,z,c4,c,c5,HG,H4,H5,HC,HH⟩:=hrel;obtain⟨fn,tmps,assign,body,hy,bj⟩:=Qf.o H wr A z c4 r c c5 a b (by obtain⟨t,ht⟩:=chnL_head a b;exact⟨t,by rw[HH.o,ht];simp⟩) (Bx.lt (cs:=#[E A z c4]) H4.o) (Bx.lt (cs:=#[E r c c5]) H5.o) HG.o.2.1 H4.o H5.o HG.o.2.2.1 HG.o.2.2.2;have e4:=H4.o.cell;gi_wp2;refine bj.mono ?_;rintro e W3 ⟨rfl,aq,ap,aj,bu,ah⟩;have Ql:Hid (He B3 B4 G (H++[a]) W3 (s #[E A z c4]) (s #[E r c c5]) a b):=Z ⟨Qc.o,aq,bu,ah⟩;obtain⟨Ug,Ud,U⟩:=DY (Wx ah) (H5.o.len) (Yq _ b W3 ah);have e5:=aj.cell;have Uc:=Z ap;have Uf:=Z aj;clear hy bj e4 aq ap aj bu ah HG H4 H5;by_cases P:b=[]
  . have HE:=Z (show Xh p q=H++[a]by rw[HH.o,P];rfl);have Qz:=Z (show Chn p q (Da K p q) a []by have:=HC.o;rwa[P]at this);rw[P,show((([]:List Rat).length:Int)-1)=-1 from J]at U;gi_wp2_with(refine⟨trivial,?_⟩;gi_at_call 75;refine((BH (n:=_)).2 U.o).mono ?_;clear U;rintro e w4 ⟨rfl,ae⟩)
    go_end0;exact⟨⟨_,J⟩,Qn.o H a _ (Ql.o.below ae).2.1 HE.o Qz.o⟩
  . obtain⟨m,hm⟩:=ex (b.length-1:Nat);have Qk:(b.length:Int)-1=(m:Int):=by have:=Ae.2 P;omega
    rw[Qk]at U;obtain⟨Qy,Ub,Qt,Qd⟩:=Ds (Qs.o a b HC.o P) (Xs (a:=a) HC.o.tb P) (show Xh p q=(H++[a])++ES b (XW a b)by rw[HH.o,XN HC.o.tb P,CG];rfl) λ(V:F) (x y:I) (hx:Je V x a) (hy:Je V y b)=>Ua.o V x y a b hx hy HC.o P;have bz:¬(m:Int)<0:=O
    clear hm Qk P;gi_wp2_with(refine⟨trivial,?_⟩;gi_at_call 75;refine((BH (n:=_)).2 U.o).mono ?_;clear U;rintro e w4 ⟨rfl,ae⟩)
    have Qv:=(Ql.o.below ae).below ((BA _ w4).drew);have Ue:=(Uc.o.below ae).below ((BA _ w4).drew);have Qw:=(Uf.o.below ae).below ((BA _ w4).drew);refine LP (Or.inl J) Dh [[],[],[],[1,2],[0,1,2,3],List.range 5] [.eq (s #[E r c c5]),.eq (s #[E A z c4]),.eq (s #[E r c c5]),.poly (XW a b),.eq undef,.eq undef] [4,5] (λo _ V=>He B3 B4 G (H++[a]) V (s #[E A z c4]) (s #[E r c c5]) a b/\(if o.getD 0 false then Dc V B3 r c c5 else Dc V B3 A z c4)/\if o.getD 1 false then Mo V B4 (XW a b)else Dc V B4 r c c5) ⟨Qv,Ue,Qw⟩ (SR (.vl J λ_ j=>⟨_,by have e0:=(show Dc _ B4 r c c5 from j.2.2).cell;refine DO ?_;go_simp,J⟩)<|SR (.vl J λ_ j=>⟨_,by have e0:=(show Dc _ B3 A z c4 from j.2.1).cell;refine DO ?_;go_simp,J⟩)<|SR (.vl J λ_ j=>⟨_,by have e0:=(show Dc _ B4 r c c5 from j.2.2).cell;refine DO ?_;go_simp,J⟩)<|SR (.cl (λh j=>c2 (h.e 1) (h.e 2) (Qd.o _ _ _ j.1.2.2.1 j.1.2.2.2)) (hJ:=λ_ _ _ _ h b=>⟨h.1.below b,QM h.2.1 (·.below b) (·.below b),QM h.2.2 (·.below b) (·.below b)⟩))<|SR (.wr J fun {_ V _} h j=>by
       have n:Dc V B3 A z c4:=j.2.1;have e0:=n.cell;have f0:=n.frozen;exact⟨.skip,undef,_,by refine DO ?_;rw[h.e 0];go_simp,Or.inr ⟨J,J⟩,J,λd v _ k=>k.set1 n J _,j.1.put (Or.inl J) n,n.put,(show Dc V B4 r c c5 from j.2.2).far λe=>M.o.1 e.symm⟩)<|SR (.wr J fun {f V _} h j=>by
       have n:Dc V B4 r c c5:=j.2.2;have e0:=n.cell;have f0:=n.frozen;have N:Je V (f 3) (XW a b):=h.g 3;obtain⟨x7,l7,c7,e⟩:=Je.form N;rw[e]at N;exact⟨.skip,undef,_,by refine DO ?_;rw[e];go_simp,Or.inr ⟨J,J⟩,J,λd v _ k=>k.set1 n J _,j.1.put (Or.inr J) n,(show Dc V B3 r c c5 from j.2.1).far M.o.1,x7,l7,c7,n.put,N.setB n⟩) Stp.end_)
     λf V hF SS=>?_
    refine DO ?_;obtain⟨ai,n6,x7,l7,c7,n7,i7⟩:=(show He B3 B4 G (H++[a]) V (s #[E A z c4]) (s #[E r c c5]) a b/\Dc V B3 r c c5/\Mo V B4 (XW a b)from SS);rw[hF.e 0,hF.e 1,hF.e 2];have Qx:Hid (He B3 B4 G (H++[a]) V (s #[E r c c5]) (s #[E x7 l7 c7]) b (XW a b)):=Z ⟨Qc.o,ai.2.1,ai.2.2.2,i7⟩;obtain⟨Qu,N6,N7⟩:=DY (show Mp V B4<Mp wr B4 by rw[n7.len,Ud.o,Wx i7,Ug.o];exact Ub.o) n6 n7;clear SS ai hF n6 n7 i7;gi_wp2;go_roundw
    case rel=>exact⟨H++[a],b,XW a b,_,_,_,_,_,_,Qx,N6,N7,Qy,Qt⟩
    case measure=>exact Qu.o
end M3
namespace M3
variable{ps:List Rat}{v:I}{W:F}
def Wy(n:Nat)(a d:Option Addr)(c b g f:Nat)(w:F):
 CallsIn Fence.wide n X 113 #[s #[E a c b],s #[E d g f]] w λe w'=>e=.returned (.func (.func 183) #[] #[L (some ⟨w.heap.size,0,none⟩),L (some ⟨w.heap.size+1,0,none⟩)])/\w'=(w.alloc (C #[E a c b] 25)).alloc (C #[E d g f] 25):=by
 refine Bk func113 J trivial ?_ J;simp only[ntmps113,Am,Ai,AH,Nat.reduceAdd,Nat.reduceSub,Ar,As,AE,Az,Al,AC];gi_wp2;go_ret;exact⟨J,J⟩
def RX(B B4 B5:Nat)(I:List (List Rat)->F->Prop)(H:List (List Rat))(W:F):Exit->Act->F->Prop
 |.normal,_,W'=>I H W'/\W.heap.size<=W'.heap.size/\(∀(k:Nat) (o:Obj),B<=k->o.isCells=false\/k=B4\/k=B5->W.heap[k]?=some o->W'.heap[k]?=some o)/\∀v ps,Je W v ps->Je W' v ps
 |_,_,_=>False
def Oc{W':F}{row:Option Nat}(hg:W.grownBy W' row)(a:∀r,row=some r->∃o:Obj,W.heap[r]?=some o/\o.isCells=false)(h:Je W v ps):Je W' v ps:=by
 obtain⟨u,e,h⟩:=h;exact⟨u,e,OO hg a h⟩
def Od{l:Nat}{o o':Obj}(hl:W.heap[l]?=some o)(a:o.isCells=false)(h:Je W v ps):Je (W.putObj l o') v ps:=
 Oc (BQ W l o') (λr e=>by cases e;exact⟨o,hl,a⟩) h
theorem Wz{g:Operand}{ps:Array Tmp}{assign body:Code}{Q:Exit->Act->F->Prop}{a:Act}{w:F}{n:Nat}
(h1:2<=n){K z A:Nat}{pa qa:Option Addr}{pl pc ql qc:Nat}{p q:List Rat}(cj:ChOk K p q)(bj:Dc w z pa pl pc)(bm:Dc w A qa ql qc)(ip:Je w (s #[E pa pl pc]) p)(iq:Je w (s #[E qa ql qc]) q)
(hg:a.eval g=.func (.func 183) #[] #[L (some ⟨z,0,none⟩),L (some ⟨A,0,none⟩)])(eg:∀args w,(callFunc 183 args).run X w=.ok (.enter 183 args) w)(co:ps.size=1)
(I:Nat->Nat->List (List Rat)->F->Prop)(hI:∀B4 B5,OwnFrom w.heap.size (I B4 B5))(ai:∀B4 B5,GB (I B4 B5))(aq:∀B4 B5,w.heap.size<=B4->w.heap.size<=B5->Mn B4 B5 (I B4 B5))(h0:∀B4 B5 V,w.heap.size+2<=B4->w.heap.size+2<=B5->Bl w V->I B4 B5 [] V)(a₁:Value->Nat->Act)
(bg:∀(l:Nat) (x:Option Addr) (j i:Nat) (W:F) (K:Act->F->Prop),K (a₁ (E x j i) W.heap.size) (W.alloc (C #[E x j i] 25))->
  assign.wpIn (Fence.wide.inRound l) (n-1-1) X (Exit.then K λ_ _ _=>False) { tmps:=(ps.zip #[s #[E x j i]]).foldl (λt (p,v)=>t.setIfInBounds p v) a.tmps,defers:=[] } W)
(bi:∀(l b B4 B5:Nat) (x:Option Addr) (j i:Nat) (r:List Rat) (H:List (List Rat)) (W:F),I B4 B5 H W->H++[r] <+: Xh p q->w.heap.size+1<b->B4<b->B5<b->Dc W b x j i->Je W (s #[E x j i]) r->
  body.wpIn (Fence.wide.inRound l) (n-1-1) X (RX w.heap.size B4 B5 (I B4 B5) (H++[r]) W) (a₁ (E x j i) b) W)
(bu:∀(D B4 B5:Nat) (W:F) (H:List (List Rat)) (r:List Rat),w.heap.size<=D->I B4 B5 (H++[r]) W->Xh p q=H++[r]->Chn p q (Da K p q) r []->W.heap[D]?=some (.deferred (some []))->Q .normal { a with defers:={ target:=.collected D,args:=#[] }::a.defers } W):
 (Code.rangeFunc g ps assign body).wpIn Fence.wide n X Q a w:=by
 refine wpIn_rangeFunc λfn bz=>?_;rw[show Fence.wide.round=none from J];obtain⟨rc,y⟩:∃rc:LoopState->Option Code->Loop,rc=λst pe=>{ state:=st,pending:=pe,fn,tmps:=a.tmps,params:=ps,assign,body,defers:=w.heap.size }:=⟨_,J⟩;obtain⟨V,R⟩:=ex ((w.alloc (.deferred (some []))).alloc (.loop (rc .ready none)));have vL:V.heap[w.heap.size+1]?=some (.loop (rc .ready none)):=by
  rw[<-R];have:=BC (w.alloc (.deferred (some []))) (.loop (rc .ready none));rwa[Ax]at this
 have vD:V.heap[w.heap.size]?=some (.deferred (some [])):=by
  rw[<-R];exact(BZ _ _ _ DH).trans (BC w _)
 have G:Bl w V:=by rw[<-R];exact(Ba w _).alloc (by rw[Ax];omega) _
 have dh:V.heap.size=w.heap.size+2:=by rw[<-R];simp
 refine⟨w.heap.size+1,[{ target:=.collected w.heap.size,args:=#[] }],V,{ target:=.fn (.func 183) #[L (some ⟨z,0,none⟩),L (some ⟨A,0,none⟩)],args:=#[.func (.yield (w.heap.size+1)) #[] #[]] },V,183,
  #[.func (.yield (w.heap.size+1)) #[] #[]]++#[L (some ⟨z,0,none⟩),L (some ⟨A,0,none⟩)],V,?_,?_,?_,?_,λ_=>by omega,?_⟩
 . rw[<-R,y];exact run_enterLoop_outer _ _ _ _ _
 . simp only[resolve,hg];simp[go_sem]
 . intro f' aj;simp[Target.leads]at aj;subst aj;exact trivial
 . simp[invoke,go_sem,eg]
 refine(oi K (n-1) O z A pa qa pl pc ql qc p q cj (w.heap.size+1)
  (λB4 B5 H W=>I B4 B5 H W/\W.heap[w.heap.size+1]?=some (.loop (rc .ready none))/\W.heap[w.heap.size]?=some (.deferred (some [])))
  V (bj.below G) (bm.below G) (ip.below G) (iq.below G) ?_ ?_ ?_ λB4 B5 U h4 h5 hU=>⟨h0 B4 B5 U O O (G.trans (hU.mono O)),(hU.block _ (Ab.1 vL).1).trans vL,(hU.block _ (Ab.1 vD).1).trans vD⟩).mono ?_
 . rintro B4 B5 H W W' ⟨hi,hl,hk⟩ hb;exact⟨ai _ _ _ _ _ hi hb,(hb.block _ (Ab.1 hl).1).trans hl,(hb.block _ (Ab.1 hk).1).trans hk⟩
 . rintro B4 B5 h4 h5 H W B x j i u hB hb ⟨hi,hl,hk⟩;exact⟨aq B4 B5 O O _ _ _ _ _ _ _ hB hb hi,(BB W ⟨B,0,none⟩ u _ DG).trans hl,(BB W ⟨B,0,none⟩ u _ DG).trans hk⟩
 . rintro B4 B5 de df H W d f c4 a5 l5 c5 p4 q5 cn an ap ⟨hi,hl,hk⟩ h4 h5 i4 i5;have Qf:=(Ab.1 hl).1;have hy:=run_yield (P:=X) (args:=#[s #[E d f c4]]) hl (by rw[y];exact co.symm);rw[y]at hy;obtain⟨T,ah⟩:=ex (W.alloc (C #[E d f c4] 25));have hA:Bl W T:=by rw[<-ah];exact Ba W _
   have N:=(hA.block _ Qf).trans hl;have Ql:=(hA.block _ O).trans hk;have Qj:=ai _ _ _ _ _ hi hA;have Qh:Dc T W.heap.size d f c4:=by rw[<-ah];exact BF W 25 (E d f c4)
   refine⟨fn,_,assign,body,hy,roundIn_of_wpIn bz (bg _ _ _ _ W _ ?_)⟩;rw[ah];refine⟨_,run_beginRound N (by rw[y]),?_⟩;obtain⟨bx,bn⟩:=ex (W.heap.size);have Qu:=h4.below hA;have Qr:=h5.below hA;have Qv:=i4.below hA;have Qn:=i5.below hA;rw[bn]at Qh Qf an ap ⊢;have Qg:=(Ab.1 N).1;obtain⟨c,m⟩:=ex (T.putObj (w.heap.size+1) (.loop { rc .ready none with state:=.busy }));rw[m];have Qo:c.heap[w.heap.size+1]?=some (.loop { rc .ready none with state:=.busy }):=by rw[<-m];exact BV Qg
   have S:∀k,k≠w.heap.size+1->c.heap[k]?=T.heap[k]?:=λk hk=>by rw[<-m];exact BL O
   have Qt:Dc c bx d f c4:=(S bx O).trans Qh;have Qk:=(S _ O).trans Ql;have Qp:I B4 B5 H c:=by rw[<-m];exact(hI B4 B5).putObj _ Qj O N J
   have Qq:Dc c B4 d f c4:=(S B4 O).trans Qu;have Qw:Dc c B5 a5 l5 c5:=(S B5 O).trans Qr;have Qi:Je c (s #[E d f c4]) p4:=by rw[<-m];exact Od N J Qv
   have Qs:Je c (s #[E a5 l5 c5]) q5:=by rw[<-m];exact Od N J Qn
   refine wpIn_mono (bi _ bx B4 B5 d f c4 p4 H c Qp cn Qf an ap Qt Qi) λe a3 W3 hp=>?_;cases e with
   |normal=>
    obtain⟨ce,di,ae,am⟩:=hp;have M:=ae _ _ O (Or.inl J) Qo;have hr:=run_endRound (P:=X) none M;have Qa:∀k,k≠w.heap.size+1->(W3.putObj (w.heap.size+1) (.loop (rc .ready none))).heap[k]?=W3.heap[k]?:=λk hk=>BL O;have Qm:(Instr.endRound (w.heap.size+1) none).run X W3=.ok (o true) (W3.putObj (w.heap.size+1) (.loop (rc .ready none))):=by
     grind
    exact⟨_,_,Qm,J,⟨(hI B4 B5).putObj _ ce O M J,BV (Ab.1 M).1,(Qa _ O).trans (ae _ _ (Aa _) (Or.inl J) Qk)⟩,
     (Qa _ O).trans (ae _ _ O (Or.inr (Or.inl J)) Qq),(Qa _ O).trans (ae _ _ O (Or.inr (Or.inr J)) Qw),Od M J (am _ _ Qi),Od M J (am _ _ Qs)⟩
   |ret=>exact hp.elim
   |exit id=>exact hp.elim
   |goto t=>exact hp.elim
   |panic ch=>exact hp.elim
   |outgrown=>exact hp.elim
 . rintro e c ⟨⟨v,rfl⟩,B4,B5,H,r,⟨h4,h5⟩,⟨hi,hl,hk⟩,hc,hn⟩;exact⟨none,_,by have:=run_endLoop (P:=X) hl (by rw[y];simp);rw[y]at this;exact this,bu _ B4 B5 _ H r (Aa _) ((hI B4 B5).putObj _ hi O hl J) hc hn ((BL O).trans hk)⟩
def DI.setFar{w V:F}{bs:List (Option (Nat × Dat))}(M:DI w V bs){B:Nat}(f:w.heap.size<=B){a:Option Addr}{l c:Nat}(hb:Dc V B a l c)(g:∀(i:Nat) B' d,bs[i]?=some (some (B',d))->B'≠B)(u:I):DI w (V.setCell ⟨B,0,Option.none⟩ u) bs:=by
 refine⟨λi B' d h=>?_,M.2.1,M.2.2.setCell (p:=⟨B,0,Option.none⟩) f u⟩;obtain⟨⟨cs,b,e⟩,j⟩:=M.1 i B' d h;exact⟨⟨cs,b.far (p:=⟨B,0,Option.none⟩) (g i B' d h) u,e.set1 hb J u⟩,j⟩
def KT(w:F)(a d:Option Addr)(c b f e:Nat)(H:List (List Rat)):List (Option (Nat × Dat)):=
 [some (w.heap.size,.cell 25 (E a c b)),some (w.heap.size+1,.cell 25 (E d f e)),some (w.heap.size+1+1,.cell 25 (E none 0 0)),some (w.heap.size+1+1+1,.poly (H.getLastD []))]
theorem oj{w:F}{a f:Option Addr}{c b j g:Nat}{H:List (List Rat)}{i B:Nat}{d:Dat}(e:(KT w a f c b j g H)[i]?=some (some (B,d))):B<=w.heap.size+1+1+1:=by
 grind[KT]
def W4(K:Nat)(va vb:I)(p q:List Rat)(w:F)(ha:Je w va p)(hb:Je w vb q)(ai:ChOk K p q):
 Calls X 109 #[va,vb] w λe w'=>∃u,e=.returned u/\Je w' u (Jt p q)/\Bl w w':=by
 obtain⟨f,j,g,rfl⟩:=ha.form;obtain⟨m,y,t,rfl⟩:=hb.form;have M0:DI w _ _:=((((DI.nil w).push (.cell 25 (E f j g)) (cs:=#[E f j g]) ⟨J,J⟩).push (.cell 25 (E m y t)) (cs:=#[E m y t]) ⟨J,J⟩).push (.cell 25 (E none 0 0)) (cs:=#[E none 0 0]) ⟨J,J⟩).push (.poly []) (cs:=#[E none 0 0]) (OI _);simp only[Ax]at M0;obtain⟨W0,ae⟩:=ex ((((w.alloc (C #[E f j g] 25)).alloc (C #[E m y t] 25)).alloc (C #[E none 0 0] 25)).alloc (C #[E none 0 0] 25));have M1:DI w W0 (KT w f m j g y t []):=by rw[<-ae];exact M0
 have hN:W0.heap.size=w.heap.size+1+1+1+1:=by rw[<-ae];simp
 obtain⟨Qe,Qg,HN,HP,HQ,Qm⟩:=Ie ae M1 hN (λ(V:F) (hB:Bl w V)=>ha.below hB) (λ(V:F) (hB:Bl w V)=>hb.below hB) ai;have Qj:=Z (λ(V:F) (x:I) (r:List Rat) (hx:Je V x r) (hc:Chn p q (Da K p q) r [])=>show Calls X 108 #[x] V λe w'=>∃u,e=.returned u/\Je w' u (Jt p q)/\Bl V w' by
  have Qb:=ai.bd;have h1:=Ww x r V hx (Sqs.of λi=>Sq.of (hc.wa.smq Qb.2.2.2 i) Qb.1) hc.ta (λi=>by
   have h2:=Ln.sqs hc.ta hc.wa.ln Qb.2.2.2 i;unfold Jr at h2;rw[YB,Rat.div_def,Fg,<-Rat.div_def]at h2;exact Sq.of h2 Qb.1)
  rw[<-hc.gc,Wf];exact h1)
 clear ha hb ai M0 M1 ae hN;refine(BH (n:=3)).1 ?_;refine BN func109 J trivial ?_ J;simp only[ntmps109,Am,Ai,AH,Nat.reduceAdd,Nat.reduceSub,Ar,As,AE,Az,Al,AC];gi_wp2_with fail
 rw[Qe.o];refine⟨trivial,?_⟩;refine(Wy _ _ _ _ _ _ _ _).mono ?_;rintro e w' ⟨rfl,rfl⟩;obtain⟨z,T⟩:=ex ((W0.alloc (C #[E f j g] 25)).alloc (C #[E m y t] 25));have Qi:Bl W0 z:=by rw[<-T];exact(Ba W0 _).alloc (by rw[Ax];omega) _
 have nP:Dc z W0.heap.size f j g:=by rw[<-T];exact(BF W0 25 (E f j g)).alloc _
 have nQ:Dc z (W0.heap.size+1) m y t:=by
  rw[<-T];have:=BF (W0.alloc (C #[E f j g] 25)) 25 (E m y t);rwa[Ax]at this
 have M2:=DI.below Qg.o Qi;have Qf:z.heap.size=w.heap.size+6:=by rw[<-T];simp[HN.o]
 rw[T,HN.o];rw[HN.o]at nP nQ;obtain⟨Qc,Ql,Qn,R⟩:=Ds M2 nP nQ Qf;clear M2 nP nQ Qf Qi T Qe HN Qg;gi_wp2_with fail
 refine Wz O Qm.o Ql.o Qn.o (HP.o z Qc.o.2.2) (HQ.o z Qc.o.2.2) J (BW func183 (by kernel_rfl) J) J
  (λ_ _ H W=>DI w W (KT w f m j g y t H)) (λ_ _ H W W' row M hg hr=>DI.own M hg λr e=>⟨by have:=(hr r e).1;have:=R.o;omega,(hr r e).2⟩) (λ_ _ H W W' M hb=>DI.below M hb)
  (λB4 B5 S h5 H W B a l c u hB hb M=>DI.setFar M (by have:=R.o;omega) hb (λi B' d e=>by have:=oj e;have:=R.o;omega) u) (λ_ _ V _ _ hV=>DI.below Qc.o hV)
  (λv b=>{ tmps:=#[s #[E f j g],s #[E m y t],L (some ⟨w.heap.size,0,none⟩),L (some ⟨w.heap.size+1,0,none⟩),L (some ⟨w.heap.size+1+1,0,none⟩),L (some ⟨w.heap.size+1+1+1,0,none⟩),L (some ⟨b,0,none⟩),s #[E f j g],s #[E m y t],.func (.func 183) #[] #[L (some ⟨w.heap.size+1+1+1+1,0,none⟩),L (some ⟨w.heap.size+1+1+1+1+1,0,none⟩)],s #[v],undef,undef,undef],defers:=[] }) ?assign ?body ?done
 case assign=>
  intro l x xl xc W K hK;gi_wp2;exact hK
 case body=>
  intro l b B4 B5 x xl xc r H W M _ hb _ _ am hr;obtain⟨ya,yl,yc,P,r3⟩:=DI.poly2 M (i:=3) J;have e3:=P.cell;have f3:=P.frozen;have eb:=am.cell;have HH:=Z (show ∀aj,RX z.heap.size B4 B5 (λH W=>DI w W (KT w f m j g y t H)) (H++[r]) W .normal aj (W.setCell ⟨w.heap.size+1+1+1,0,none⟩ (E x xl xc))from λaj=>by
   refine⟨?_,?_,λk o hk _ ho=>?_,λv ps h=>h.setB P⟩
   . have S:=DI.putPoly M (i:=3) J hr;show DI w _ (KT w f m j g y t (H++[r]));unfold KT at S ⊢;rw[show(H++[r]).getLastD []=r by simp];exact S
   . rw[World.size_setCell];exact Aa _
   . exact(BB W ⟨w.heap.size+1+1+1,0,none⟩ _ k (by show k≠w.heap.size+1+1+1;have:=R.o;omega)).trans ho)
  clear M hb am hr P r3;gi_wp2;exact HH.o _
 case done=>
  intro D _ _ W H r hD M aq an hK;have Qo:w.heap.size<=D:=by have:=R.o;omega
  have M:DI w W [some (w.heap.size,.cell 25 (E f j g)),some (w.heap.size+1,.cell 25 (E m y t)),some (w.heap.size+1+1,.cell 25 (E none 0 0)),some (w.heap.size+1+1+1,.poly r)]:=by
   have S:=M;unfold KT at S;rwa[show(H++[r]).getLastD []=r by simp]at S
  obtain⟨ya,yl,yc,P,r3⟩:=DI.poly2 M (i:=3) J;have e3:=P.cell;have n2:=(DI.cell M (i:=2) J).1;obtain⟨HC,Qh,HK⟩:=DY (Qj.o W _ r r3 an) M.2.2 hK;clear M aq an hK r3 P Qj;gi_wp2_with(refine⟨trivial,?_⟩;gi_at_call 108;refine((BH (n:=_)).2 HC.o).mono ?_;clear HC;rintro e U ⟨u5,rfl,ap,ah⟩;obtain⟨A,N,G,rfl⟩:=ap.form;have n5:=boxed_below n2 ah;have x0:=n5.cell;have x1:=n5.frozen)
  have Qd:(U.setCell ⟨w.heap.size+1+1,0,none⟩ (E A N G)).heap[D]?=some (.deferred (some [])):=by
   rw[BB U ⟨w.heap.size+1+1,0,none⟩ _ D (by show D≠w.heap.size+1+1;have:=R.o;omega)];exact(ah.block D (Ab.1 HK.o).1).trans HK.o
  refine⟨DH,.inl ⟨_,_,J,BP Qd,?_⟩⟩;have q:Dc (U.setCell ⟨w.heap.size+1+1,0,none⟩ (E A N G)) (w.heap.size+1+1) A N G:=Dc.put (show Dc U (w.heap.size+1+1) none 0 0 from n5);have hg:=BQ (U.setCell ⟨w.heap.size+1+1,0,none⟩ (E A N G)) D (.deferred none);have Qk:∀r,some D=some r->∃o:Obj,(U.setCell ⟨w.heap.size+1+1,0,none⟩ (E A N G)).heap[r]?=some o/\o.isCells=false:=λr e=>by cases e;exact⟨_,Qd,J⟩
  have q2:Dc _ (w.heap.size+1+1) A N G:=YQ hg Qk q;have g0:=q2.cell;refine⟨s #[E A N G],by simp[results,results109,go_sem,g0],_,J,?_,?_⟩
  . exact Oc hg Qk (ap.setB n5)
  . exact((Bt Qh.o ah).setCell (p:=⟨w.heap.size+1+1,0,none⟩) DG _).trans (B0 (w:=w) (Aa _) _ D _ _ Qo Qd J J)
end M3
def Cd(M:Nat)(p:List Rat):Prop:=∃D:Int,D≠0/\Sm M D/\EP D M p
section
variable {M N:Nat} {p q:List Rat}
def Cd.mono(h:Cd M p)(hn:M<=N):Cd N p:=by
 obtain⟨D,d1,a,b⟩:=h;exact⟨D,d1,a.mono hn,λi=>(b i).mono hn⟩
def Cd.smq(h:Cd M p)(i:Nat):DR M (cf p i):=by
 obtain⟨D,d1,a,b⟩:=h;exact(b i).smq d1 a
def Cd.ln(h:Cd M p):Ln M p:=by
 obtain⟨D,d1,b,a⟩:=h;exact a.ln d1
def Cd.sqs(h:Cd M p)(hM:M<=1000000000):Sqs p:=Sqs.of λi=>Sq.of (h.smq i) hM
theorem Cd.pos(h:Cd M p):1<=M:=by
 obtain⟨D,d1,b,_⟩:=h;by_cases a:1<=M
 . exact a
 . exfalso
   obtain rfl:M=0:=O
   grind[Sm]
def Cd.mon(h:Cd M p)(tp:Jc p=p):Cd M (Jr p):=Mj tp h.ln h.pos
def Cd.monS(h:Cd M p)(tp:Jc p=p)(hM:M<=1000000000)(i:Nat):Sq (cf p i/cf p (p.length-1)):=by
 have a:=Ln.sqs tp h.ln h.pos i;unfold Jr at a;rw[YB,Rat.div_def,Fg,<-Rat.div_def]at a;exact Sq.of a hM
def Cd.dvn(h:Cd M p)(f:Cd M q)(g:cf q (q.length-1)=1):∃D E:Int,Dvn D E E M M p q:=by
 obtain⟨D,d1,c,d⟩:=h;obtain⟨E,a,b,e⟩:=f;exact⟨D,E,d1,c,d,a,b,e,a,b,by rw[g,Rat.divInt_self' a]⟩
end
theorem Lh{q:List Rat}(tq:Jc q=q)(q0:q≠[])(a:Jr q=q):cf q (q.length-1)=1:=by
 have:=RI tq q0;rwa[a]at this
def Dp(p q:List Rat):List Rat:=if q=[]then []else Jm p q
def oo(p:List Rat):List Rat:=Jr (Dp p (Jt p (Jb p)))
namespace M3
def Chn.ends{p q:List Rat}{K:Nat}(c:ChOk K p q):∀(n:Nat) (a b:List Rat),b.length<=n->Chn p q (Da K p q) a b->∃r,Chn p q (Da K p q) r []:=by
 intro n;induction n with
 |zero=>
  intro a b hl h;have hb:b=[]:=Mg O;subst hb;exact⟨a,h⟩
 |succ n d=>
  intro a b hl h;by_cases hb:b=[]
  . subst hb;exact⟨a,h⟩
  . have e:=Xs (a:=a) h.tb hb;exact d b (XW a b) O (Chn.next c.tp c.tq c.lp c.lq c.bd.2.2.1 h hb)
def ChOk.gcd{p q:List Rat}{K:Nat}(a:ChOk K p q):Cd (Da K p q) (Jt p q):=by
 obtain⟨r,b⟩:=Chn.ends a _ _ _ (Aa _) (Chn.start a.tp a.tq a.lp a.lq a.bd.2.2.1);rw[<-b.gc,Wf];exact Mj b.ta b.wa.ln a.bd.2.2.2
def oq(M:Nat)(v:I)(p:List Rat)(w:F)(h:Je w v p)(tp:Jc p=p)(a:Cd M p)(hM:M<=1000000000):
 Calls X 108 #[v] w λe w'=>∃u,e=.returned u/\Je w' u (Jr p)/\Bl w w':=
 Ww v p w h (a.sqs hM) tp λi=>a.monS tp hM i
def ot(M:Nat)(a b:I)(p q:List Rat)(w:F)(c:Je w a p)(hb:Je w b q)(hp:Cd M p)(hq:Cd M q)(tp:Jc p=p)(tq:Jc q=q)(g:Jr q=q)(hM:2*((p.length+3)*(M+1))<=1000000000):
 Calls X 181 #[a,b] w λe w'=>∃u v,e=.returned (.tuple #[u,v,o (decide (q≠[]))])/\Je w' u (if q=[]then []else Jm p q)/\Je w' v (if q=[]then []else J6 p q)/\Bl w w':=by
 have i:(p.length+3)*(M+1)=p.length*(M+1)+3*(M+1):=A4 _ _ _;refine ng M a b p q w c hb (hp.sqs O) hq.smq tp tq λq0=>?_;obtain⟨D,E,d⟩:=hp.dvn hq (Lh tq q0 g);obtain⟨m,f⟩:=ex (p.length-(q.length-1));have j:m*(M+1)<=p.length*(M+1):=Ad _ O;rw[f];exact d.sizes O
def Oe(M:Nat)(T U:I)(p q:List Rat)(w:F)(z:Je w T p)(hb:Je w U q)(hp:Cd M p)(hq:Cd M q)(tp:Jc p=p)(tq:Jc q=q)(S:Jr q=q)(hM:2*((p.length+3)*(M+1))<=1000000000):
 Calls X 111 #[T,U] w λe w'=>∃u,e=.returned u/\Je w' u (Dp p q)/\Bl w w':=by
 obtain⟨j,la,k,rfl⟩:=z.form;obtain⟨l,lb,m,rfl⟩:=hb.form;have t:=(((DI.nil w).push (.cell 25 (E j la k)) (cs:=#[E j la k]) ⟨J,J⟩).push (.cell 25 (E l lb m)) (cs:=#[E l lb m]) ⟨J,J⟩).push (.cell 25 (E none 0 0)) (cs:=#[E none 0 0]) ⟨J,J⟩;simp only[Ax]at t;obtain⟨W0,y⟩:=ex (((w.alloc (C #[E j la k] 25)).alloc (C #[E l lb m] 25)).alloc (C #[E none 0 0] 25));have D:=Z y;have a:Hid (DI w W0 [some (w.heap.size,.cell 25 (E j la k)),some (w.heap.size+1,.cell 25 (E l lb m)),some (w.heap.size+1+1,.cell 25 (E none 0 0))]):=Z (by rw[<-y];exact t);have r:=Z (ot M _ _ p q W0 (z.below a.o.2.2) (hb.below a.o.2.2) hp hq tp tq S hM);obtain⟨bq,N⟩:=ex (decide (q≠[]));rw[N,show(if q=[]then []else Jm p q)=Dp p q from J]at r;have c0:=(a.o.cell (i:=0) J).1.cell;have c1:=(a.o.cell (i:=1) J).1.cell;have n1:=(a.o.cell (i:=2) J).1;have B:=Z a.o.2.2;clear t y z hb hp hq tp tq S hM N a;go_enter func111,ntmps111
 go_upto_region 1 with fail
 rw[D.o];clear D;go_upto_region 2 with(go_at_call 181;refine r.o.mono ?_;clear r;rintro e n ⟨u4,v4,rfl,A,P,f⟩;obtain⟨b,c,c4,rfl⟩:=A.form;obtain⟨G,R,H,rfl⟩:=P.form)
 have d:Bl n ((n.alloc (C #[E b c c4] 25)).alloc (C #[E G R H] 25)):=(Ba n _).alloc (by rw[Ax];omega) _;have nb:=(BF n 25 (E b c c4)).alloc (C #[E G R H] 25);have e5:=nb.cell;have g:=boxed_below (boxed_below n1 f) d;have x0:=g.cell;have x1:=g.frozen;have W:=Z (MT g (x:=E b c c4) (A.below d));have V:=Z (((Bt B.o f).trans (d.mono (Ac B.o.size f.size))).setCell (p:=⟨w.heap.size+1+1,0,none⟩) DG (E b c c4));clear c0 c1 A P f nb g d;go_wp2_with fail
 exact A0 (v:=s #[E b c c4]) (by simp[results,results111,go_sem,x0]) J ⟨_,J,W.o,V.o⟩
structure FrOk(K:Nat)(p:List Rat):Prop where
 ch:ChOk K p (Jb p)
 le:(p.length+3)*(Da K p (Jb p)+1)*2<=1000000000
end M3
variable{cs:List I}{base t:Nat}{v:I}{W W':F}
def Tryz.infoPart:(Tryz.prog.info? 107).map (λi=>(i.zero,i.size,i.bytes))=some (some (s #[E none 0 0,K Q 0]),2,32):=by kernel_rfl
def Tryz.infoRPart:(Tryz.prog.info? 144).map (λi=>(i.zero,i.size,i.bytes))=some (some (s #[E none 0 0,K Q 0]),2,32):=by kernel_rfl
def EF(r:Bool):TypeId:=match r with|true=>107|false=>144
def Hy(r:Bool):TypeId:=match r with|true=>104|false=>137
def zP:Array I:=#[E none 0 0,.int Q 0]
def ou(r:Bool):Tryz.prog.underlying (Hy r)=some (.slice (EF r)):=by
 cases r with
 |true=>exact underlying104
 |false=>exact underlying137
def ow(r:Bool):∃i,Tryz.prog.info? (EF r)=some i/\i.zero=some (s zP)/\i.size=2/\i.bytes=32:=by
 cases r with
 |true=>
  obtain⟨i,a,b,c,d⟩:=Bn Tryz.infoPart;exact⟨i,a,b,c,d⟩
 |false=>
  obtain⟨i,a,b,c,d⟩:=Bn Tryz.infoRPart;exact⟨i,a,b,c,d⟩
def IP(r:Bool)(W W':F):Prop:=∀B,B<W.heap.size->(∀cs m,W.heap[B]?≠some (C cs (EF r) m))->W'.heap[B]?=W.heap[B]?
theorem IP.at{r:Bool}(h:IP r W W'){B:Nat}{cs:Array I}{t:TypeId}{m:Nat × Nat}(hb:W.heap[B]?=some (C cs t m))(b:t≠EF r):W'.heap[B]?=W.heap[B]?:=
 h B (Ab.1 hb).1 λa c e=>by
  grind
def ox(k:IntKind)(r:Bool):Hm k≠EF r:=by cases r<;>cases k<;>decide
def oy(k:Bool)(r:Bool):G8 k≠EF r:=by cases r<;>cases k<;>decide
def IP.row{r:Bool}(h:IP r W W'){k:IntKind}{ds:List Nat}(t:Row k W v ds):Row k W' v ds:=by
 obtain⟨a,c,e,i,l,n,g4⟩:=t;refine⟨a,c,e,i,l,n,?_⟩;rcases g4 with g4|⟨b,u,g,f,p⟩
 . exact Or.inl g4
 . obtain⟨cs,m,hb⟩:=id f;have d:=h.at hb (ox k r);refine Or.inr ⟨b,u,g,f.of d,λj q=>?_⟩;rw[<-p j q];simp only[World.cell?,d]
def IP.rowK{r:Bool}(h:IP r W W'){k:Bool}{qs:List Rat}(B:RowK k W v qs):RowK k W' v qs:=by
 obtain⟨a,cap,e,n,p,q,c⟩:=B;refine⟨a,cap,e,n,p,q,?_⟩;rcases c with c|⟨b,m,cs,hb,w⟩
 . exact Or.inl c
 . refine Or.inr ⟨b,m,cs,(h.at hb (oy k r)).trans hb,λj A=>?_⟩;obtain⟨x,y,z,u,d,f,i,l,t⟩:=w j A;exact⟨x,y,z,u,d,f,i,l,t.keep λ_ _ _ g=>h.row g⟩
def Hf(r:Bool)(W:F)(cs:List I)(L:List (List Rat × Nat)):Prop:=
 cs.length=L.length*2/\∀j p t,L[j]?=some (p,t)->∃x,cs[j*2]?=some x/\cs[j*2+1]?=some (.int Q (t:Int))/\RowK r W x p
theorem Hf.keep{r:Bool}{L:List (List Rat × Nat)}(h:Hf r W cs L)(hk:∀v qs,RowK r W v qs->RowK r W' v qs):Hf r W' cs L:=by
 refine⟨h.1,λj p t e=>?_⟩;obtain⟨x,a,b,c⟩:=h.2 j p t e;grind
def Hf.below{r:Bool}{W W':F}{cs:List I}{L:List (List Rat × Nat)}(h:Hf r W cs L)(hb:Bl W W'):Hf r W' cs L:=h.keep λ_ _ g=>g.below hb
theorem Hf.snoc{r:Bool}{L:List (List Rat × Nat)}(h:Hf r W cs L){x:I}{p:List Rat}(f:RowK r W x p):Hf r W (cs++[x,K Q (t:Int)]) (L++[(p,t)]):=by
 refine⟨by simp[h.1];omega,λj g t' e=>?_⟩;by_cases c:j<L.length
 . rw[CE c]at e;obtain⟨y,i,k,l⟩:=h.2 j g t' e;grind
 . rw[AY O]at e;obtain⟨d,b⟩:=ex (j-L.length);rw[b]at e;cases d with
   |succ d=>simp at e
   |zero=>
    simp at e;obtain⟨rfl,rfl⟩:=e;have a:j=L.length:=O
    subst a;refine⟨x,?_,?_,f⟩
    . rw[AY (by have:=h.1;omega),h.1,Ck];rfl
    . rw[AY (by have:=h.1;omega),h.1,show L.length*2+1-L.length*2=1 by omega];rfl
def EK(r:Bool)(base:Nat)(W:F)(v:I)(L:List (List Rat × Nat)):Prop:=
 (v=E none 0 0/\L=[])\/∃g cap cur,v=E (some ⟨g,0,none⟩) L.length cap/\base<=g/\W.heap[g]?=some (C cur (EF r) (0,0))/\L.length<=cap/\cap<=maxLen/\cur.size=cap*2/\Hf r W (cur.toList.take (L.length*2)) L
theorem EK.nil(r:Bool)(base:Nat)(W:F):EK r base W (E none 0 0) []:=Or.inl ⟨J,J⟩
def EK.below{r:Bool}{base:Nat}{W W':F}{v:I}{L:List (List Rat × Nat)}(h:EK r base W v L)(hb:Bl W W'):EK r base W' v L:=by
 rcases h with h|⟨g,cap,cur,b,c,a,d,e,f,i⟩
 . exact Or.inl h
 . exact Or.inr ⟨g,cap,cur,b,c,(hb.block g (Ab.1 a).1).trans a,d,e,f,i.below hb⟩
theorem EK.form{r:Bool}{L:List (List Rat × Nat)}(h:EK r base W v L):∃a c,v=E a L.length c/\L.length<=c/\c<=maxLen:=by
 rcases h with⟨rfl,rfl⟩|⟨g,cap,cur,rfl,_,_,b,d,_⟩
 . exact⟨none,0,J,DH,by unfold maxLen;omega⟩
 grind
theorem EK.set{r:Bool}{L:List (List Rat × Nat)}(h:EK r base W v L){B:Nat}{a:Option Addr}{l c:Nat}(b:Boxed W B 25 (E a l c)){u:I}(hk:∀v qs,RowK r W v qs->RowK r (W.setCell ⟨B,0,none⟩ u) v qs):EK r base (W.setCell ⟨B,0,none⟩ u) v L:=by
 rcases h with h|⟨g,cap,cur,f,i,j,k,m,n,p⟩
 . exact Or.inl h
 . have d:g≠B:=λe=>by
    subst e;have hb:W.heap[g]?=some (C #[E a l c] 25 (0,0)):=b;grind
   exact Or.inr ⟨g,cap,cur,f,i,(BB W ⟨B,0,none⟩ u g d).trans j,k,m,n,p.keep hk⟩
theorem oz(r:Bool)(base:Nat)(W:F)(v:I)(L:List (List Rat × Nat))(h:EK r base W v L){a:Option Addr}{l c:Nat}{p:List Rat}(hx:RowK r W (E a l c) p)(hl:L.length+1<=1099511627776)(M:base<=W.heap.size):
 ∃v' w',(Builtin.append_ #[Hy r,Hy r] (Hy r) #[v,E (some ⟨W.heap.size,0,none⟩) 1 1]).run X (W.alloc (C #[E a l c,K Q (t:Int)] (EF r)))=.ok v' w'/\EK r base w' v' (L++[(p,t)])/\IP r W w'/\(∀n w0,n<=base->Below n w0 W->Below n w0 w')/\W.heap.size<=w'.heap.size:=by
 obtain⟨i,hi,hz,w,U⟩:=ow r;have N:=ou r;have d:Bl W (W.alloc (C #[E a l c,K Q (t:Int)] (EF r))):=Ba W _;obtain⟨b,T⟩:=ex (W.alloc (C #[E a l c,K Q (t:Int)] (EF r)));have aj:b.heap[W.heap.size]?=some (C #[E a l c,K Q (t:Int)] (EF r) (0,0)):=by rw[<-T];exact BC W _
 rw[T]at d ⊢;have R:=hx.below d;have y:∀j c',[Value.slice a l c,K Q (t:Int)][j]?=some c'->b.cell? ((⟨W.heap.size,0,none⟩:Addr).add j)=some c':=λj c' u=>by
  grind[YH,cell_of]
 have Qf:∀c'∈[Value.slice a l c,K Q (t:Int)],c'.oneCell'=true:=λc' u=>by
  simp at u;rcases u with rfl|rfl<;>rfl
 have Ql:(Value.agg zP).cells=zP:=rfl;have am:zP.size=2:=rfl;have grown:∀(cs:List I) (q:Nat) (m:Nat),m=L.length+1->Hf r b (cs++[E a l c,K Q (t:Int)]) (L++[(p,t)])->cs.length=L.length*2->
  EK r base (b.drew.alloc (C (cs.toArray++[Value.slice a l c,K Q (t:Int)].toArray++Builtin.zeroCells zP (grownCap b m q (EF r)-m)) (EF r))) (E (some ⟨b.heap.size,0,none⟩) m (grownCap b m q (EF r))) (L++[(p,t)]):=by
  intro cs q m hm u D;subst hm;have ai:=grownCap_ge b (L.length+1) q (EF r);have Qn:=grownCap_le_maxLen b (L.length+1) q (EF r) (by unfold maxLen;omega);have Qo:Bl b (b.drew.alloc (C (cs.toArray++[Value.slice a l c,K Q (t:Int)].toArray++Builtin.zeroCells zP (grownCap b (L.length+1) q (EF r)-(L.length+1))) (EF r))):=((BA _ b).drew).alloc (Aa _) _;refine Or.inr ⟨b.heap.size,_,_,DG,Ac M d.size,BC b.drew _,DG,Qn,?_,?_⟩
  . grind[size_zeroCells,AH]
  . have e:(cs.toArray++[Value.slice a l c,K Q (t:Int)].toArray++Builtin.zeroCells zP (grownCap b (L.length+1) q (EF r)-(L.length+1))).toList.take ((L++[(p,t)]).length*2)=cs++[E a l c,K Q (t:Int)]:=by
     simp only[Array.toList_append];have z:(L++[(p,t)]).length*2=(cs++[Value.slice a l c,K Q (t:Int)]).length:=by simp;omega
     rw[z];exact List.take_left
    rw[e];exact u.below Qo
 have fin:∀o,IP r W (b.drew.alloc o)/\(∀n w0,n<=base->Below n w0 W->Below n w0 (b.drew.alloc o))/\W.heap.size<=(b.drew.alloc o).heap.size:=λo=>by
  have A:Bl W (b.drew.alloc o):=(d.drew).alloc (by exact d.size) _;exact⟨λB x _=>A.block B x,λn w0 hn hb=>hb.trans (A.mono (Ac hn M)),A.size⟩
 rcases h with⟨rfl,rfl⟩|⟨g,cap,cur,rfl,S,G,h4,h5,h6,h7⟩
 . have k:=run_append_nil (P:=X) b (Hy r) (Hy r) (EF r) i _ N hi hz ⟨W.heap.size,0,none⟩ 1 1 [E a l c,K Q (t:Int)] (by rw[w];rfl) y O O (by rw[U];omega);rw[Ql]at k;refine⟨_,_,k,?_,fin _⟩;have:=grown [] 0 1 J (by rw[Al];exact Hf.snoc (cs:=[]) (L:=[]) ⟨J,λj p t e=>by simp at e⟩ R) J;simpa using this
 . have H:b.heap[g]?=some (C cur (EF r) (0,0)):=(d.block g (Ab.1 G).1).trans G;have D:(cur.toList.take (L.length*2)).length=L.length*2:=by rw[Ay];have h0:cur.toList.length=cur.size:=Array.length_toList;omega
   have Qk:=(h7.below d).snoc (t:=t) R;by_cases ah:L.length+1<=cap
   . have k:=run_append_room (P:=X) b (Hy r) (Hy r) (EF r) i N hi g L.length cap cur H ⟨W.heap.size,0,none⟩ 1 1 [E a l c,K Q (t:Int)] (by rw[w];rfl) y Qf ah (by rw[w];simp;omega);rw[w]at k;obtain⟨f,V⟩:=ex ((cur.toList.take (L.length*2)++[Value.slice a l c,K Q (t:Int)]++cur.toList.drop (L.length*2+[Value.slice a l c,K Q (t:Int)].length)).toArray);rw[V]at k;have Qm:=setRow_heap b g cur f (EF r) (0,0) H;have Qc:IP r b (b.setRow g f):=λB x hn=>setRow_other b g B f λe=>hn cur (0,0) (by rw[e];exact H);have Qe:b.heap.size<=(b.setRow g f).heap.size:=(below_setRow (B:=0) (BA _ b) (Ap _) f).size;refine⟨_,_,k,?_,λB x hn=>?_,λn w0 hn hb=>below_setRow (hb.trans (d.mono (Ac hn M))) (Ac hn S) f,Ac d.size Qe⟩
     . refine Or.inr ⟨g,cap,f,DG,S,Qm,DG,h5,?_,?_⟩
       . grind
       . have e:f.toList.take ((L++[(p,t)]).length*2)=cur.toList.take (L.length*2)++[E a l c,K Q (t:Int)]:=by
          rw[<-V];have z:(L++[(p,t)]).length*2=(cur.toList.take (L.length*2)++[Value.slice a l c,K Q (t:Int)]).length:=by simp[D];omega
          rw[z];exact List.take_left
         rw[e];exact Qk.keep λ_ _ g=>Qc.rowK g
     . have Qj:B≠g:=λe=>hn cur (0,0) (by rw[e];exact G);exact(setRow_other b g B f Qj).trans (d.block B x)
   . have ae:∀j c',(cur.toList.take (L.length*2))[j]?=some c'->b.cell? ((⟨g,0,none⟩:Addr).add j)=some c':=λj c' u=>by
      grind[YH,cell_of]
     have k:=run_append_grow (P:=X) b (Hy r) (Hy r) (EF r) i _ N hi hz ⟨g,0,none⟩ L.length cap (cur.toList.take (L.length*2)) (by rw[w];exact D) ae ⟨W.heap.size,0,none⟩ 1 1 [E a l c,K Q (t:Int)] (by rw[w];rfl) y O O (by rw[U];exact growslice_fits O O);grind
namespace M3
def DI.farP{w W W':F}{bs:List (Option (Nat × Dat))}{r:Bool}(M:DI w W bs)(a:IP r W W')(hb:Bl w W')(e:∀(i:Nat) B d,bs[i]?=some (some (B,d))->d.ty≠EF r):DI w W' bs:=by
 refine⟨λi B d h=>?_,M.2.1,hb⟩;obtain⟨⟨cs,b,c⟩,f⟩:=M.1 i B d h;exact⟨⟨cs,(a.at b (e i B d h)).trans b,c.keep (λ_ _ _ g=>a.row g) (Or.inr λ_ _ g=>a.rowK g)⟩,f⟩
end M3

