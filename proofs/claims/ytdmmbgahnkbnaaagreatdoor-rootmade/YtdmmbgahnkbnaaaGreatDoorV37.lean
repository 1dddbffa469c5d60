import Derived.Test.YtdmmbgahnkbnaaaGreatDoorV36
set_option linter.all false
open Go.Value renaming slice->E,agg->s,int->K,pointer->L,bool->o
open Go renaming World->F,Value->I
open Go.Proofs.Tryz renaming prog->X
open Go.Obj renaming cells->C
open Go.IntKind renaming i64->Q
set_option maxRecDepth 99999
set_option maxHeartbeats 0
namespace Go.Proofs.YtdmmbgahnkbnaaaGreatDoor
open Go.RowKit Go.Shelf
attribute [local go_sem] Oper.semAt_some
def Dv(a b:List Rat):Prop:=∃c:List Rat,∀x,ev b x=ev a x*ev c x
def DR(a b:List Rat):Prop:=∃u v:List Rat,∀x,ev u x*ev a x+ev v x*ev b x=1
section
variable {a b c d p q:List Rat}
theorem Dv.refl(a:List Rat):Dv a a:=⟨[1],λx=>by simp[ev];grind⟩
theorem Dv.trans(h:Dv a b)(d:Dv b c):Dv a c:=by
 obtain⟨u,e⟩:=h;obtain⟨v,hv⟩:=d;exact⟨Ji u v,λx=>by rw[hv,e,Jd];grind⟩
theorem Dv.zero(a:List Rat):Dv a []:=⟨[],λx=>by simp[ev]⟩
theorem Dv.mul(h:Dv a b)(c:List Rat):Dv a (Ji b c):=by
 obtain⟨u,d⟩:=h;exact⟨Ji u c,λx=>by rw[Jd,d,Jd];grind⟩
theorem Dv.mul'(h:Dv a b)(c:List Rat):Dv a (Ji c b):=by
 obtain⟨u,d⟩:=h;exact⟨Ji u c,λx=>by rw[Jd,d,Jd];grind⟩
theorem Dv.comb(h:Dv d a)(e:Dv d b)(u v:List Rat)(f:∀x,ev c x=ev u x*ev a x+ev v x*ev b x):Dv d c:=by
 obtain⟨s,hs⟩:=h;obtain⟨t,g⟩:=e;exact⟨XB (Ji u s) (Ji v t),λx=>by rw[f,hs,g,Yc,Jd,Jd];grind⟩
theorem Dv.of_sc{k:Rat}(hk:k≠0)(h:Dv a b):Dv (DN k a) b:=by
 obtain⟨u,c⟩:=h;have e:(1/k)*k=1:=Aj hk;exact⟨DN (1/k) u,λx=>by rw[c,Jo,Jo];grind⟩
theorem Dv.sc(h:Dv a b)(k:Rat):Dv a (DN k b):=by
 obtain⟨u,c⟩:=h;exact⟨DN k u,λx=>by rw[Jo,c,Jo];grind⟩
theorem DR.symm(h:DR a b):DR b a:=by
 obtain⟨u,v,h⟩:=h;exact⟨v,u,λx=>by rw[<-h x];grind⟩
theorem DR.of_dv(h:DR a b)(c:Dv d a):DR d b:=by
 obtain⟨u,v,h⟩:=h;obtain⟨s,hs⟩:=c;exact⟨Ji u s,v,λx=>by rw[<-h x,hs x,Jd];grind⟩
theorem DR.dv(h:DR a b)(d:Dv a (Ji b c)):Dv a c:=by
 obtain⟨u,v,h⟩:=h;obtain⟨k,hk⟩:=d;refine⟨XB (Ji u c) (Ji v k),λx=>?_⟩;grind[Jd,Yc]
theorem DR.mul(h:DR a b)(d:DR a c):DR a (Ji b c):=by
 obtain⟨u,v,h⟩:=h;obtain⟨s,t,d⟩:=d;refine⟨XB u (Ji (Ji v b) s),Ji v t,λx=>?_⟩;grind[Yc,Jd]
theorem DR.unit(h:DR a b)(c:Dv a b):Dv a [1]:=by
 obtain⟨u,v,h⟩:=h;obtain⟨s,hs⟩:=c;refine⟨XB u (Ji v s),λx=>?_⟩;grind[Yc,Jd,ev]
end
theorem Ku{p:List Rat}(x:Rat):ev (Jr p) x=ev p x*(1/cf p (p.length-1)):=Jo _ _ _
theorem oJ:∀(n:Nat) (p q:List Rat),Jc p=p->Jc q=q->q.length<=n->Dv (Ea n p q) p/\Dv (Ea n p q) q/\∃u v:List Rat,∀x,ev (Ea n p q) x=ev u x*ev p x+ev v x*ev q x:=by
 intro n;induction n with
 |zero=>
  intro p q hp hq hl;have a:q=[]:=MX O;subst a;rw[Ea];refine⟨?_,Dv.zero _,[1/cf p (p.length-1)],[],λx=>by rw[Ku];simp[ev];grind⟩;by_cases b:p=[]
  . subst b;exact Dv.refl _
  . exact Dv.of_sc (MY (Jt hp b)) (Dv.refl _)
 |succ n g=>
  intro p q hp hq hl;by_cases a:q=[]
  . subst a;simp only[Ea,BF];refine⟨?_,Dv.zero _,[1/cf p (p.length-1)],[],λx=>by rw[Ku];simp[ev];grind⟩;by_cases b:p=[]
    . subst b;exact Dv.refl _
    . exact Dv.of_sc (MY (Jt hp b)) (Dv.refl _)
  . simp only[Ea,BE a];obtain⟨d,j,k,i⟩:=Y3 p q hq a;obtain⟨c,e,u,v,f⟩:=g q (JU p q) hq i O;refine⟨c.comb e (Jn p q) [1] (λx=>by rw[d x];simp[ev];grind),c,v,JT u (Ji v (Jn p q)),λx=>?_⟩;rw[f x,d x,Xt,Jd];grind
section
variable {p q d:List Rat}
theorem J6(hp:Jc p=p)(hq:Jc q=q):Dv (Js p q) p/\Dv (Js p q) q/\∃u v:List Rat,∀x,ev (Js p q) x=ev u x*ev p x+ev v x*ev q x:=oJ _ p q hp hq (Aa _)
theorem Ik(hp:Jc p=p)(hq:Jc q=q)(a:Dv d p)(b:Dv d q):Dv d (Js p q):=by
 obtain⟨_,_,u,v,h⟩:=J6 hp hq;exact a.comb b u v h
def oK:∀(n:Nat) (p q:List Rat),Jc p=p->Jc q=q->q.length<=n->Jr (Ea n p q)=Ea n p q:=by
 intro n;induction n with
 |zero=>intro p q hp _ _;exact KJ hp
 |succ n b=>
  intro p q hp hq hl;rw[Ea];split
  . exact KJ hp
  . rename_i a;have:=(Y3 p q hq a).2.1;exact b _ _ hq (XH _ _) O
theorem YF(hp:Jc p=p)(hq:Jc q=q):Jr (Js p q)=Js p q:=oK _ p q hp hq (Aa _)
end
theorem XC{p:List Rat}(hp:Jc p=p)(h:∀x,ev p x=0):p=[]:=YG hp rfl (λx=>by rw[h x];rfl)
def Dv.some{a b:List Rat}(d:Jc b=b)(h:Dv a b):∃c,Jc c=c/\b=Ji a c:=by
 obtain⟨c,e⟩:=h;exact⟨Jc c,Yu _,YG d (Jq _ _) λx=>by rw[Jd,G9,e]⟩
theorem YS(a:List Rat):Ji a []=[]:=XC (Jq _ _) λx=>by rw[Jd];simp[ev]
theorem Dv.anti{a b:List Rat}(p:Jc a=a)(j:Jc b=b)(h:Dv a b)(t:Dv b a):∃k:Rat,k≠0/\b=DN k a:=by
 obtain⟨c,q,e⟩:=h.some j;obtain⟨d,u,i⟩:=t.some p;by_cases g:a=[]
 . refine⟨1,DK,?_⟩;rw[e,g];rfl
 . have n:b≠[]:=λf=>g (by rw[i,f];rfl);have m:c≠[]:=λf=>n (by rw[e,f];exact YS _);have l:d≠[]:=λf=>g (by rw[i,f];exact YS _);have l1:=JB p q g m;have l2:=JB j u n l;rw[<-e]at l1;rw[<-i]at l2;have p1:0<c.length:=Ae.2 m;have v:0<d.length:=Ae.2 l;have w:0<a.length:=Ae.2 g;have r:c.length=1:=O
   match c,r with
   |[k],_=>
    have hk:k≠0:=by
     have:=Jt q DI;simpa[Xh]using this
    refine⟨k,hk,YG j (JH _ _) λx=>?_⟩;grind[Jd,Jo,ev]
theorem Dv.eq{a b:List Rat}(c:Jc a=a)(f:Jc b=b)(ma:Jr a=a)(mb:Jr b=b)(h:Dv a b)(d:Dv b a):a=b:=by
 obtain⟨k,hk,e⟩:=h.anti c f d;rw[<-mb,e,MZ hk c,ma]
theorem JI{p g:List Rat}(hg:Jc g=g)(a:g≠[])(h:Dv g p):JU p g=[]/\∀x,ev p x=ev g x*ev (Jn p g) x:=by
 obtain⟨c,b⟩:=h;have d:=OE (p:=p) (u:=Jc c) (v:=[]) hg a (Yu _) rfl (Ae.2 a) (λx=>by rw[b,G9];simp[ev];grind);grind[G9]
theorem Y1{g u v:List Rat}(hg:Jc g=g)(c:g≠[])(h:∀x,ev g x*ev u x=ev g x*ev v x):∀x,ev u x=ev v x:=by
 have d:Ji g (JT u v)=[]:=XC (Jq _ _) λx=>by rw[Jd,Xt];have:=h x;grind
 have a:JT u v=[]:=by
  by_cases b:JT u v=[]
  . exact b
  . grind[JB,Yz,Ae]
 intro x;have e:=congrArg (λr=>ev r x) a;grind[Xt,ev]
theorem OL{p q:List Rat}(hp:Jc p=p)(hq:Jc q=q)(a:Js p q≠[]):DR (Jn p (Js p q)) (Jn q (Js p q)):=by
 obtain⟨c,d,u,v,i⟩:=J6 hp hq;have b:=JE p q;have f:=(JI b a c).2;have g:=(JI b a d).2;refine⟨u,v,?_⟩;have e:=Y1 (u:=XB (Ji u (Jn p (Js p q))) (Ji v (Jn q (Js p q)))) (v:=[1]) b a (λx=>by
  grind[Yc,Jd,ev])
 intro x;have j:=e x;grind[Yc,Jd,ev]
theorem Yd{p q:List Rat}(hp:Jc p=p)(hq:Jc q=q)(h:p≠[]\/q≠[]):Js p q≠[]:=λe=>by
 obtain⟨a,b,_⟩:=J6 hp hq;rw[e]at a b;obtain⟨c,f⟩:=a;obtain⟨d,g⟩:=b;grind[XC,ev]
section
variable {a b c d e f g k p q r u w y z R:List Rat}
theorem Yh(p q:List Rat)(x:Rat):ev (Jb (Ji p q)) x=ev (Jb p) x*ev q x+ev p x*ev (Jb q) x:=by
 rw[Sn,Yc,Jd,Jd]
theorem XK(p:List Rat)(i:Nat):cf (Jb p) i=cf p (i+1)*(((i+1:Nat):Int):Rat):=by
 unfold Jb;rw[YD,LG];rfl
theorem YW(a:p≠[]):(Jb p).length<p.length:=by
 have b:0<p.length:=Ae.2 a;have c:(Jb p).length<=p.length-1:=Ig (Ju _) λi hi=>by
  rw[XK,Ys O,AY]
 omega
theorem Mc(hp:Jc p=p)(h:Jb p=[]):p.length<=1:=by
 refine Ig hp λi hi=>?_;obtain⟨j,rfl⟩:∃j,i=j+1:=⟨i-1,O⟩;have b:=XK p j;rw[h,X6]at b;rcases AM.1 b.symm with a|a
 . exact a
 . exfalso
   have c:((j+1:Nat):Int)=0:=by exact_mod_cast a
   omega
theorem LY(hp:Jc p=p)(a:p≠[])(hl:p.length<=1):Dv p [1]:=by
 have b:0<p.length:=Ae.2 a;match p,hl,hp,a with
 |[c],_,hp,_=>
  have d:c≠0:=by
   have:=Jt hp DI;simpa[Xh]using this
  exact⟨[1/c],λx=>by simp[ev];grind⟩
theorem Md(a:Jc u=u)(b:u≠[])(h:Dv u (Jb u)):Dv u [1]:=by
 refine LY a b (Mc a ?_);obtain⟨c,d,e⟩:=h.some (Ju u);grind[YS,JB,YW,Ae]
theorem Yt(c:Jc a=a)(f:Jc b=b)(d:a≠[])(g:b≠[]):Ji a b≠[]:=λe=>by
 grind[JB,Ae]
theorem oL(A:Jc d=d)(r:d≠[])(h:Dv d (Ji (Jb d) f)):∀(n:Nat) (u:List Rat),Jc u=u->d.length-u.length<=n->Dv u d->DR u f->Dv u [1]:=by
 intro n;induction n with
 |zero=>
  intro u b hl p j;obtain⟨m,l,e⟩:=p.some A;have a:u≠[]:=λg=>r (by rw[e,g];rfl);have w:m≠[]:=λg=>r (by rw[e,g];exact YS _);have l1:=JB b l a w;rw[<-e]at l1;have p3:0<u.length:=Ae.2 a;have P:m.length<=1:=O
  have R:=LY l w P;have N:Dv d u:=by
   obtain⟨c,q⟩:=R;refine⟨c,λx=>?_⟩;have V:=q x;rw[e,Jd,Rat.mul_assoc,<-V];simp[ev];grind
  have i:Dv u (Ji f (Jb d)):=by
   obtain⟨c,q⟩:=p.trans h;exact⟨c,λx=>by rw[<-q,Jd,Jd];grind⟩
  have W:=j.dv i;refine Md b a ?_;obtain⟨k,hk,S⟩:=N.anti A b p;have y:Jb u=DN k (Jb d):=by
   refine YG (Ju _) (JH _ _) λx=>?_;rw[S,Jo];have z:DN k d=Ji d [k]:=YG (JH _ _) (Jq _ _) λx=>by rw[Jo,Jd];simp[ev];grind
   rw[z,Yh];have G:ev (Jb [k]) x=0:=by rw[XZ];simp[dv,ev];grind
   rw[G];simp[ev];grind
  rw[y];exact W.sc k
 |succ n ih=>
  intro u b hl p j;obtain⟨m,l,e⟩:=p.some A;have a:u≠[]:=λg=>r (by rw[e,g];rfl);have w:m≠[]:=λg=>r (by rw[e,g];exact YS _);obtain⟨T,U,s,t,g3⟩:=J6 b l;have D:=Yd b l (Or.inl a);have B:=JE u m;by_cases hg:(Js u m).length<=1
  . obtain⟨c,q⟩:=LY B D hg;have M:DR u m:=⟨Ji s c,Ji t c,λx=>by
     grind[Jd,ev]⟩
    have i:Dv u (Ji f (Ji m (Jb u))):=by
     obtain⟨v,hv⟩:=h;refine⟨JT (Ji m v) (Ji f (Jb m)),λx=>?_⟩;have y:=hv x;have z:=Yh u m x;rw[<-e]at z;have G:ev d x=ev u x*ev m x:=by rw[e,Jd]
     rw[Jd]at y;rw[Jd,Jd,Xt,Jd,Jd];grind
    exact Md b a (M.dv (j.dv i))
  . have H:Dv (Ji u (Js u m)) d:=by
     obtain⟨v,hv⟩:=U;exact⟨v,λx=>by rw[e,Jd,hv,Jd];grind⟩
    have l1:=JB b B a D;have p3:0<u.length:=Ae.2 a;have i:=ih (Ji u (Js u m)) (Jq _ _) O H (j.symm.mul (j.of_dv T).symm).symm;obtain⟨v,hv⟩:=i;exact⟨Ji (Js u m) v,λx=>by rw[hv,Jd,Jd];grind⟩
structure Yun(R w y:List Rat):Prop where
 tR:Jc R=R
 R0:R≠[]
 tw:Jc w=w
 w0:w≠[]
 mw:Jr w=w
 ty:Jc y=y
 eq:∀x,ev y x*ev R x=ev w x*ev (Jb R) x
 cop:DR w y
theorem Yun.dv(h:Yun R w y):Dv w R:=by
 refine h.cop.dv ⟨Jb R,λx=>?_⟩;rw[Jd,h.eq]
theorem Me(f:Jc w=w)(w0:w≠[])(mw:Jr w=w)(hg:Jc g=g)(m:Jr g=g)(h:Dv g w):Jr (Jn w g)=Jn w g/\g≠[]/\Jn w g≠[]/\w=Ji g (Jn w g):=by
 have g0:g≠[]:=λe=>w0 (by
  obtain⟨c,k⟩:=h;grind[XC,ev])
 have e:=(JI hg g0 h).2;have a:w=Ji g (Jn w g):=YG f (Jq _ _) λx=>by rw[Jd,<-e]
 have q0:Jn w g≠[]:=λb=>w0 (by rw[a,b];exact YS _);refine⟨?_,g0,q0,a⟩;have l:=JB hg (YE w g) g0 q0;have p1:0<g.length:=Ae.2 g0;have i:0<(Jn w g).length:=Ae.2 q0;have j:cf w (w.length-1)=cf g (g.length-1)*cf (Jn w g) ((Jn w g).length-1):=by
  obtain⟨Q,d⟩:=ex (Jn w g);rw[d]at a l i ⊢;rw[a,l,show g.length+Q.length-1-1=(g.length-1)+(Q.length-1)by omega];unfold Ji;rw[YD];exact PF g Q (g.length-1) (Q.length-1) O O
 grind[Q9,Jr,Ii,YE]
theorem Yun.step(h:Yun R w y):Js w (Jn R w)=Jn w (Js w (JT y (Jb w)))/\Jn w (Js w (Jn R w))=Js w (JT y (Jb w))/\
 Yun (Jn R w) (Jn w (Js w (JT y (Jb w)))) (Jn (JT y (Jb w)) (Js w (JT y (Jb w))))/\R=Ji w (Jn R w)/\
 (∀x,ev (JT y (Jb w)) x*ev (Jn R w) x=ev w x*ev (Jb (Jn R w)) x)/\w=Ji (Js w (JT y (Jb w))) (Jn w (Js w (JT y (Jb w)))):=by
 obtain⟨r,W⟩:=ex (Jn R w);obtain⟨z,hz⟩:=ex (JT y (Jb w));have tr:Jc r=r:=by rw[<-W];exact YE _ _
 have tz:Jc z=z:=by rw[<-hz];exact Yz _ _
 have eR:∀x,ev R x=ev w x*ev r x:=by rw[<-W];exact(JI h.tw h.w0 h.dv).2
 have Qf:R=Ji w r:=YG h.tR (Jq _ _) λx=>by rw[Jd,eR]
 have r0:r≠[]:=λe=>h.R0 (by rw[Qf,e];exact YS _);have Qt:∀x,ev z x*ev r x=ev w x*ev (Jb r) x:=by
  have a:=Y1 (g:=w) (u:=Ji z r) (v:=Ji w (Jb r)) h.tw h.w0 (λx=>by
   have b:=h.eq x;grind[Yh,Jd,Xt])
  intro x;have b:=a x;rwa[Jd,Jd]at b
 have N:=Ju r;obtain⟨d,m⟩:=ex (Js r (Jb r));have q:Jc d=d:=by rw[<-m];exact JE _ _
 have d0:d≠[]:=by rw[<-m];exact Yd tr N (Or.inl r0)
 obtain⟨g1,g2,_⟩:=J6 tr N;rw[m]at g1 g2;obtain⟨f,V⟩:=ex (Jn r d);obtain⟨e,he⟩:=ex (Jn (Jb r) d);have B:∀x,ev r x=ev d x*ev f x:=by rw[<-V];exact(JI q d0 g1).2
 have ee:∀x,ev (Jb r) x=ev d x*ev e x:=by rw[<-he];exact(JI q d0 g2).2
 have tf:Jc f=f:=by rw[<-V];exact YE _ _
 have f0:f≠[]:=λS=>r0 (XC tr λx=>by rw[B,S];simp[ev]);have Qg:DR f e:=by
  have:=OL tr N (by rw[m];exact d0);rwa[m,V,he]at this
 have Qo:∀x,ev z x*ev f x=ev w x*ev e x:=by
  have a:=Y1 (g:=d) (u:=Ji z f) (v:=Ji w e) q d0 (λx=>by
   grind[Jd])
  intro x;have b:=a x;rwa[Jd,Jd]at b
 have Qe:Dv f w:=Qg.dv (⟨z,λx=>by rw[Jd];have:=Qo x;grind⟩);obtain⟨k,tk,T⟩:=Qe.some h.tw;have A:∀x,ev w x=ev f x*ev k x:=λx=>by rw[T,Jd]
 have M:∀x,ev z x=ev k x*ev e x:=by
  have a:=Y1 (g:=f) (u:=z) (v:=Ji k e) tf f0 (λx=>by
   grind[Jd])
  intro x;have b:=a x;rwa[Jd]at b
 obtain⟨P,i⟩:=ex (Js w z);have j:Jc P=P:=by rw[<-i];exact JE _ _
 have mP:Jr P=P:=by rw[<-i];exact YF h.tw tz
 obtain⟨p1,p2,_⟩:=J6 h.tw tz;have Qm:Dv k P:=by rw[<-i];exact Ik h.tw tz ⟨f,λx=>by rw[A];grind⟩ ⟨e,M⟩
 rw[i]at p1 p2;have Qk:Dv P k:=by
  obtain⟨u,v,p⟩:=Qg;refine p1.comb p2 u v λx=>?_;have a:=p x;rw[A,M];grind
 obtain⟨m1,l,G,eW⟩:=Me h.tw h.w0 h.mw j mP p1;have zP:=(JI j l p2).2;have wP:=(JI j l p1).2;have Qj:DR k y:=h.cop.of_dv ⟨f,λx=>by rw[A];grind⟩;have Qp:DR k f:=by
  obtain⟨u,v,p⟩:=Qj;refine⟨XB u (Ji v (XB e (Jb f))),Ji v (Jb k),λx=>?_⟩;have a:=p x;have b:ev y x=ev z x+ev (Jb w) x:=by rw[<-hz,Xt];grind
  have D:=Yh f k x;rw[<-T]at D;have h4:=M x;rw[Yc,Jd,Jd,Yc];grind
 have Qh:Dv d (Ji (Jb d) f):=by
  refine⟨JT e (Jb f),λx=>?_⟩;have a:r=Ji d f:=YG tr (Jq _ _) λx=>by rw[Jd,B]
  have b:=Yh d f x;rw[<-a,ee]at b;rw[Jd,Xt];grind
 have Qn:DR k d:=by
  obtain⟨q1,q2,s,t,q3⟩:=J6 tk q;obtain⟨c,U⟩:=oL q d0 Qh (d.length) (Js k d) (JE _ _) O q2 (Qp.of_dv q1);refine⟨Ji s c,Ji t c,λx=>?_⟩;have a:=U x;have b:=q3 x;have D:ev [1] x=1:=by simp[ev];grind
  rw[D]at a;rw[Jd,Jd];grind
 obtain⟨c1,c2,s,t,c3⟩:=J6 h.tw tr;have Qi:Dv f (Js w r):=Ik h.tw tr Qe ⟨d,λx=>by rw[B];grind⟩;have Qr:Dv (Js w r) f:=by
  obtain⟨u,v,p⟩:=Qn;refine c1.comb c2 u v λx=>?_;have a:=p x;rw[A,B];grind
 obtain⟨n,hn⟩:=ex (Jn w P);rw[hn]at m1 G eW wP;have H:Jc n=n:=by rw[<-hn];exact YE _ _
 have Qs:Dv f n:=by
  obtain⟨c,U⟩:=Qk;refine⟨c,λx=>?_⟩;have a:=Y1 (g:=P) (u:=n) (v:=Ji f c) j l (λx=>by
   grind[Jd])
  have b:=a x;rwa[Jd]at b
 have Ql:Dv n f:=by
  have k0:k≠[]:=λS=>h.w0 (by rw[T,S];exact YS _);obtain⟨c,U⟩:=Qm;refine⟨c,λx=>?_⟩;have a:=Y1 (g:=k) (u:=f) (v:=Ji n c) tk k0 (λx=>by
   grind[Jd])
  have b:=a x;rwa[Jd]at b
 have hG:Js w r=n:=Dv.eq (JE _ _) H (YF h.tw tr) m1 (Qr.trans Qs) (Ql.trans Qi);have Qq:Dv n w:=⟨P,λx=>by rw[wP];grind⟩;have Qa:Jn w n=P:=by
  refine YG (YE _ _) j λx=>?_;have a:=(JI H G Qq).2;refine Y1 (g:=n) (u:=Jn w n) (v:=P) H G (λx=>?_) x;have b:=a x;have D:=wP x;grind
 rw[W,hz,i,hn];refine⟨hG,by rw[hG];exact Qa,⟨tr,r0,H,G,m1,YE _ _,λx=>?_,?_⟩,Qf,Qt,eW⟩
 . refine(Y1 (g:=P) (u:=Ji (Jn z P) r) (v:=Ji n (Jb r)) j l (λx=>?_) x |> λa=>by rwa[Jd,Jd]at a);grind[Jd]
 . have:=OL h.tw tz (by rw[i];exact l);rwa[i,hn]at this
theorem Yun.start(tp:Jc p=p)(p0:p≠[])(d:Jr p=p):Yun p (Jn p (Js p (Jb p))) (Jn (Jb p) (Js p (Jb p))):=by
 have ts:=Ju p;obtain⟨a,b,_⟩:=J6 tp ts;have g0:=Yd tp ts (Or.inl p0);obtain⟨c,_,f,e⟩:=Me tp p0 d (JE _ _) (YF tp ts) a;have g:=(JI (JE p (Jb p)) g0 a).2;have i:=(JI (JE p (Jb p)) g0 b).2;refine⟨tp,p0,YE _ _,f,c,YE _ _,λx=>?_,OL tp ts g0⟩;grind
end
def Hq{a b:Rat}(c:0<a)(d:0<b):∃e,0<e/\e<=a/\e<=b:=by
 rcases JV a b with h|h
 . exact⟨a,c,Rat.le_refl,h⟩
 . exact⟨b,d,h,Rat.le_refl⟩
def RK{w:List Rat}(tw:Jc w=w)(w0:w≠[])(hl:w.length<=1)(x y:Rat):Stb w x y:=by
 match w,w0,hl with
 |[c],_,_=>
  have c0:c≠0:=by
   have:=Jt tw DI;simpa[cf]using this
  exact XJ c0 (λx=>Jm c x) x y
theorem RL:∀(n:Nat) (R w y:List Rat),R.length<=n->Yun R w y->∀ {B:Rat},0<=B->∃k,0<k/\Sh B λx z=>¬Stb w x z->k<=ev y x*ev (Jb w) x/\k<=ev y z*ev (Jb w) z:=by
 intro n;induction n with
 |zero=>intro R w y hn h;exact absurd (Ak.1 O) h.R0
 |succ n ih=>
  intro R w y hn h B f;by_cases hl:w.length<=1
  . exact⟨1,DK,Sh.all λx z _ _ _ hs=>absurd (RK h.tw h.w0 hl x z) hs⟩
  . obtain⟨_,_,c,eR,_,j⟩:=h.step;have tz:=Yz y (Jb w);have Qa:∀x,ev (JT y (Jb w)) x=ev y x-ev (Jb w) x:=λx=>Xt _ _ _;obtain⟨z,hz⟩:=ex (JT y (Jb w));rw[hz]at c j tz Qa;obtain⟨g1,g2,_⟩:=J6 h.tw tz;have a0:=Yd h.tw tz (Or.inl h.w0);have N:=(JI (JE w z) a0 g2).2;obtain⟨a,ha⟩:=ex (Js w z);rw[ha]at c j N;obtain⟨w2,co⟩:=ex (Jn w a);rw[co]at c j;obtain⟨y2,de⟩:=ex (Jn z a);rw[de]at c N;obtain⟨R2,cj⟩:=ex (Jn R w);rw[cj]at c eR;have lR:R2.length<=n:=by
     have:=JB h.tw c.tR h.w0 c.R0;rw[<-eR]at this;omega
    obtain⟨S,df,T⟩:=ih R2 w2 y2 lR c f;have m:∀x,ev w x=ev a x*ev w2 x:=λx=>by
     have:=Jd a w2 x;rwa[<-j]at this
    have fd:∀x,ev (Jb w) x=ev (Jb a) x*ev w2 x+ev a x*ev (Jb w2) x:=λx=>by
     have:=Yh a w2 x;rwa[<-j]at this
    have fy:∀x,ev (Jb w) x=ev y x-ev a x*ev y2 x:=λx=>by
     have D:=Qa x;have c:=N x;grind
    obtain⟨u,v,ah⟩:=h.cop;obtain⟨U,pU,hU⟩:=XR u f;obtain⟨V,g,hV⟩:=XR v f;obtain⟨dx,pY,hY⟩:=XR y f;obtain⟨A,pA,hA⟩:=XR a f;obtain⟨A1,am,hA1⟩:=XR (Jb a) f;obtain⟨W2,dj,cn⟩:=XR w2 f;obtain⟨l,fg,ck⟩:=XR (Jb w2) f;obtain⟨H,dt,ae⟩:=XR y2 f;have nn:∀ {a b:Rat},0<a->0<b->0<a*b:=λD c=>Rat.mul_pos D c;obtain⟨e1,aq,ay⟩:=small (Rat.le_of_lt (nn pU dj)) (show(0:Rat)<1/4 by grind);obtain⟨e2,az,bf⟩:=small (Rat.le_of_lt (nn (nn g g) (nn pY dt))) (show(0:Rat)<1/16 by grind);obtain⟨e,e0,bz,ce⟩:=Hq aq az;have i:0<V*(l+H):=nn g DH;obtain⟨M,hM⟩:=ex (V*(l+H));obtain⟨e3,bg,bi⟩:=small (Rat.le_of_lt (nn pU pA)) (show(0:Rat)<1/4 by grind);obtain⟨e4,bj,bm⟩:=small (Rat.le_of_lt (nn g am)) (show(0:Rat)<1/4 by grind);obtain⟨e5,bn,bu⟩:=small (Rat.le_of_lt (nn (nn i i) (nn am (nn pA (show 0<l+l+H by grind))))) (show(0:Rat)<S/8 by grind);obtain⟨d1,an,dz,ed⟩:=Hq bg bj;obtain⟨d,d0,ei,ap⟩:=Hq an bn;obtain⟨k,k0,dh,di⟩:=Hq (Yl (show(0:Rat)<1/2 by grind) (nn g g)) (Yl (show(0:Rat)<S/8 by grind) (nn i i));refine⟨k,k0,(((Xj a f e0).and (Xj w2 f d0)).and T).mono λx G hx ai _ ⟨⟨ta,tw⟩,T⟩ hs=>?_⟩;have aj:∀ {K r t:Rat},0<K->r<=K*t->k<=r/K->k<=t:=fun {K r t} hK D c=>by
     have h3:r/K*K=r:=Aj DH;rcases JV k t with h4|h4
     . exact h4
     . have:=Rat.mul_nonneg (a:=K) (b:=k-t) DH DH;have:=Rat.mul_nonneg (a:=r/K-k) (b:=K) DH DH;rcases JV t k with P|P
       . rcases Rat.le_iff_lt_or_eq.1 P with h6|h6
         . have:=Rat.mul_pos (a:=K) (b:=k-t) hK DH;grind
         . grind
       . exact P
    have ca:∀p,Wi B p->Wi e (ev a p)->k<=ev y p*ev (Jb w) p:=λp hp hq=>by
     have:=cT (hU p hp) (hV p hp) (hY p hp) hq (cn p hp) (ae p hp) (ah p) (m p) (by have:=ay e bz;grind) (by have:=bf e ce;grind);rw[<-fy p]at this;exact aj (nn g g) this dh
    have cw:∀p,Wi B p->Wi d (ev w2 p)->S<=ev y2 p*ev (Jb w2) p->k<=ev y p*ev (Jb w) p:=λp hp hq hk=>by
     have h9:=cU (hU p hp) (hV p hp) (hA p hp) (hA1 p hp) hq (ck p hp) (ae p hp) (ah p) (m p) (by have D:=fy p;have h3:=fd p;grind) df hk (by have:=bi d DH;grind) (by have:=bm d DH;grind) (by have:=bu d ap;grind);rw[<-fd p]at h9;exact aj (nn i i) h9 di
    by_cases sa:Stb a x G
    . have sw:¬Stb w2 x G:=λq=>hs (by
       unfold Stb at *;rw[m,m];have:=Rat.mul_pos sa q;grind)
      obtain⟨W,t2⟩:=tw sw;obtain⟨r1,r2⟩:=T sw;exact⟨cw x hx W r1,cw G ai t2 r2⟩
    . obtain⟨W,t2⟩:=ta sa;exact⟨ca x hx W,ca G ai t2⟩
namespace M3
variable{S ps qs:List Rat}{n:Nat}
theorem oM(D:I)(q:Rat)(w:F)(v:Jf w D q)(B:Sq q):
 Calls X 253 #[D] w λe w'=>∃u,e=.returned u/\Jf w' u (Yn q)/\Bl w w':=by
 obtain⟨bf,S,ay,ai,bi,ae,ap,am,rfl⟩:=Jf.form v;obtain⟨W0,y,c⟩:=LL 41 (.rat q) v 41 (.rat 0) (Xx _);have z:=Z B;clear v B;go_enter Tryz.func253,Tryz.ntmps253
 go_upto_region 1 with fail
 rw[y.o];clear y;obtain⟨s1,P,l1,c1,t1,U,k1,d1,k,r1,M,N⟩:=c.o.rat (i:=0) rfl;have d:=Bx.all k;obtain⟨s2,R,l2,c2,t2,W,k2,d2,a,r2,i2,j2⟩:=c.o.rat (i:=1) rfl;have b:=Bx.all a;have f:=Bx.f a;obtain⟨g,l,G⟩:=DX (XF _ _ q 0 W0 r1 (Xx _) z.o FO) (λ(V:F) (h:Bl W0 V)=>KA _ _ 0 q V (Xx _) (r1.below h) FO z.o) r1;obtain⟨n,hn⟩:=ex (Xe q 0);rw[hn]at g;have x:=Z hn;clear hn r1 M N;by_cases A:n<0
 . have m:=Z (show 0-q=Yn q by
    have t:=(OK q).1 (by rw[x.o];exact A);unfold Yn;rw[BF t];grind)
   rw[m.o]at l;go_wp2_with(first
    |(go_at_call 32;refine g.o.mono ?_;clear g;rintro e w1 ⟨rfl,hq⟩;clear d;have d:=Bx.all (k.below hq);clear b;have b:=Bx.all (a.below hq);clear f;have f:=Bx.f (a.below hq))
    |(go_at_call 41;refine(l.o _ hq).mono ?_;clear l;rintro e w2 ⟨u2,rfl,j,H⟩;obtain⟨bg,T,az,aj,bj,ah,aq,an,rfl⟩:=Jf.form j;have hq:=Bt hq H;clear d;have d:=Bx.all (k.below hq);clear b;have b:=Bx.all (a.below hq);clear f;have f:=Bx.f (a.below hq)))
   have r:=Bt c.o.2.2 hq;have p:=c.o.ge 1 rfl;exact BA (by simp[results,Tryz.results253,go_sem,b]) rfl ⟨_,rfl,j.put4 (a.below hq) rfl rfl rfl rfl _ _ _ _,Jv r p _ _ _ _⟩
 . have m:=Z (show Yn q=q by
    have t:¬q<0:=λh=>A (by rw[<-x.o];exact(OK q).2 h);unfold Yn;rw[BE t])
   go_wp2_with(go_at_call 32;refine g.o.mono ?_;clear g;rintro e w1 ⟨rfl,hq⟩;clear d;have d:=Bx.all (k.below hq);clear b;have b:=Bx.all (a.below hq);clear f;have f:=Bx.f (a.below hq))
   have j:=G.o.below hq;rw[<-m.o]at j;have r:=Bt c.o.2.2 hq;have p:=c.o.ge 1 rfl;exact BA (by simp[results,Tryz.results253,go_sem,b]) rfl ⟨_,rfl,j.put4 (a.below hq) rfl rfl rfl rfl _ _ _ _,Jv r p _ _ _ _⟩
def oN(P R:I)(x y:Nat)(w:F)(r:Jj w P (x:Int))(t:Jj w R (y:Int))(N:0<x)(G:Sok (x:Int))(H:Sok (y:Int)):
 Calls X 216 #[P,R] w λe w'=>∃u,e=.returned u/\Jj w' u ((Nat.lcm x y:Nat):Int)/\Bl w w':=by
 have S:=Z (show((Int.gcd x y:Nat):Int)≠0 by have:=Nat.gcd_pos_of_pos_left y N;exact Int.natCast_ne_zero.2 (by show Nat.gcd x y≠0;omega));obtain⟨bg,ai,ay,an,rfl⟩:=Jj.form2 r;obtain⟨bi,aj,az,ap,rfl⟩:=Jj.form2 t;obtain⟨W0,z,A⟩:=IF 39 (.int ((x:Int))) r 39 (.int ((y:Int))) t 39 (.int 0) (EY _);have l:=Z G;have g:=Z H;clear r t G H;go_enter Tryz.func216,Tryz.ntmps216
 go_upto_region 1 with fail
 rw[z.o];clear z;clear N;refine Yx Dh [[],[],[],[1,2],[0,3,3],[4],[5],[5],[5],[],[],[9,6,4,0,1,2,3,4,5,6,9,10],[10,7,11,0,1,2,3,4,5,6,7,9,10,11],[8,12,0,1,2,3,4,5,6,7,8,9,10,11,12]] [.int ((y:Int)),.int ((x:Int)),.int ((y:Int)),.int (((Int.gcd x y:Nat):Int)),.tup2 (.int ((y:Int)/((Int.gcd x y:Nat):Int))) (.int ((y:Int)%((Int.gcd x y:Nat):Int))),.tup2 (.int ((y:Int)/((Int.gcd x y:Nat):Int))) (.int ((y:Int)%((Int.gcd x y:Nat):Int))),.int ((y:Int)/((Int.gcd x y:Nat):Int)),.int ((y:Int)%((Int.gcd x y:Nat):Int)),.eq (o true),.ptr,.ptr,.eq undef,.eq undef,.eq (o true)] [9,10,11,12] (λb v V=>DJ w V [some (w.heap.size,.int ((x:Int))),some (w.heap.size+1,.int ((y:Int))),some (w.heap.size+1+1,.int 0),nb b v 0 2 (.int 0) (.int ((y:Int)/((Int.gcd x y:Nat):Int))),nb b v 1 3 (.int 0) (.int ((y:Int)%((Int.gcd x y:Nat):Int)))]) ((A.o.none).none).drew (SR (.vl rfl λ_ j=>Fqq 1 j)<|SR (.vl rfl λ_ j=>Fqq 0 j)<|SR (.vl rfl λ_ j=>Fqq 1 j)<|SR (.cl λh _=>Kk _ _ (x:Int) (y:Int) _ (h.g 1) (h.g 2) (by have:=l.o.words;omega) (by have:=g.o.words;omega))<|SR (.cl λh _=>Nh (Nt _ _ (y:Int) ((Int.gcd x y:Nat):Int) _ (h.g 0) (h.g 3) S.o (by have:=g.o.words;omega) (by have:=(l.o.gcd g.o).words;omega)))<|SR (.vl rfl λh _=>mw (h.g 4))<|SR (.vl rfl λh _=>Nm (h.g 5))<|SR (.vl rfl λh _=>Nn (h.g 5))<|SR (.vl rfl λh _=>Np (h.g 5))<|SR (.wr rfl λ_ j=>GQ 3 j)<|SR (.wr rfl λ_ j=>GQ 4 j)<|SR (.wr rfl λh j=>FN 3 j (h.g 6) (hp:=h.g 9))<|SR (.wr rfl λh j=>FN 4 j (h.g 7) (hp:=h.g 10))<|SR (.vl rfl λh _=>aw (h.g 8)) Stp.end_)
  λf U hF c=>?_
 refine DP ?_;rw[hF.e 8,hF.e 13];obtain⟨B3,n⟩:=hF.p 9;obtain⟨B4,q⟩:=hF.p 10;have c:=Dw c;simp only[n,q]at c;rw[n,q];have a:=Z c;clear c hF n q;clear A;obtain⟨s5,a5,l5,c5,n5,W⟩:=a.o.int (i:=0) rfl;have ae:=Bx.all n5;obtain⟨s6,a6,l6,c6,n6,i6⟩:=a.o.int (i:=3) rfl;have ah:=Bx.all n6;obtain⟨s7,a7,l7,c7,d,i7⟩:=a.o.int (i:=2) rfl;have m:=Bx.all d;have D:=Bx.f d;have k:=Z (YR _ _ (x:Int) ((y:Int)/((Int.gcd x y:Nat):Int)) U W i6 (by have h1:=l.o.words;have h2:=(g.o.div (y:=((Int.gcd x y:Nat):Int))).words;omega));rw[oI]at k;go_wp2_with(go_at_call 87;refine k.o.mono ?_;clear k;rintro e w2 ⟨u2,rfl,M,hq⟩;obtain⟨bj,am,bf,aq,rfl⟩:=Jj.form2 M;clear m;have m:=Bx.all (d.below hq);clear D;have D:=Bx.f (d.below hq))
 have T:=Bt a.o.2.2 hq;have B:=a.o.ge 2 rfl;exact BA (by simp[results,Tryz.results216,go_sem,m]) rfl ⟨_,rfl,M.box (d.below hq) rfl rfl,(T.setCell (p:=⟨_,0,none⟩) B _).setCell (p:=⟨_,1,none⟩) B _⟩
def Il(F:Nat->Rat)(n i:Nat)(S:List Rat):Prop:=S.length=n/\∀j,cf S j=if j<i then F j else 0
theorem Il.next{F:Nat->Rat}{i:Nat}(h:Il F n i S)(hi:i<n):Il F n (i+1) (S.set i (F i)):=by
 refine⟨by rw[Fm];exact h.1,λj=>?_⟩;rw[Gk _ _ _ _ (by rw[h.1];exact hi),h.2 j];grind
theorem Il.done{F:Nat->Rat}{T:List Rat}(h:Il F n n S)(hT:Jc T=T)(hF:∀j,j<n->cf T j=F j)(a:∀j,n<=j->cf T j=0):Jc S=T:=by
 rw[<-hT];refine Iv λj=>?_;rw[h.2 j];grind
def Wf(v vf:I)(ps:List Rat)(f:Rat)(w:F)(h:Je w v ps)(R:Jf w vf f)(an:Sqs ps)(ap:Sq f)(aq:∀i,Sq (cf ps i*f)):
 Calls X 217 #[v,vf] w λe w'=>∃u,e=.returned u/\Je w' u (DN f ps)/\Bl w w':=by
 obtain⟨m,la,r,rfl⟩:=h.form;obtain⟨s,a,l,c,t,b,k,d,rfl⟩:=Jf.form R;obtain⟨bf,ay,az,bg,_⟩:=h.row.forms;obtain⟨V0,ah,y⟩:=IF 25 (.cell 25 (E m la r)) EO 41 (.rat f) R 25 (.cell 25 (E none 0 0)) EO;have M1:=y.o;obtain⟨n,hn⟩:=ex (ps.length:Nat);obtain⟨e0,aj⟩:=ex ((n:Int)-1:Int);have G:=Z (Yv (.agg #[E m la r]) ps V0 (h.below M1.2.2));rw[hn,aj]at G;have bi:e0+1=(n:Int):=O
 have bj:IntKind.i64.wrap (n:Int)=(n:Int):=by rw[BH];omega
 have Ql:∀W:F,(Instr.makeSlice 22 (K Q (n:Int)) (K Q (n:Int))).run X W=.ok (E (some ⟨W.heap.size,0,none⟩) n n) (W.alloc (C (YH n) 41)):=λW=>RJ n O W;obtain⟨HP,Qg,Qk,HN⟩:=Dt (λ(V:F) (hB:Bl w V)=>h.below hB) an aq (show ps.length=n from hn);have Qc:n<=1099511627776:=O
 have Qn:=Z ap;clear h an aq bf ay az hn aj M1 bg R ap;go_enter Tryz.func217,Tryz.ntmps217
 go_upto_region 1 with fail
 rw[ah.o];have c0:=(y.o.cell (i:=0) rfl).1.cell;go_upto_region 2 with(go_at_call 26;refine G.o.mono ?_;clear G;rintro e w1 ⟨rfl,ai⟩)
 have H:DJ w (w1.alloc (C (YH n) 41)) [some (w.heap.size,.cell 25 (E m la r)),some (w.heap.size+1,.rat f),some (w.heap.size+1+1,.cell 25 (E none 0 0)),some (w1.heap.size,.rats (List.replicate n 0))]:=(y.o.below ai).push (.rats (List.replicate n 0)) (MV _ n);obtain⟨V1,N⟩:=ex (w1.alloc (C (YH n) 41));obtain⟨A,U⟩:=ex (w1.heap.size);rw[N,U]at H;rw[N,U];have Qf:=Z H;clear H N U ai c0 y ah Ql;go_wp2;go_loopw [13] (λiv wr=>∃(i:Nat) (S:List Rat),i<=n/\iv=K Q (i:Int)/\Hid (Il (λj=>cf ps j*f) n i S)/\Hid (DJ w wr [some (w.heap.size,.cell 25 (E m la r)),some (w.heap.size+1,.rat f),some (w.heap.size+1+1,.cell 25 (E none 0 0)),some (A,.rats S)])) λiv _=>n-(intOf iv).toNat
 case atStart=>exact⟨0,_,As _,rfl,Z ⟨AK,λj=>by rw[Yg,BE O]⟩,Qf⟩
 case round=>
  obtain⟨i,S,hi,rfl,g,x⟩:=hrel;clear Qf;by_cases am:i<n
  . have bm:(i:Int)<(n:Int):=O
    have Qh:=Z (show i<S.length by rw[g.o.1];exact am);go_wp2_with fail
    have Qm:=x.o.drew;refine Yx Dh [[],[],[],[],[2,3],[],[4,5,4],[0,1,0,1,2,3,4,5,6],[7,6,6,0,1,2,3,4,5,6]] [.eq (E (some ⟨A,0,none⟩) n n),.eq (K Q (i:Int)),.eq (.agg #[E m la r]),.eq (K Q (i:Int)),.rat (cf ps i),.rat f,.rat (cf ps i*f),.eq (L (some ⟨A,i*4,none⟩)),.eq undef] [8] (λb _ V=>DJ w V [some (w.heap.size,.cell 25 (E m la r)),some (w.heap.size+1,.rat f),some (w.heap.size+1+1,.cell 25 (E none 0 0)),some (A,if b.getD 0 false then .rats (S.set i (cf ps i*f))else .rats S)]) Qm (SR (.vl rfl λ_ _=>mv)<|SR (.vl rfl λ_ _=>mv)<|SR (.vl rfl λ_ j=>FT 0 j)<|SR (.vl rfl λ_ _=>mv)<|SR (.cl λh j=>c2 (h.e 2) (h.e 3) (by have q:=Hk _ ps (i:Int) _ (HP.o _ j.2.2);rw[IH]at q;exact q))<|SR (.vl rfl λ_ j=>EK 1 j)<|SR (.cl λh _=>Km _ _ (cf ps i) f _ (h.g 4) (h.g 5) (Qg.o.at i) Qn.o)<|SR (.vl rfl λh _=>⟨_,by refine DP ?_;rw[h.e 0,h.e 1];go_simp,rfl⟩)<|SR (.wr rfl λh j=>ME 3 j Qh.o (h.g 6) (h.e 7)) Stp.end_)
     λf V hF z=>?_
    refine DP ?_;rw[hF.e 0,hF.e 1,hF.e 2,hF.e 3,hF.e 7];have z:=Dw z;have HO:=Z z;clear z hF;go_wp2_with fail
    go_roundw
    case rel=>exact⟨i+1,_,O,by go_num,Z (g.o.next am),HO⟩
    case measure=>simp[intOf];omega
  . obtain rfl:i=n:=O
    have hE:=x.o.rats (i:=3) rfl;have D:=hE.row (n:=i) (cap:=i) (by rw[g.o.1];exact Aa _) (Aa _) O Qc;rw[Af (by rw[g.o.1];exact Aa _)]at D;have M:=Z (MI _ S wr D (Sqs.of λj=>by
     rw[g.o.2 j];split
     . exact Qk.o j
     . exact FO))
    rw[g.o.done (T:=DN f ps) (JH _ _) (λj hj=>Yy _ _ _) λj hj=>by rw[Yy,Ys (by rw[HN.o];exact hj),AY]]at M;clear hE D;go_wp2_with(go_at_call 40;refine M.o.mono ?_;clear M;rintro e w5 ⟨u5,rfl,ae,_,P⟩;obtain⟨a7,l7,c7,rfl⟩:=ae.form;have B:=boxed_below (x.o.cell (i:=2) rfl).1 P;have x0:=B.cell;have x1:=B.frozen;have Qi:=Z (GD B (E a7 l7 c7) ae.row);have Qj:=Z ((Bt x.o.2.2 P).setCell (p:=⟨w.heap.size+1+1,0,none⟩) (by show w.heap.size<=w.heap.size+1+1;omega) (E a7 l7 c7));clear ae P B)
    exact BA (by simp[results,Tryz.results217,go_sem,x0]) rfl ⟨_,rfl,⟨_,rfl,Qi.o⟩,Qj.o⟩
def oO(p:List Rat)(n:Nat):((Int.gcd ((Xy p n:Nat):Int) (cf p n).num:Nat):Int)=((Xy p (n+1):Nat):Int):=rfl
def oP(p:List Rat)(n:Nat):((Nat.lcm (XP p n) (cf p n).den:Nat):Int)=((XP p (n+1):Nat):Int):=rfl
theorem RM(D:Int)(M:Nat)(v:I)(ps:List Rat)(w:F)(h:Je w v ps)(ah:Jc ps=ps)(hD:D≠0)(ae:Sm M D)(R:EZ D M ps)(hM:M<=1000000000):
 Calls X 151 #[v] w λe w'=>∃u,e=.returned u/\Je w' u (Jp ps)/\Bl w w':=by
 obtain⟨c,la,d,rfl⟩:=h.form;obtain⟨bj,bg,bi,bm,_⟩:=h.row.forms;have Qa:∀i,DQ M (cf ps i):=λi=>(R i).smq hD ae;obtain⟨HG,HL,Qb⟩:=DX (λi=>Sok.of (WV (λj=>(Qa j).1) i) O:∀i,Sok ((Xy ps i:Nat):Int)) (λi=>Sok.of (WU hD ae R i) O:∀i,Sok ((XP ps i:Nat):Int)) (show Sqs ps from Sqs.of λi=>Sq.of (Qa i) hM);have HF:=Z (show ps≠[]->Sq ((XP ps ps.length:Rat)/(Xy ps ps.length:Rat))/\∀i,Sq (cf ps i*((XP ps ps.length:Rat)/(Xy ps ps.length:Rat)))from λg=>by
  have h1:=RE ah g (R.ln hD);refine⟨?_,λi=>?_⟩
  . have h2:((XP ps ps.length:Rat)/(Xy ps ps.length:Rat))=Rat.divInt ((XP ps ps.length:Nat):Int) ((Xy ps ps.length:Nat):Int):=by grind[AD,AF]
    rw[h2];exact Sq.of (DQ.divInt (Int.natCast_ne_zero.2 (Ma ah g)) (WU hD ae R _) (WV (λj=>(Qa j).1) _)) hM
  . obtain⟨z,h3,h4⟩:=h1 i;have h5:cf ps i*((XP ps ps.length:Rat)/(Xy ps ps.length:Rat))=(z:Rat):=by rw[<-h4];unfold Jp;rw[Yy]
    rw[h5];have h6:1<=M:=by
     by_cases h7:1<=M
     . exact h7
     . exfalso
       obtain rfl:M=0:=O
       grind[Sm]
    exact Sq.of ((OI (D:=1) DK h3 DH).smq DK (Sm.one M h6)) hM)
 have Qj:=Z (λg=>Ma ah g:ps≠[]->Xy ps ps.length≠0);obtain⟨W0,aq,M1⟩:=IF 25 (.cell 25 (E c la d)) EO 25 (.cell 25 (E none 0 0)) EO 39 (.int (((Xy ps 0:Nat):Int))) (EY _) (w:=w);obtain⟨n,hn⟩:=ex (ps.length:Nat);obtain⟨e0,bf⟩:=ex ((n:Int)-1:Int);have Qc:=Z λ(V:F) (N:Bl w V)=>Yv (s #[E c la d]) ps V (h.below N);rw[hn,bf]at Qc;have cj:e0+1=(n:Int):=O
 have ck:IntKind.i64.wrap (n:Int)=(n:Int):=by rw[BH];omega
 have HP:=Z λ(V:F) (N:Bl w V)=>h.below N;have HN:=Z (show ps.length=n from hn);have de:n<=1099511627776:=O
 have Qd:=Z λ(V:F)=>FM 1 O O V;clear h bj bg bi hn bf bm ah hD ae R hM Qa;go_enter Tryz.func151,Tryz.ntmps151
 go_upto_region 2 with fail
 rw[aq.o];clear aq;go_upto_region 3 with(go_at_call 35;refine(Qd.o _).mono ?_;clear Qd;rintro e w1 ⟨u1,rfl,an,ay⟩;obtain⟨s1,a1,l1,c1,rfl⟩:=Jj.form2 an)
 obtain⟨V1,r⟩:=ex (w1.alloc (C #[o s1,E a1 l1 c1] 39));obtain⟨B1,m⟩:=ex (w1.heap.size);have a:DJ w (w1.alloc (C #[o s1,E a1 l1 c1] 39)) [some (w.heap.size,.cell 25 (E c la d)),some (w.heap.size+1,.cell 25 (E none 0 0)),some (w.heap.size+1+1,.int (((Xy ps 0:Nat):Int))),some (w1.heap.size,.int (((XP ps 0:Nat):Int)))]:=DJ.push (M1.o.below ay) (.int (((XP ps 0:Nat):Int))) an;rw[r,m]at a;rw[r];rw[m];have M2:Hid (DJ w V1 [some (w.heap.size,.cell 25 (E c la d)),some (w.heap.size+1,.cell 25 (E none 0 0)),some (w.heap.size+1+1,.int (((Xy ps 0:Nat):Int))),some (B1,.int (((XP ps 0:Nat):Int)))]):=Z (a);clear M1;clear a r m;clear an ay;have c0:=(M2.o.cell (i:=0) rfl).1.cell;go_upto_region 4 with(go_at_call 26;refine(Qc.o _ M2.o.2.2).mono ?_;clear Qc;rintro e w2 ⟨rfl,az⟩)
 have ML:Hid (DJ w w2 [some (w.heap.size,.cell 25 (E c la d)),some (w.heap.size+1,.cell 25 (E none 0 0)),some (w.heap.size+1+1,.int (((Xy ps 0:Nat):Int))),some (B1,.int (((XP ps 0:Nat):Int)))]):=Z (M2.o.below az);clear c0 az M2;go_loopw [12] (λiv wr=>∃i:Nat,i<=n/\iv=K Q (i:Int)/\Hid (DJ w wr [some (w.heap.size,.cell 25 (E c la d)),some (w.heap.size+1,.cell 25 (E none 0 0)),some (w.heap.size+1+1,.int (((Xy ps i:Nat):Int))),some (B1,.int (((XP ps i:Nat):Int)))])) λiv _=>n-(intOf iv).toNat
 case atStart=>exact⟨0,As _,rfl,ML⟩
 case round=>
  obtain⟨i,hi,rfl,M3⟩:=hrel;clear ML;by_cases cn:i<n
  . have co:(i:Int)<(n:Int):=O
    go_upto_region 6 with fail
    refine Yx Dh [[],[],[],[1,2],[3,3],[0,4,4],[5,5,0,1,2,3,4,5]] [.int (((Xy ps i:Nat):Int)),.eq (s #[E c la d]),.eq (Value.int IntKind.i64 ↑i),.rat (cf ps i),.int ((cf ps i).num),.int (((Xy ps (i+1):Nat):Int)),.eq undef] [6] (λb _ V=>DJ w V [some (w.heap.size,.cell 25 (E c la d)),some (w.heap.size+1,.cell 25 (E none 0 0)),some (w.heap.size+1+1,if b.getD 0 false then .int (((Xy ps (i+1):Nat):Int))else .int (((Xy ps i:Nat):Int))),some (B1,.int (((XP ps i:Nat):Int)))]) M3.o.drew (SR (.vl rfl λ_ j=>Fqq 2 j)<|SR (.vl rfl λ_ j=>FT 0 j)<|SR (.vl rfl λ_ _=>mv)<|SR (.cl λh j=>c2 (h.e 1) (h.e 2) (by have q:=Hk _ ps (i:Int) _ (HP.o _ j.2.2);rw[IH]at q;exact q))<|SR (.cl λh _=>MT _ (cf ps i) _ (h.g 3))<|SR (.cl λh _=>by have q:=Kk _ _ ((Xy ps i:Nat):Int) (cf ps i).num _ (h.g 0) (h.g 4) (by have:=(HG.o i).words;omega) (by have:=(Qb.o.at i).num.words;omega);rw[oO]at q;exact q)<|SR (.wr rfl λh j=>FN 2 j (h.g 5)) Stp.end_)
     λf V3 hF a=>?_
    refine DP ?_;rw[hF.e 1,hF.e 2];have a:=Dw a;have l:=Z a;clear a hF;clear M3;go_upto_region 7 with fail
    refine Yx Dh [[],[],[],[1,2],[3,3],[0,4,4],[5,5,0,1,2,3,4,5]] [.int (((XP ps i:Nat):Int)),.eq (s #[E c la d]),.eq (Value.int IntKind.i64 ↑i),.rat (cf ps i),.int (((cf ps i).den:Int)),.int (((XP ps (i+1):Nat):Int)),.eq undef] [6] (λb _ V=>DJ w V [some (w.heap.size,.cell 25 (E c la d)),some (w.heap.size+1,.cell 25 (E none 0 0)),some (w.heap.size+1+1,.int (((Xy ps (i+1):Nat):Int))),some (B1,if b.getD 0 false then .int (((XP ps (i+1):Nat):Int))else .int (((XP ps i:Nat):Int)))]) l.o.drew (SR (.vl rfl λ_ j=>Fqq 3 j)<|SR (.vl rfl λ_ j=>FT 0 j)<|SR (.vl rfl λ_ _=>mv)<|SR (.cl λh j=>c2 (h.e 1) (h.e 2) (by have q:=Hk _ ps (i:Int) _ (HP.o _ j.2.2);rw[IH]at q;exact q))<|SR (.cl λh _=>FZ _ (cf ps i) _ (h.g 3))<|SR (.cl λh _=>by have q:=oN _ _ (XP ps i) (cf ps i).den _ (h.g 0) (h.g 4) (WR ps i) (HL.o i) (Qb.o.at i).den;rw[oP]at q;exact q)<|SR (.wr rfl λh j=>FN 3 j (h.g 5)) Stp.end_)
     λf V5 hF a=>?_
    refine DP ?_;rw[hF.e 1,hF.e 2];have a:=Dw a;have M5:=Z a;clear a hF;clear l;go_wp2_with fail
    go_roundw
    case rel=>exact⟨i+1,O,by go_num,M5⟩
    case measure=>simp[intOf];omega
  . obtain rfl:i=n:=O
    obtain⟨s6,a6,l6,c6,n6,i6⟩:=M3.o.int (i:=2) rfl;obtain⟨Qi,Ql⟩:=n6.cp;obtain⟨s7,a7,l7,c7,n7,i7⟩:=M3.o.int (i:=3) rfl;obtain⟨Qf,Qm⟩:=n7.cp;have k:=Z (Ib _ _ ((XP ps i:Nat):Int) ((Xy ps i:Nat):Int) wr i7 i6 (HL.o i) (HG.o i));have Qe:=(M3.o.cell (i:=1) rfl).1;obtain⟨r9,am⟩:=ex (Rat.divInt ((XP ps i:Nat):Int) ((Xy ps i:Nat):Int));rw[am]at k;have Qg:=Z am;clear am;by_cases g:ps=[]
    . have A:=Z (show decide (((Xy ps i:Nat):Int)≠0)=false by rw[<-HN.o,g];decide);rw[A.o]at k;have HE:=Z (show Jp ps=[]by rw[g];rfl);clear g A;go_wp2_with(go_at_call 38;refine k.o.mono ?_;clear k;rintro e y ⟨u4,rfl,ai,P⟩;obtain⟨U,B,T,G,W,b9,S,H,rfl⟩:=Jf.form ai;have t:=boxed_below (boxed_below Qe P) (Ba y (C #[o U,E B T G,o W,E b9 S H] 41));have x0:=t.cell;have x1:=t.frozen)
      rw[HE.o];exact BA (by simp[results,Tryz.results151,go_sem,x0]) rfl ⟨_,rfl,VN _,((Bt M3.o.2.2 P).alloc (by have:=M3.o.2.2.size;have:=P.size;omega) _).setCell (p:=⟨w.heap.size+1,0,none⟩) (by show w.heap.size<=w.heap.size+1;omega) _⟩
    . have A:=Z (show decide (((Xy ps i:Nat):Int)≠0)=true by
       refine BJ ?_;rw[<-HN.o];exact Int.natCast_ne_zero.2 (Qj.o g))
      rw[A.o]at k;have HE:=Z (show r9=(XP ps ps.length:Rat)/(Xy ps ps.length:Rat)by rw[<-Qg.o,AD,AF,AF,HN.o]);have HT:=Z (show DN r9 ps=Jp ps by rw[HE.o];rfl);have HS:=Z (show Sq r9/\∀j,Sq (cf ps j*r9)by rw[HE.o];exact HF.o g);clear g A;have H2:=Z λ(V:F) (N:Bl w V) (x:I) (hx:Jf V x r9)=>Wf (s #[E c la d]) x ps r9 V (HP.o V N) hx Qb.o HS.o.1 HS.o.2;rw[HT.o]at H2;go_upto_region 12 with(go_at_call 38;refine k.o.mono ?_;clear k;rintro e y ⟨u4,rfl,ai,P⟩;obtain⟨U,B,T,G,W,b9,S,H,rfl⟩:=Jf.form ai)
      clear Qi Ql Qf Qm;obtain⟨V8,r⟩:=ex (y.alloc (C #[o U,E B T G,o W,E b9 S H] 41));obtain⟨B8,m⟩:=ex (y.heap.size);have a:DJ w (y.alloc (C #[o U,E B T G,o W,E b9 S H] 41)) [some (w.heap.size,.cell 25 (E c la d)),some (w.heap.size+1,.cell 25 (E none 0 0)),some (w.heap.size+1+1,.int (((Xy ps i:Nat):Int))),some (B1,.int (((XP ps i:Nat):Int))),some (y.heap.size,.rat r9)]:=DJ.push (M3.o.below P) (.rat r9) ai;rw[r,m]at a;rw[r];rw[m];have l:Hid (DJ w V8 [some (w.heap.size,.cell 25 (E c la d)),some (w.heap.size+1,.cell 25 (E none 0 0)),some (w.heap.size+1+1,.int (((Xy ps i:Nat):Int))),some (B1,.int (((XP ps i:Nat):Int))),some (B8,.rat r9)]):=Z (a);clear M3;clear a r m;obtain⟨U,B,T,G,W,b9,S,H,n9,r9,i9,j9⟩:=l.o.rat (i:=4) rfl;obtain⟨bn,bu,bz,ce⟩:=n9.cq;have c0:=(l.o.cell (i:=0) rfl).1.cell;have n1:=(l.o.cell (i:=1) rfl).1;have HQ:=Z l.o.2.2;go_wp2_with(go_at_call 217;refine(H2.o _ HQ.o _ r9).mono ?_;clear H2;rintro e w5 ⟨u5,rfl,ap,aj⟩;obtain⟨a7,l7,c7,rfl⟩:=ap.form;have t:=boxed_below n1 aj;have x0:=t.cell;have x1:=t.frozen;have Qk:=Z (LS t (x:=E a7 l7 c7) ap);have Qh:=Z ((Bt HQ.o aj).setCell (p:=⟨w.heap.size+1,0,none⟩) (by show w.heap.size<=w.heap.size+1;omega) (E a7 l7 c7));clear ap aj t)
      exact BA (by simp[results,Tryz.results151,go_sem,x0]) rfl ⟨_,rfl,Qk.o,Qh.o⟩
theorem oQ(va vb:I)(ps qs:List Rat)(w:F)(D:Je w va ps)(G:Je w vb qs)(aq:Sqs ps)(bf:Sqs qs)(az:qs≠[])(ay:∀i,i<=ps.length+1-qs.length->Sq (Yn (cf qs (qs.length-1))^i))(bg:∀i,Sq (cf ps i*Ed ps qs)):
 Calls X 218 #[va,vb] w λe w'=>∃u,e=.returned u/\Je w' u (XQ ps qs)/\Bl w w':=by
 obtain⟨m,P⟩:=ex (qs.length-1:Nat);have Qs:=Ae.2 az;have Qo:ps.length<=1099511627776:=by
  obtain⟨g,la,k,rfl⟩:=D.form;have:=D.row.forms;omega
 have Qk:qs.length<=1099511627776:=by
  obtain⟨c,lb,d,rfl⟩:=G.form;have:=G.row.forms;omega
 obtain⟨L,B⟩:=ex (Yn (cf qs m):Rat);obtain⟨N,hN⟩:=ex (ps.length+1-qs.length:Nat);obtain⟨e1,an⟩:=ex ((ps.length:Int)-1:Int);have Qh:(qs.length:Int)-1=(m:Int):=O
 obtain⟨A,cn⟩:=ex (e1-(m:Int):Int);obtain⟨t,co⟩:=ex (A+1:Int);have de:IntKind.i64.wrap A=A:=by rw[BH];omega
 have df:IntKind.i64.wrap t=t:=by rw[BH];omega
 obtain⟨Qb,Qg,Qr,Qm,Qc,HT,Ql,Qj⟩:=IX (show(∀i:Nat,(i:Int)<t↔i<N)/\N<=1099511627777 from⟨λi=>by omega,O⟩) Qh an B (show ∀i,i<=N->Sq (L^i)from λi hi=>by rw[<-B,<-P];exact ay i O) (show DN (L^N) ps=XQ ps qs by unfold XQ Ed;rw[P,B,hN]) (show ∀i,Sq (cf ps i*L^N)from λi=>by have:=bg i;unfold Ed at this;rwa[P,B,hN]at this) aq;have Qp:=Z bf;clear ay bg aq bf az hN B P Qs Qo Qk an Qh;obtain⟨g,la,k,rfl⟩:=D.form;obtain⟨c,lb,d,rfl⟩:=G.form;obtain⟨W0,aj,M1⟩:=IF 25 (.cell 25 (E g la k)) EO 25 (.cell 25 (E c lb d)) EO 25 (.cell 25 (E none 0 0)) EO (w:=w);have HP:=Z λ(V:F) (hB:Bl w V)=>D.below hB;have HQ:=Z λ(V:F) (hB:Bl w V)=>G.below hB;clear D G;go_enter Tryz.func218,Tryz.ntmps218
 go_upto_region 1 with fail
 rw[aj.o];clear aj;refine Yx Dh [[],[],[1],[0,2,2],[3,3],[],[5,4,4,0,1,2,3,4,5]] [.eq (s #[E c lb d]),.eq (s #[E c lb d]),.eq (K Q (m:Int)),.rat (cf qs m),.rat L,.ptr,.eq undef] [5,6] (λb v V=>DJ w V [some (w.heap.size,.cell 25 (E g la k)),some (w.heap.size+1,.cell 25 (E c lb d)),some (w.heap.size+1+1,.cell 25 (E none 0 0)),nb b v 0 1 (.rat 0) (.rat L)]) (M1.o.none).drew (SR (.vl rfl λ_ j=>FT 1 j)<|SR (.vl rfl λ_ j=>FT 1 j)<|SR (.cl λh j=>c1 (h.e 1) (rv (Qg.o ▸ Yv _ qs _ (HQ.o _ j.2.2))))<|SR (.cl λh j=>c2 (h.e 0) (h.e 2) (by have q:=Hk _ qs (m:Int) _ (HQ.o _ j.2.2);rw[IH]at q;exact q))<|SR (.cl λh _=>Qm.o ▸ oM _ (cf qs m) _ (h.g 3) (Qp.o.at m))<|SR (.wr rfl λ_ j=>Nl 3 j)<|SR (.wr rfl λh j=>LP 3 j (h.g 4) (hp:=h.g 5)) Stp.end_)
  λf V2 hF a=>?_
 refine DP ?_;rw[hF.e 0,hF.e 1,hF.e 2];obtain⟨B3,ae⟩:=hF.p 5;have a:=Dw a;simp only[ae]at a;rw[ae];have M2:=Z a;clear a hF ae;clear M1;have W:=Z λ(V:F)=>FM 1 O O V;have HB:=W;have HC:=Z λ(V:F) (x y:I) (hx:Jj V x 1) (hy:Jj V y 1)=>Ib x y 1 1 V hx hy Sok.one Sok.one;rw[show decide ((1:Int)≠0)=true from rfl,show Rat.divInt 1 1=L^0 by rw[Rat.pow_zero];rfl]at HC;go_upto_region 3 with(first
  |(go_at_call 35;refine(W.o _).mono ?_;clear W;rintro e w3 ⟨u3,rfl,M,am⟩)
  |(go_at_call 35;refine(HB.o _).mono ?_;clear HB;rintro e w4 ⟨u4,rfl,bi,ai⟩;have M:=M.below ai)
  |(go_at_call 38;refine(HC.o _ _ _ M bi).mono ?_;clear HC;rintro e H ⟨u5,rfl,r,z⟩;obtain⟨s9,a9,l9,c9,t9,b9,k9,d9,rfl⟩:=Jf.form r))
 obtain⟨V4,n⟩:=ex (H.alloc (C #[o s9,E a9 l9 c9,o t9,E b9 k9 d9] 41));obtain⟨B4,ah⟩:=ex (H.heap.size);have a:DJ w (H.alloc (C #[o s9,E a9 l9 c9,o t9,E b9 k9 d9] 41)) [some (w.heap.size,.cell 25 (E g la k)),some (w.heap.size+1,.cell 25 (E c lb d)),some (w.heap.size+1+1,.cell 25 (E none 0 0)),some (B3,.rat L),some (H.heap.size,.rat (L^0))]:=DJ.push (((M2.o.below am).below ai).below z) (.rat (L^0)) r;rw[n,ah]at a;rw[n];rw[ah];have M3:Hid (DJ w V4 [some (w.heap.size,.cell 25 (E g la k)),some (w.heap.size+1,.cell 25 (E c lb d)),some (w.heap.size+1+1,.cell 25 (E none 0 0)),some (B3,.rat L),some (B4,.rat (L^0))]):=Z (a);clear M2;clear a n ah;clear M bi r am ai z;refine Yx Dh [[],[0],[],[2,1],[1,3],[4],[]] [.eq (s #[E g la k]),.eq (K Q e1),.eq (s #[E c lb d]),.eq (K Q (m:Int)),.eq (K Q A),.eq (K Q t),.eq (K Q 0)] [] (λ_ _ V=>DJ w V [some (w.heap.size,.cell 25 (E g la k)),some (w.heap.size+1,.cell 25 (E c lb d)),some (w.heap.size+1+1,.cell 25 (E none 0 0)),some (B3,.rat L),some (B4,.rat (L^0))]) M3.o.drew (SR (.vl rfl λ_ j=>FT 0 j)<|SR (.cl λh j=>c1 (h.e 0) (rv (Qr.o ▸ Yv _ ps _ (HP.o _ j.2.2))))<|SR (.vl rfl λ_ j=>FT 1 j)<|SR (.cl λh j=>c1 (h.e 2) (rv (Qg.o ▸ Yv _ qs _ (HQ.o _ j.2.2))))<|SR (.vl rfl λh _=>⟨(K Q A),by refine DP ?_;rw[h.e 1,h.e 3];go_simp,rfl⟩)<|SR (.vl rfl λh _=>⟨(K Q t),by refine DP ?_;rw[h.e 4];go_simp,rfl⟩)<|SR (.vl rfl λ_ _=>mv) Stp.end_)
  λf V6 hF a=>?_
 refine DP ?_;rw[hF.e 0,hF.e 1,hF.e 2,hF.e 3,hF.e 4,hF.e 5,hF.e 6];have M4:=Z a;clear a hF;clear M3;go_wp2;go_loopw [25] (λiv wr=>∃i:Nat,i<=N/\iv=K Q (i:Int)/\Hid (DJ w wr [some (w.heap.size,.cell 25 (E g la k)),some (w.heap.size+1,.cell 25 (E c lb d)),some (w.heap.size+1+1,.cell 25 (E none 0 0)),some (B3,.rat L),some (B4,.rat (L^i))])) λiv _=>N-(intOf iv).toNat
 case atStart=>exact⟨0,As _,rfl,M4⟩
 case round=>
  clear M4;obtain⟨i,hi,rfl,l⟩:=hrel;by_cases ap:i<N
  . have Qe:=(Qb.o.1 i).2 ap;have ck:=Qb.o.2;obtain⟨s7,a7,l7,c7,t7,b7,k7,d7,n7,r7,i7,j7⟩:=l.o.rat (i:=3) rfl;have bu:=n7.kb;obtain⟨s8,a8,l8,c8,t8,b8,k8,d8,S,r8,i8,j8⟩:=l.o.rat (i:=4) rfl;have Qi:=S.kb;have Qf:=S.fb;have T:=Z (Km _ _ (L^i) L wr r8 r7 (Qc.o i O) (by have:=Qc.o 1 O;rwa[Rat.pow_one]at this));rw[<-Rat.pow_succ]at T;go_upto_region 6 with(go_at_call 78;refine T.o.mono ?_;clear T;rintro e w6 ⟨u6,rfl,bj,hq⟩;obtain⟨s8,a8,l8,c8,t8,b8,k8,d8,rfl⟩:=Jf.form bj;clear Qi;have Qi:=(S.below hq).kb;clear Qf;have Qf:=(S.below hq).fb)
    obtain⟨V9,n⟩:=ex ((((w6.setCell ⟨B4,0,none⟩ (o s8)).setCell ⟨B4,1,none⟩ (E a8 l8 c8)).setCell ⟨B4,2,none⟩ (o t8)).setCell ⟨B4,3,none⟩ (E b8 k8 d8));have a:DJ w ((((w6.setCell ⟨B4,0,none⟩ (o s8)).setCell ⟨B4,1,none⟩ (E a8 l8 c8)).setCell ⟨B4,2,none⟩ (o t8)).setCell ⟨B4,3,none⟩ (E b8 k8 d8)) [some (w.heap.size,.cell 25 (E g la k)),some (w.heap.size+1,.cell 25 (E c lb d)),some (w.heap.size+1+1,.cell 25 (E none 0 0)),some (B3,.rat L),some (B4,.rat (L^(i+1)))]:=DJ.putRat (l.o.below hq) (i:=4) rfl bj;rw[n]at a;rw[n];have M6:Hid (DJ w V9 [some (w.heap.size,.cell 25 (E g la k)),some (w.heap.size+1,.cell 25 (E c lb d)),some (w.heap.size+1+1,.cell 25 (E none 0 0)),some (B3,.rat L),some (B4,.rat (L^(i+1)))]):=Z (a);clear l;clear a n;go_wp2_with fail
    grind[intOf]
  . have Qe:¬(i:Int)<t:=λh=>ap ((Qb.o.1 i).1 h);obtain rfl:i=N:=O
    obtain⟨dx,bz,dt,ce,dz,b10,dj,cj,bm,r10,dh,di⟩:=l.o.rat (i:=4) rfl;have bn:=bm.kb;have c0:=(l.o.cell (i:=0) rfl).1.cell;have n1:=(l.o.cell (i:=2) rfl).1;have Qd:=Z l.o.2.2;have U:=Z (Wf (s #[E g la k]) _ ps (L^i) wr (HP.o wr Qd.o) r10 Qj.o (Qc.o i (Aa _)) Ql.o);rw[HT.o]at U;go_wp2_with(go_at_call 217;refine U.o.mono ?_;clear U;rintro e H ⟨u5,rfl,r,z⟩;obtain⟨a7,l7,c7,rfl⟩:=r.form;have R:=boxed_below n1 z;have x0:=R.cell;have x1:=R.frozen;have Qq:=Z (LS R (x:=E a7 l7 c7) r);have Qn:=Z ((Bt Qd.o z).setCell (p:=⟨w.heap.size+1+1,0,none⟩) (by show w.heap.size<=w.heap.size+1+1;omega) (E a7 l7 c7));clear r z R)
    exact BA (by simp[results,Tryz.results218,go_sem,x0]) rfl ⟨_,rfl,Qq.o,Qn.o⟩
theorem oR{A:Nat}(p:Ec A ps)(c:Ec A qs)(tq:Jc qs=qs)(q0:qs≠[])(hA:1<=A)(G:4*((ps.length+2)*(A+1))<=1000000000):
 Sqs ps/\Sqs qs/\(∀i,i<=ps.length+1-qs.length->Sq (Yn (cf qs (qs.length-1))^i))/\(∀i,Sq (cf ps i*Ed ps qs))/\Sqs (XQ ps qs)/\(∀i,DQ A (cf qs i))/\
 ∃l:Int,Dvn 1 1 l ((ps.length+2)*A+1) A (XQ ps qs) qs:=by
 have v:(ps.length+2)*(A+1)=(ps.length+2)*A+(ps.length+2):=DH
 have H:=Ae.2 q0;obtain⟨l,m,n⟩:=c (qs.length-1);have r:l≠0:=λe=>by
  have:=Jt tq q0;rw[n,e]at this;exact this rfl
 have B:Yn (cf qs (qs.length-1))=((l.natAbs:Int):Rat):=by
  rw[n];unfold Yn;have a:((l:Rat)<0)↔l<0:=by
   rw[show(0:Rat)=((0:Int):Rat)from rfl];exact Rat.intCast_lt_intCast
  split
  . rename_i h;rw[a]at h;rw[<-Rat.intCast_neg];congr 1;omega
  grind
 have g:∀i:Nat,∃z:Int,Sm (i*A+1) z/\Yn (cf qs (qs.length-1))^i=(z:Rat):=λi=>by
  refine⟨(l.natAbs:Int)^i,?_,?_⟩
  . refine Sm.powZ ?_ i;unfold Sm at m ⊢;rwa[Az]
  grind
 have j:∀(k:Nat) (z:Int),Sm k z->k<=1000000000->1<=k->Sq (z:Rat):=λk z u hk a=>Sq.of ((OI (D:=1) DK u DH).smq DK (Sm.one k a)) hk;have x:ps.length+1-qs.length<=ps.length:=O
 have q:∀i:Nat,i<=ps.length->i*A<=(ps.length+2)*A:=λi hi=>Ad _ O;have d:Ec ((ps.length+2)*A+1) (XQ ps qs):=λi=>by
  obtain⟨z,a,b⟩:=p i;obtain⟨y,f,t⟩:=g (ps.length+1-qs.length);refine⟨z*y,(a.mul f).mono ?_,?_⟩
  . have w:(ps.length+1-qs.length+1)*A<=(ps.length+2)*A:=Ad _ O;grind
  . unfold XQ Ed;rw[Yy,b,t,Aq]
 have hA9:A<=(ps.length+2)*A:=by
  grind
 refine⟨Sqs.of λi=>Sq.of (p.smq hA i) O,Sqs.of λi=>Sq.of (c.smq hA i) O,λi hi=>?_,λi=>?_,Sqs.of λi=>Sq.of (d.smq O i) O,c.smq hA,l,?_⟩
 . obtain⟨z,a,b⟩:=g i;rw[b];exact j _ z a (by have:=q i O;omega) O
 . obtain⟨z,a,b⟩:=d i;have f:cf ps i*Ed ps qs=(z:Rat):=by rw[<-b];unfold XQ;rw[Yy]
   rw[f];exact j _ z a O O
 . refine⟨DK,Sm.one _ O,d.cdl,DK,Sm.one _ hA,c.cdl,r,m,?_⟩;grind[AD]
def oS(tp:Jc ps=ps)(tq:Jc qs=qs)(q0:qs≠[]):(XQ ps qs).length=ps.length:=YQ (RG tq q0) tp
def oT(A:Nat)(va vb:I)(ps qs:List Rat)(w:F)(N:Je w va ps)(P:Je w vb qs)(wp:Ec A ps)(wq:Ec A qs)(tp:Jc ps=ps)(tq:Jc qs=qs)(q0:qs≠[])(hA:1<=A)(ae:4*((ps.length+2)*(A+1))<=1000000000)(hr:Ln A (JU ps qs)):
 Calls X 152 #[va,vb] w λe w'=>∃u,e=.returned u/\Je w' u (XI ps qs)/\Bl w w':=by
 obtain⟨s1,s2,s3,s4,s5,s6,l,k⟩:=oR wp wq tq q0 hA ae;have b1:(ps.length+2)*(A+1)=(ps.length+2)*A+(ps.length+2):=DH
 obtain⟨m,n⟩:=ex ((XQ ps qs).length-(qs.length-1));have Qg:m<=ps.length:=by rw[oS tp tq q0]at n;omega
 have b2:m*(A+1)<=ps.length*(A+1):=Ad _ Qg;have b3:(ps.length+2)*(A+1)=ps.length*(A+1)+2*(A+1):=Ca _ _ _;have Qj:=Z (λ(V:F) (x y:I) (d:Je V x (XQ ps qs)) (g:Je V y qs)=>ySplit_n A x y (XQ ps qs) qs V d g s5 s6 (JH _ _) tq q0 (by
  rw[n];exact k.sizes O))
 have Qf:=(k.rem n).1;have z:=k.den m;have Qm:=Z λ(V:F) (x:I) (d:Je V x (JU (XQ ps qs) qs))=>RM (1*l^m) ((ps.length+2)*A+1+m*(A+1)+1) x (JU (XQ ps qs) qs) V d (XH _ _) z.1 z.2 (λi=>(Qf i).mono O) O;have D:=WX tq q0 hr;have Qd:=Sqs.of λi=>Sq.of (D.1.smq hA i) O;have Qh:Sqs (JT [] (Jp (JU (XQ ps qs) qs))):=Sqs.of λi=>Sq.of (D.2.smq hA i) O;have Qn:=Z λ(V:F) (y:I) (g:Je V y (Jp (JU (XQ ps qs) qs)))=>VO _ y [] (Jp (JU (XQ ps qs) qs)) V (VN V) g (Sqs.of λi=>by rw[X6];exact FO) Qd Qh;have Qi:=Z λ(V:F) (x y:I) (d:Je V x ps) (g:Je V y qs)=>oQ x y ps qs V d g s1 s2 q0 s3 s4;clear s1 s2 s3 s4 s5 s6 k b1 n Qg b2 b3 Qf z D Qd Qh wp wq tp tq q0 hA ae hr;obtain⟨S,la,T,rfl⟩:=N.form;obtain⟨q,lb,r,rfl⟩:=P.form;obtain⟨W0,ah,W⟩:=IF 25 (.cell 25 (E S la T)) EO 25 (.cell 25 (E q lb r)) EO 25 (.cell 25 (E none 0 0)) EO (w:=w);have HP:=Z λ(V:F) (G:Bl w V)=>N.below G;have U:=Z λ(V:F) (G:Bl w V)=>P.below G;clear N P;go_enter Tryz.func152,Tryz.ntmps152
 go_upto_region 1 with fail
 rw[ah.o];refine Yx Dh [[],[],[0,1],[],[2,3,2],[4],[5],[5],[5],[],[],[9,6,4,0,1,2,3,4,5,6,9,10],[10,7,11,0,1,2,3,4,5,6,7,9,10,11],[8,12,0,1,2,3,4,5,6,7,8,9,10,11,12]] [.eq (s #[E S la T]),.eq (s #[E q lb r]),.poly (XQ ps qs),.eq (s #[E q lb r]),.tup2 (.poly (Jn (XQ ps qs) qs)) (.poly (JU (XQ ps qs) qs)),.tup2 (.poly (Jn (XQ ps qs) qs)) (.poly (JU (XQ ps qs) qs)),.poly (Jn (XQ ps qs) qs),.poly (JU (XQ ps qs) qs),.eq (o true),.ptr,.ptr,.eq undef,.eq undef,.eq (o true)] [9,10,11,12] (λb v V=>DJ w V [some (w.heap.size,.cell 25 (E S la T)),some (w.heap.size+1,.cell 25 (E q lb r)),some (w.heap.size+1+1,.cell 25 (E none 0 0)),nb b v 0 2 (.poly []) (.poly (Jn (XQ ps qs) qs)),nb b v 1 3 (.poly []) (.poly (JU (XQ ps qs) qs))]) ((W.o.none).none).drew (SR (.vl rfl λ_ j=>FT 0 j)<|SR (.vl rfl λ_ j=>FT 1 j)<|SR (.cl λh j=>c2 (h.e 0) (h.e 1) (Qi.o _ _ _ (HP.o _ j.2.2) (U.o _ j.2.2)))<|SR (.vl rfl λ_ j=>FT 1 j)<|SR (.cl λh j=>c2 rfl (h.e 3) (Nh (Qj.o _ _ _ (h.g 2) (U.o _ j.2.2))))<|SR (.vl rfl λh _=>mw (h.g 4))<|SR (.vl rfl λh _=>Nm (h.g 5))<|SR (.vl rfl λh _=>Nn (h.g 5))<|SR (.vl rfl λh _=>Np (h.g 5))<|SR (.wr rfl λ_ j=>Ko 3 j)<|SR (.wr rfl λ_ j=>Ko 4 j)<|SR (.wr rfl λh j=>GS 3 j (h.g 6) (hp:=h.g 9))<|SR (.wr rfl λh j=>GS 4 j (h.g 7) (hp:=h.g 10))<|SR (.vl rfl λh _=>aw (h.g 8)) Stp.end_)
  λf V2 hF c=>?_
 refine DP ?_;rw[hF.e 0,hF.e 1,hF.e 3,hF.e 8,hF.e 13];obtain⟨B3,H⟩:=hF.p 9;obtain⟨B4,M⟩:=hF.p 10;have c:=Dw c;simp only[H,M]at c;rw[H,M];have t:=Z c;clear c hF H M;clear W;obtain⟨a5,l5,c5,a,r5⟩:=t.o.poly2 (i:=4) rfl;have an:=a.cell;have n1:=(t.o.cell (i:=2) rfl).1;have Qe:=Z t.o.2.2;have H1:=Z (Qm.o V2 _ r5);go_wp2_with(first
  |(go_at_call 151;refine H1.o.mono ?_;rintro e w4 ⟨u4,rfl,am,ai⟩)
  |(go_at_call 30;refine(Qn.o _ _ am).mono ?_;rintro e w5 ⟨u5,rfl,R,_,aj⟩;have B:=Bt ai aj;obtain⟨a7,l7,c7,rfl⟩:=R.form;have a:=boxed_below n1 B;have x0:=a.cell;have x1:=a.frozen;have Ql:=Z (LS a (x:=E a7 l7 c7) R);have Qk:=Z ((Bt Qe.o B).setCell (p:=⟨w.heap.size+1+1,0,none⟩) (by show w.heap.size<=w.heap.size+1+1;omega) (E a7 l7 c7));clear R B a))
 exact BA (by simp[results,Tryz.results152,go_sem,x0]) rfl ⟨_,rfl,Ql.o,Qk.o⟩
theorem Wl(v:I)(ps:List Rat)(w:F)(h:Je w v ps)(aj:Sqs ps)(an:Jc ps=ps)(am:∀i,Sq (cf ps i/cf ps (ps.length-1))):
 Calls X 83 #[v] w λe w'=>∃u,e=.returned u/\Je w' u (Jr ps)/\Bl w w':=by
 obtain⟨a,la,c,rfl⟩:=h.form;obtain⟨ay,ap,aq,az,_⟩:=h.row.forms;obtain⟨V0,ae,k⟩:=LL 25 (.cell 25 (E a la c)) EO 25 (.cell 25 (E none 0 0)) EO (w:=w);have M1:=k.o;obtain⟨n,hn⟩:=ex (ps.length:Nat);obtain⟨e0,ai⟩:=ex ((n:Int)-1:Int);have B:=Z (Yv (s #[E a la c]) ps V0 (h.below M1.2.2));rw[hn,ai]at B;have bf:e0+1=(n:Int):=O
 have bg:IntKind.i64.wrap (n:Int)=(n:Int):=by rw[BH];omega
 have Qm:∀W:F,(Instr.makeSlice 22 (K Q (n:Int)) (K Q (n:Int))).run X W=.ok (E (some ⟨W.heap.size,0,none⟩) n n) (W.alloc (C (YH n) 41)):=λW=>RJ n O W;obtain⟨x,Qf,Qi,U⟩:=Dt (λ(V:F) (hB:Bl w V)=>h.below hB) aj am (show ps.length=n from hn);have Qb:n<=1099511627776:=O
 have Qr:=Z an;clear h aj am ay ap aq hn ai M1 az an;go_enter Tryz.func83,Tryz.ntmps83
 go_upto_region 1 with fail
 rw[ae.o];have c0:=(k.o.cell (i:=0) rfl).1.cell;go_upto_region 2 with(go_at_call 26;refine B.o.mono ?_;clear B;rintro e w1 ⟨rfl,ah⟩)
 have z:DJ w (w1.alloc (C (YH n) 41)) [some (w.heap.size,.cell 25 (E a la c)),some (w.heap.size+1,.cell 25 (E none 0 0)),some (w1.heap.size,.rats (List.replicate n 0))]:=(k.o.below ah).push (.rats (List.replicate n 0)) (MV _ n);obtain⟨V1,D⟩:=ex (w1.alloc (C (YH n) 41));obtain⟨r,H⟩:=ex (w1.heap.size);rw[D,H]at z;rw[D,H];have Qh:=Z z;clear z D H ah c0 k ae Qm;go_wp2;go_loopw [11] (λR wr=>∃(i:Nat) (S:List Rat),i<=n/\R=K Q (i:Int)/\Hid (Il (λj=>cf ps j/cf ps (ps.length-1)) n i S)/\Hid (DJ w wr [some (w.heap.size,.cell 25 (E a la c)),some (w.heap.size+1,.cell 25 (E none 0 0)),some (r,.rats S)])) λR _=>n-(intOf R).toNat
 case atStart=>exact⟨0,_,As _,rfl,Z ⟨AK,λj=>by rw[Yg,BE O]⟩,Qh⟩
 case round=>
  obtain⟨i,S,hi,rfl,d,g⟩:=hrel;clear Qh;by_cases M:i<n
  . have bi:(i:Int)<(n:Int):=O
    have Qn:=Z (show i<S.length by rw[d.o.1];exact M);have Qg:=Z (show i<ps.length by rw[U.o];exact M);go_wp2_with fail
    have Qj:=g.o.drew;obtain⟨m,N⟩:=ex (ps.length-1:Nat);obtain⟨Qq,Ql,Qo⟩:=DX (show(ps.length:Int)-1=(m:Int)by have:=Qg.o;omega) N (show decide (cf ps m≠0)=true by rw[<-N];exact BJ (Jt Qr.o λe=>by have:=Qg.o;rw[e]at this;simp at this));clear N;refine Yx Dh [[],[],[],[],[2,3],[],[],[6,4],[5,7,7],[4,8,8],[9],[10],[10],[0,1,0,1,2,3,4,5,6,7,8,9,10,11],[13,11,9,0,1,2,3,4,5,6,7,8,9,10,11]] [.eq (E (some ⟨r,0,none⟩) n n),.eq (K Q (i:Int)),.eq (s #[E a la c]),.eq (K Q (i:Int)),.rat (cf ps i),.eq (s #[E a la c]),.eq (s #[E a la c]),.eq (K Q (m:Int)),.rat (cf ps m),.tup1 (.rat (cf ps i/cf ps m)),.tup1 (.rat (cf ps i/cf ps m)),.rat (cf ps i/cf ps m),.eq (o true),.eq (L (some ⟨r,i*4,none⟩)),.eq undef] [14] (λb _ V=>DJ w V [some (w.heap.size,.cell 25 (E a la c)),some (w.heap.size+1,.cell 25 (E none 0 0)),some (r,if b.getD 0 false then .rats (S.set i (cf ps i/cf ps m))else .rats S)]) Qj (SR (.vl rfl λ_ _=>mv)<|SR (.vl rfl λ_ _=>mv)<|SR (.vl rfl λ_ j=>FT 0 j)<|SR (.vl rfl λ_ _=>mv)<|SR (.cl λh j=>c2 (h.e 2) (h.e 3) (by have q:=Hk _ ps (i:Int) _ (x.o _ j.2.2);rw[IH]at q;exact q))<|SR (.vl rfl λ_ j=>FT 0 j)<|SR (.vl rfl λ_ j=>FT 0 j)<|SR (.cl λh j=>c1 (h.e 6) (rv (Qq.o ▸ Yv _ ps _ (x.o _ j.2.2))))<|SR (.cl λh j=>c2 (h.e 5) (h.e 7) (by have q:=Hk _ ps (m:Int) _ (x.o _ j.2.2);rw[IH]at q;exact q))<|SR (.cl λh _=>Ni (Qo.o ▸ QF _ _ (cf ps i) (cf ps m) _ (h.g 4) (h.g 8) (Qf.o.at i) (Qf.o.at m)))<|SR (.vl rfl λh _=>mw (h.g 9))<|SR (.vl rfl λh _=>Nq (h.g 10))<|SR (.vl rfl λh _=>Ns (h.g 10))<|SR (.vl rfl λh _=>⟨_,by refine DP ?_;rw[h.e 0,h.e 1];go_simp,rfl⟩)<|SR (.wr rfl λh j=>ME 2 j Qn.o (h.g 11) (h.e 13)) Stp.end_)
     λf V hF l=>?_
    refine DP ?_;rw[hF.e 0,hF.e 1,hF.e 2,hF.e 3,hF.e 5,hF.e 6,hF.e 7,hF.e 12,hF.e 13];have l:=Dw l;have HO:=Z l;clear l hF;rw[<-Ql.o]at HO;go_wp2_with fail
    go_roundw
    case rel=>exact⟨i+1,_,O,by go_num,Z (d.o.next M),HO⟩
    case measure=>simp[intOf];omega
  . obtain rfl:i=n:=O
    have hE:=g.o.rats (i:=2) rfl;have y:=hE.row (n:=i) (cap:=i) (by rw[d.o.1];exact Aa _) (Aa _) O Qb;rw[Af (by rw[d.o.1];exact Aa _)]at y;have A:=Z (MI _ S wr y (Sqs.of λj=>by
     rw[d.o.2 j];split
     . exact Qi.o j
     . exact FO))
    rw[d.o.done (T:=Jr ps) (JH _ _) (λj hj=>by grind[Jr,Yy]) λj hj=>by unfold Jr;rw[Yy,Ys (by rw[U.o];exact hj),AY]]at A;clear hE y;go_wp2_with(go_at_call 40;refine A.o.mono ?_;clear A;rintro e w5 ⟨u5,rfl,P,_,G⟩;obtain⟨a7,l7,c7,rfl⟩:=P.form;have t:=boxed_below (g.o.cell (i:=1) rfl).1 G;have x0:=t.cell;have x1:=t.frozen;have Qp:=Z (GD t (E a7 l7 c7) P.row);have Qk:=Z ((Bt g.o.2.2 G).setCell (p:=⟨w.heap.size+1,0,none⟩) (by show w.heap.size<=w.heap.size+1;omega) (E a7 l7 c7));clear P G t)
    exact BA (by simp[results,Tryz.results83,go_sem,x0]) rfl ⟨_,rfl,⟨_,rfl,Qp.o⟩,Qk.o⟩
end M3
def GH:Nat->List Rat->List Rat->List (List Rat)
 |0,a,_=>[a]
 |n+1,a,b=>if b=[]then [a]else a::GH n b (XI a b)
theorem oU:∀(n m:Nat) (a b:List Rat),Jc b=b->b.length<=n->b.length<=m->GH n a b=GH m a b:=by
 intro n;induction n with
 |zero=>
  intro m a b _ h _;have d:b=[]:=MX O;subst d;cases m with
  |zero=>rfl
  |succ m=>simp[GH]
 |succ n g=>
  intro m a b tb h e;by_cases c:b=[]
  . grind
  . have hl:0<b.length:=Ae.2 c;cases m with
    |zero=>omega
    |succ m=>
     have f:=Xo (a:=a) tb c;grind[GH,Ij]
def EW(a b:List Rat):List (List Rat):=GH b.length a b
def KL(a:List Rat):EW a []=[a]:=rfl
theorem XM{a b:List Rat}(tb:Jc b=b)(c:b≠[]):EW a b=a::EW b (XI a b):=by
 have d:=Xo (a:=a) tb c;have hl:0<b.length:=Ae.2 c;unfold EW;obtain⟨n,hn⟩:∃n,b.length=n+1:=⟨b.length-1,O⟩;grind[GH,oU,Ij]
def Xb(p q:List Rat):List (List Rat):=EW (Jp p) (Jp q)
def Je.setB{V:F}{v:I}{ps:List Rat}(h:Je V v ps){B:Nat}{a:Option Addr}{l c:Nat}(b:Boxed V B 25 (E a l c)){u:I}:Je (V.setCell ⟨B,0,none⟩ u) v ps:=M3.LS b h
namespace M3
def Dd(V:F)(B:Nat)(a:Option Addr)(l c:Nat):Prop:=Boxed V B 25 (E a l c)
section
variable {V V':World} {B B':Nat} {a a':Option Addr} {l c l' c':Nat}
def Dd.cell(h:Dd V B a l c):V.cell? ⟨B,0,none⟩=some (E a l c):=Boxed.cell h
def Dd.frozen(h:Dd V B a l c):V.frozen? ⟨B,0,none⟩=false:=Boxed.frozen h
def Dd.below(h:Dd V B a l c)(b:Bl V V'):Dd V' B a l c:=boxed_below h b
def Dd.far(h:Dd V B a l c)(b:B≠B'){u:I}:Dd (V.setCell ⟨B',0,none⟩ u) B a l c:=Bx.far (cs:=#[E a l c]) h (p:=⟨B',0,none⟩) b u
def Dd.put(h:Dd V B a l c):Dd (V.setCell ⟨B,0,none⟩ (E a' l' c')) B a' l' c':=(show Boxed V B 25 (E a l c)from h).set _
end
def GB(G:List (List Rat)->F->Prop):Prop:=∀H W W',G H W->Bl W W'->G H W'
def Mf(B4 B5:Nat)(G:List (List Rat)->F->Prop):Prop:=∀H W B a l c u,B=B4\/B=B5->Dd W B a l c->G H W->G H (W.setCell ⟨B,0,none⟩ u)
def Gy(B4 B5:Nat)(G:List (List Rat)->F->Prop)(H:List (List Rat))(V:F)(v4 v5:I)(p q:List Rat):Prop:=(GB G/\Mf B4 B5 G)/\G H V/\Je V v4 p/\Je V v5 q
section
variable {B4 B5:Nat} {G:List (List Rat)->World->Prop} {H:List (List Rat)} {V V':World} {v4 v5:Value} {p q:List Rat}
def Gy.below(h:Gy B4 B5 G H V v4 v5 p q)(a:Bl V V'):Gy B4 B5 G H V' v4 v5 p q:=⟨h.1,h.1.1 _ _ _ h.2.1 a,h.2.2.1.below a,h.2.2.2.below a⟩
def Gy.put(h:Gy B4 B5 G H V v4 v5 p q){B:Nat}(d:B=B4\/B=B5){a:Option Addr}{l c:Nat}(b:Dd V B a l c){u:I}:Gy B4 B5 G H (V.setCell ⟨B,0,none⟩ u) v4 v5 p q:=⟨h.1,h.1.2 _ _ _ _ _ _ _ d b h.2.1,h.2.2.1.setB b,h.2.2.2.setB b⟩
end
def Mg(V:F)(B:Nat)(r:List Rat):Prop:=∃a l c,Dd V B a l c/\Je V (s #[E a l c]) r
def Mg.below{V V':F}{B:Nat}{r:List Rat}(h:Mg V B r)(b:Bl V V'):Mg V' B r:=by
 obtain⟨a,l,c,d,e⟩:=h;exact⟨a,l,c,d.below b,e.below b⟩
def Mh(V:F)(B:Nat):Nat:=match V.cell? ⟨B,0,none⟩with|some (E _ l _)=>l|_=>0
def Dd.len{V:F}{B:Nat}{a:Option Addr}{l c:Nat}(h:Dd V B a l c):Mh V B=l:=by
 unfold Mh;rw[h.cell]
def Wm{V:F}{a:Option Addr}{l c:Nat}{ps:List Rat}(h:Je V (s #[E a l c]) ps):l=ps.length:=h.row.forms.1
def chnL_head(a b:List Rat):∃t,EW a b=a::t:=by
 unfold EW;cases b.length with
 |zero=>exact⟨_,rfl⟩
 |succ n=>
  rw[GH];split
  . exact⟨_,rfl⟩
  . exact⟨_,rfl⟩
def oV(B4 B5 n l:Nat)(C:List (List Rat))(G:List (List Rat)->F->Prop):Prop:=∀H W a b c4 c d c5 p q,H++[p] <+: C->B4<W.heap.size->B5<W.heap.size->G H W->Dd W B4 a b c4->Dd W B5 c d c5->Je W (s #[E a b c4]) p->Je W (s #[E c d c5]) q->
 YieldAt Fence.wide (n-1) X l #[s #[E a b c4]] W λe W'=>e=.returned (o true)/\G (H++[p]) W'/\Dd W' B4 a b c4/\Dd W' B5 c d c5/\Je W' (s #[E a b c4]) p/\Je W' (s #[E c d c5]) q
structure ChOk(K:Nat)(p q:List Rat):Prop where
 tp:Jc p=p
 tq:Jc q=q
 cp:∃D:Int,D≠0/\Sm K D/\EZ D K p
 cq:∃D:Int,D≠0/\Sm K D/\EZ D K q
 le:4*((max p.length q.length+2)*(Dc K p q+1))<=1000000000
 ln:max p.length q.length<=1000
def ChOk.lp{K:Nat}{p q:List Rat}(h:ChOk K p q):Ln K p:=by obtain⟨D,a,_,b⟩:=h.cp;exact b.ln a
def ChOk.lq{K:Nat}{p q:List Rat}(h:ChOk K p q):Ln K q:=by obtain⟨D,a,_,b⟩:=h.cq;exact b.ln a
theorem ChOk.bd{K:Nat}{p q:List Rat}(h:ChOk K p q):Dc K p q<=1000000000/\K<=1000000000/\p.length+q.length<=1000000000/\1<=Dc K p q:=by
 have a:=h.le;grind[Dc]
def oW(K n:Nat)(hn:1<=n)(Bp Bq:Nat)(pa qa:Option Addr)(pl pc ql qc:Nat)(p q:List Rat)(g:ChOk K p q)(l:Nat)(B:Nat->Nat->List (List Rat)->F->Prop)(w:F)(bg:Dd w Bp pa pl pc)(bi:Dd w Bq qa ql qc)(ip:Je w (s #[E pa pl pc]) p)(iq:Je w (s #[E qa ql qc]) q)
(ay:∀B4 B5,GB (B B4 B5))(az:∀B4 B5,w.heap.size<=B4->w.heap.size<=B5->Mf B4 B5 (B B4 B5))(hY:∀B4 B5,w.heap.size<=B4->w.heap.size<=B5->oV B4 B5 n l (Xb p q) (B B4 B5))(h0:∀B4 B5 V,w.heap.size<=B4->w.heap.size<=B5->Bl w V->B B4 B5 [] V):
 CallsIn Fence.wide n X 150 (#[.func (.yield l) #[] #[]]++#[L (some ⟨Bp,0,none⟩),L (some ⟨Bq,0,none⟩)]) w λe W'=>(∃v,e=.returned v)/\∃B4 B5 H a,(w.heap.size<=B4/\w.heap.size<=B5)/\B B4 B5 (H++[a]) W'/\Xb p q=H++[a]/\Chn p q (Dc K p q) a []:=by
 have Qq:=Z λ(V:F) (T:Bl w V)=>(bg.below T).cell;have Qi:=Z λ(V:F) (T:Bl w V)=>(bi.below T).cell;have Qo:=Z (λ(V:F) (T:Bl w V)=>show Calls X 151 #[s #[E pa pl pc]] V λe w'=>∃u,e=.returned u/\Je w' u (Jp p)/\Bl V w' by
  obtain⟨D,h1,h2,N⟩:=g.cp;exact RM D K _ p V (ip.below T) g.tp h1 h2 N g.bd.2.1)
 have Qh:=Z (λ(V:F) (T:Bl w V)=>show Calls X 151 #[s #[E qa ql qc]] V λe w'=>∃u,e=.returned u/\Je w' u (Jp q)/\Bl V w' by
  obtain⟨D,h1,h2,N⟩:=g.cq;exact RM D K _ q V (iq.below T) g.tq h1 h2 N g.bd.2.1)
 obtain⟨Qp,Qr,Qs⟩:=DX h0 (Chn.start g.tp g.tq g.lp g.lq g.bd.2.2.1) λ(a b:List Rat) (h:Chn p q (Dc K p q) a b) (hb:b≠[])=>Chn.next g.tp g.tq g.lp g.lq g.bd.2.2.1 h hb;have Ua:=Z (λ(V:F) (x y:I) (a b:List Rat) (hx:Je V x a) (hy:Je V y b) (h:Chn p q (Dc K p q) a b) (hb:b≠[])=>oT (Dc K p q) x y a b V hx hy h.wa h.wb h.ta h.tb hb g.bd.2.2.2 (by
  have h1:=h.la;have h2:(a.length+2)*(Dc K p q+1)<=(max p.length q.length+2)*(Dc K p q+1):=Ad _ O;have N:=g.le;omega) (h.nx hb))
 obtain⟨Qm,Qj,M1⟩:=DX (show ∀B4 B5,w.heap.size<=B4->w.heap.size<=B5->GB (B B4 B5)/\Mf B4 B5 (B B4 B5)from λB4 B5 h4 h5=>⟨ay B4 B5,az B4 B5 h4 h5⟩) hY (DJ.nil w);clear g bg bi ip iq ay az hY h0;refine Bo Tryz.func150 rfl trivial ?_ rfl;simp only[Tryz.ntmps150,Ar,Ah,AG,Nat.reduceAdd,Nat.reduceSub,At,Au,AC,Aw,Al,Ay];gi_wp2_with fail
 refine LN (Or.inl rfl) Dh [[],[0],[],[2],[],[],[1,4],List.range 7] [.eq (s #[E pa pl pc]),.poly (Jp p),.eq (s #[E qa ql qc]),.poly (Jp q),.ptr,.ptr,.eq undef,.eq undef] [4,5,6,7] (λo v V=>DJ w V [nb o v 0 2 (.poly []) (.poly (Jp p)),nb o v 1 3 (.poly []) (.poly (Jp q))]) M1.o.none.none.drew (SR (.vl rfl λ_ j=>⟨_,by have e0:=Qq.o _ j.2.2;refine DP ?_;go_simp,rfl⟩)<|SR (.cl λh j=>c1 (h.e 0) (Qo.o _ j.2.2))<|SR (.vl rfl λ_ j=>⟨_,by have e0:=Qi.o _ j.2.2;refine DP ?_;go_simp,rfl⟩)<|SR (.cl λh j=>c1 (h.e 2) (Qh.o _ j.2.2))<|SR (.wr rfl λ_ j=>Ko 0 j)<|SR (.wr rfl λ_ j=>Ko 1 j)<|SR (.wr rfl λh j=>GS 0 j (h.g 1) (hp:=h.g 4))<|SR (.wr rfl λh j=>GS 1 j (h.g 3) (hp:=h.g 5)) Stp.end_)
  λf V2 hF S=>?_
 refine DP ?_;obtain⟨B3,am⟩:=hF.p 4;obtain⟨B4,an⟩:=hF.p 5;have S:=Dw S;simp only[am,an]at S;rw[hF.e 0,hF.e 2,am,an];replace S:=Z S;clear hF am an M1;have R:=S;clear S;obtain⟨a5,c,c5,n5,r5⟩:=R.o.poly2 (i:=0) rfl;obtain⟨a6,l6,c6,n6,r6⟩:=R.o.poly2 (i:=1) rfl;have M:=Z (show B3≠B4/\w.heap.size<=B3/\w.heap.size<=B4 from⟨R.o.ne 0 1 rfl rfl DK,R.o.ge 0 rfl,R.o.ge 1 rfl⟩);obtain⟨Qe,Qc,Qf,Qn⟩:=Dt (Qp.o B3 B4 V2 M.o.2.1 M.o.2.2 R.o.2.2) (Qm.o B3 B4 M.o.2.1 M.o.2.2) (Qj.o B3 B4 M.o.2.1 M.o.2.2) (show ∀H a W,B B3 B4 (H++[a]) W->Xb p q=H++[a]->Chn p q (Dc K p q) a []->∃B4 B5 H a,(w.heap.size<=B4/\w.heap.size<=B5)/\B B4 B5 (H++[a]) W/\Xb p q=H++[a]/\Chn p q (Dc K p q) a []from λH a W h1 h2 N=>⟨B3,B4,H,a,⟨M.o.2.1,M.o.2.2⟩,h1,h2,N⟩);clear Qp Qm Qj;obtain⟨G,hG⟩:=ex (B B3 B4);rw[hG]at Qe Qc Qf Qn;clear hG;have Qg:Hid (Gy B3 B4 G [] V2 (s #[E a5 c c5]) (s #[E a6 l6 c6]) (Jp p) (Jp q)):=Z ⟨Qc.o,Qe.o,r5,r6⟩;have N4:Hid (Dd V2 B3 a5 c c5):=Z n5;have N5:Hid (Dd V2 B4 a6 l6 c6):=Z n6;clear n5 n6 r5 r6 R Qo Qh Qe Qq Qi;gi_wp2;gi_loopw [] (λwr=>∃(H:List (List Rat)) (a b:List Rat) (A r:Option Addr) (z c4 c c5:Nat),Hid (Gy B3 B4 G H wr (s #[E A z c4]) (s #[E r c c5]) a b)/\Hid (Dd wr B3 A z c4)/\Hid (Dd wr B4 r c c5)/\Hid (Chn p q (Dc K p q) a b)/\Hid (Xb p q=H++EW a b)) λwr=>Mh wr B4
 case atStart=>exact⟨[],_,_,_,_,_,_,_,_,Qg,N4,N5,Qr,Z rfl⟩
 case round=>
  clear Qg N4 N5 Qr;obtain⟨H,a,b,A,r,z,c4,c,c5,HG,H4,H5,HC,HH⟩:=hrel;obtain⟨fn,tmps,assign,body,hy,bf⟩:=Qf.o H wr A z c4 r c c5 a b (by obtain⟨t,ht⟩:=chnL_head a b;exact⟨t,by rw[HH.o,ht];simp⟩) (Bx.lt (cs:=#[E A z c4]) H4.o) (Bx.lt (cs:=#[E r c c5]) H5.o) HG.o.2.1 H4.o H5.o HG.o.2.2.1 HG.o.2.2.2;have e4:=H4.o.cell;gi_wp2;refine bf.mono ?_;rintro e W3 ⟨rfl,aq,ap,aj,bj,ah⟩;have Ql:Hid (Gy B3 B4 G (H++[a]) W3 (s #[E A z c4]) (s #[E r c c5]) a b):=Z ⟨Qc.o,aq,bj,ah⟩;obtain⟨Ug,Ud,U⟩:=DX (Wm ah) (H5.o.len) (Yv _ b W3 ah);have e5:=aj.cell;have Uc:=Z ap;have Uf:=Z aj;clear hy bf e4 aq ap aj bj ah HG H4 H5;by_cases P:b=[]
  . have HE:=Z (show Xb p q=H++[a]by rw[HH.o,P];rfl);have Qz:=Z (show Chn p q (Dc K p q) a []by have:=HC.o;rwa[P]at this);rw[P,show((([]:List Rat).length:Int)-1)=-1 from rfl]at U;gi_wp2_with(refine⟨trivial,?_⟩;gi_at_call 26;refine((BI (n:=_)).2 U.o).mono ?_;clear U;rintro e w4 ⟨rfl,ae⟩)
    go_end0;exact⟨⟨_,rfl⟩,Qn.o H a _ (Ql.o.below ae).2.1 HE.o Qz.o⟩
  . obtain⟨m,hm⟩:=ex (b.length-1:Nat);have Qk:(b.length:Int)-1=(m:Int):=by have:=Ae.2 P;omega
    rw[Qk]at U;obtain⟨Qy,Ub,Qt,Qd⟩:=Dt (Qs.o a b HC.o P) (Xo (a:=a) HC.o.tb P) (show Xb p q=(H++[a])++EW b (XI a b)by rw[HH.o,XM HC.o.tb P,CM];rfl) λ(V:F) (x y:I) (hx:Je V x a) (hy:Je V y b)=>Ua.o V x y a b hx hy HC.o P;have bm:¬(m:Int)<0:=O
    clear hm Qk P;gi_wp2_with(refine⟨trivial,?_⟩;gi_at_call 26;refine((BI (n:=_)).2 U.o).mono ?_;clear U;rintro e w4 ⟨rfl,ae⟩)
    have Qv:=(Ql.o.below ae).below ((BB _ w4).drew);have Ue:=(Uc.o.below ae).below ((BB _ w4).drew);have Qw:=(Uf.o.below ae).below ((BB _ w4).drew);refine LN (Or.inl rfl) Dh [[],[],[],[1,2],[0,1,2,3],List.range 5] [.eq (s #[E r c c5]),.eq (s #[E A z c4]),.eq (s #[E r c c5]),.poly (XI a b),.eq undef,.eq undef] [4,5] (λo _ V=>Gy B3 B4 G (H++[a]) V (s #[E A z c4]) (s #[E r c c5]) a b/\(if o.getD 0 false then Dd V B3 r c c5 else Dd V B3 A z c4)/\if o.getD 1 false then Mg V B4 (XI a b)else Dd V B4 r c c5) ⟨Qv,Ue,Qw⟩ (SR (.vl rfl λ_ j=>⟨_,by have e0:=(show Dd _ B4 r c c5 from j.2.2).cell;refine DP ?_;go_simp,rfl⟩)<|SR (.vl rfl λ_ j=>⟨_,by have e0:=(show Dd _ B3 A z c4 from j.2.1).cell;refine DP ?_;go_simp,rfl⟩)<|SR (.vl rfl λ_ j=>⟨_,by have e0:=(show Dd _ B4 r c c5 from j.2.2).cell;refine DP ?_;go_simp,rfl⟩)<|SR (.cl (λh j=>c2 (h.e 1) (h.e 2) (Qd.o _ _ _ j.1.2.2.1 j.1.2.2.2)) (hJ:=λ_ _ _ _ h b=>⟨h.1.below b,Jx h.2.1 (·.below b) (·.below b),Jx h.2.2 (·.below b) (·.below b)⟩))<|SR (.wr rfl fun {_ V _} h j=>by
       have n:Dd V B3 A z c4:=j.2.1;have e0:=n.cell;have f0:=n.frozen;exact⟨.skip,undef,_,by refine DP ?_;rw[h.e 0];go_simp,Or.inr ⟨rfl,rfl⟩,rfl,λd v _ k=>k.set1 n rfl _,j.1.put (Or.inl rfl) n,n.put,(show Dd V B4 r c c5 from j.2.2).far λe=>M.o.1 e.symm⟩)<|SR (.wr rfl fun {f V _} h j=>by
       have n:Dd V B4 r c c5:=j.2.2;have e0:=n.cell;have f0:=n.frozen;have N:Je V (f 3) (XI a b):=h.g 3;obtain⟨x7,l7,c7,e⟩:=Je.form N;rw[e]at N;exact⟨.skip,undef,_,by refine DP ?_;rw[e];go_simp,Or.inr ⟨rfl,rfl⟩,rfl,λd v _ k=>k.set1 n rfl _,j.1.put (Or.inr rfl) n,(show Dd V B3 r c c5 from j.2.1).far M.o.1,x7,l7,c7,n.put,N.setB n⟩) Stp.end_)
     λf V hF SS=>?_
    refine DP ?_;obtain⟨ai,n6,x7,l7,c7,n7,i7⟩:=(show Gy B3 B4 G (H++[a]) V (s #[E A z c4]) (s #[E r c c5]) a b/\Dd V B3 r c c5/\Mg V B4 (XI a b)from SS);rw[hF.e 0,hF.e 1,hF.e 2];have Qx:Hid (Gy B3 B4 G (H++[a]) V (s #[E r c c5]) (s #[E x7 l7 c7]) b (XI a b)):=Z ⟨Qc.o,ai.2.1,ai.2.2.2,i7⟩;obtain⟨Qu,N6,N7⟩:=DX (show Mh V B4<Mh wr B4 by rw[n7.len,Ud.o,Wm i7,Ug.o];exact Ub.o) n6 n7;clear SS ai hF n6 n7 i7;gi_wp2;go_roundw
    case rel=>exact⟨H++[a],b,XI a b,_,_,_,_,_,_,Qx,N6,N7,Qy,Qt⟩
    case measure=>exact Qu.o
end M3
namespace M3
variable{ps:List Rat}{v:I}{W:F}
def Wn(n:Nat)(a d:Option Addr)(c b g f:Nat)(w:F):
 CallsIn Fence.wide n X 72 #[s #[E a c b],s #[E d g f]] w λe w'=>e=.returned (.func (.func 150) #[] #[L (some ⟨w.heap.size,0,none⟩),L (some ⟨w.heap.size+1,0,none⟩)])/\w'=(w.alloc (C #[E a c b] 25)).alloc (C #[E d g f] 25):=by
 refine Bo Tryz.func72 rfl trivial ?_ rfl;simp only[Tryz.ntmps72,Ar,Ah,AG,Nat.reduceAdd,Nat.reduceSub,At,Au,AC,Aw,Al,Ay];gi_wp2;go_ret;exact⟨rfl,rfl⟩
def RO(B B4 B5:Nat)(I:List (List Rat)->F->Prop)(H:List (List Rat))(W:F):Exit->Act->F->Prop
 |.normal,_,W'=>I H W'/\W.heap.size<=W'.heap.size/\(∀(k:Nat) (o:Obj),B<=k->o.isCells=false\/k=B4\/k=B5->W.heap[k]?=some o->W'.heap[k]?=some o)/\∀v ps,Je W v ps->Je W' v ps
 |_,_,_=>False
def OM{W':F}{row:Option Nat}(hg:W.grownBy W' row)(a:∀r,row=some r->∃o:Obj,W.heap[r]?=some o/\o.isCells=false)(h:Je W v ps):Je W' v ps:=by
 obtain⟨u,e,h⟩:=h;exact⟨u,e,N1 hg a h⟩
def ON{l:Nat}{o a:Obj}(hl:W.heap[l]?=some o)(b:o.isCells=false)(h:Je W v ps):Je (W.putObj l a) v ps:=
 OM (BR W l a) (λr e=>by cases e;exact⟨o,hl,b⟩) h
theorem Wo{g:Operand}{ps:Array Tmp}{assign body:Code}{Q:Exit->Act->F->Prop}{a:Act}{w:F}{n:Nat}
(h1:2<=n){K z A:Nat}{pa qa:Option Addr}{pl pc ql qc:Nat}{p q:List Rat}(bu:ChOk K p q)(bf:Dd w z pa pl pc)(bg:Dd w A qa ql qc)(ip:Je w (s #[E pa pl pc]) p)(iq:Je w (s #[E qa ql qc]) q)
(hg:a.eval g=.func (.func 150) #[] #[L (some ⟨z,0,none⟩),L (some ⟨A,0,none⟩)])(eg:∀args w,(callFunc 150 args).run X w=.ok (.enter 150 args) w)(ce:ps.size=1)
(I:Nat->Nat->List (List Rat)->F->Prop)(hI:∀B4 B5,OwnFrom w.heap.size (I B4 B5))(ai:∀B4 B5,GB (I B4 B5))(aq:∀B4 B5,w.heap.size<=B4->w.heap.size<=B5->Mf B4 B5 (I B4 B5))(h0:∀B4 B5 V,w.heap.size+2<=B4->w.heap.size+2<=B5->Bl w V->I B4 B5 [] V)(a₁:Value->Nat->Act)
(ay:∀(l:Nat) (x:Option Addr) (j i:Nat) (W:F) (K:Act->F->Prop),K (a₁ (E x j i) W.heap.size) (W.alloc (C #[E x j i] 25))->
  assign.wpIn (Fence.wide.inRound l) (n-1-1) X (Exit.then K λ_ _ _=>False) { tmps:=(ps.zip #[s #[E x j i]]).foldl (λt (p,v)=>t.setIfInBounds p v) a.tmps,defers:=[] } W)
(az:∀(l b B4 B5:Nat) (x:Option Addr) (j i:Nat) (r:List Rat) (H:List (List Rat)) (W:F),I B4 B5 H W->H++[r] <+: Xb p q->w.heap.size+1<b->B4<b->B5<b->Dd W b x j i->Je W (s #[E x j i]) r->
  body.wpIn (Fence.wide.inRound l) (n-1-1) X (RO w.heap.size B4 B5 (I B4 B5) (H++[r]) W) (a₁ (E x j i) b) W)
(bj:∀(D B4 B5:Nat) (W:F) (H:List (List Rat)) (r:List Rat),w.heap.size<=D->I B4 B5 (H++[r]) W->Xb p q=H++[r]->Chn p q (Dc K p q) r []->W.heap[D]?=some (.deferred (some []))->Q .normal { a with defers:={ target:=.collected D,args:=#[] }::a.defers } W):
 (Code.rangeFunc g ps assign body).wpIn Fence.wide n X Q a w:=by
 refine wpIn_rangeFunc λfn bm=>?_;rw[show Fence.wide.round=none from rfl];obtain⟨rc,y⟩:∃rc:LoopState->Option Code->Loop,rc=λst pe=>{ state:=st,pending:=pe,fn,tmps:=a.tmps,params:=ps,assign,body,defers:=w.heap.size }:=⟨_,rfl⟩;obtain⟨V,R⟩:=ex ((w.alloc (.deferred (some []))).alloc (.loop (rc .ready none)));have vL:V.heap[w.heap.size+1]?=some (.loop (rc .ready none)):=by
  rw[<-R];have:=BD (w.alloc (.deferred (some []))) (.loop (rc .ready none));rwa[Ax]at this
 have vD:V.heap[w.heap.size]?=some (.deferred (some [])):=by
  rw[<-R];exact(Be _ _ _ DI).trans (BD w _)
 have G:Bl w V:=by rw[<-R];exact(Ba w _).alloc (by rw[Ax];omega) _
 have cn:V.heap.size=w.heap.size+2:=by rw[<-R];simp
 refine⟨w.heap.size+1,[{ target:=.collected w.heap.size,args:=#[] }],V,{ target:=.fn (.func 150) #[L (some ⟨z,0,none⟩),L (some ⟨A,0,none⟩)],args:=#[.func (.yield (w.heap.size+1)) #[] #[]] },V,150,
  #[.func (.yield (w.heap.size+1)) #[] #[]]++#[L (some ⟨z,0,none⟩),L (some ⟨A,0,none⟩)],V,?_,?_,?_,?_,λ_=>by omega,?_⟩
 . rw[<-R,y];exact run_enterLoop_outer _ _ _ _ _
 . simp only[resolve,hg];simp[go_sem]
 . intro f' aj;simp[Target.leads]at aj;subst aj;exact trivial
 . simp[invoke,go_sem,eg]
 refine(oW K (n-1) O z A pa qa pl pc ql qc p q bu (w.heap.size+1)
  (λB4 B5 H W=>I B4 B5 H W/\W.heap[w.heap.size+1]?=some (.loop (rc .ready none))/\W.heap[w.heap.size]?=some (.deferred (some [])))
  V (bf.below G) (bg.below G) (ip.below G) (iq.below G) ?_ ?_ ?_ λB4 B5 U h4 h5 hU=>⟨h0 B4 B5 U O O (G.trans (hU.mono O)),(hU.block _ (Ab.1 vL).1).trans vL,(hU.block _ (Ab.1 vD).1).trans vD⟩).mono ?_
 . rintro B4 B5 H W W' ⟨hi,hl,hk⟩ S;exact⟨ai _ _ _ _ _ hi S,(S.block _ (Ab.1 hl).1).trans hl,(S.block _ (Ab.1 hk).1).trans hk⟩
 . rintro B4 B5 h4 h5 H W B x j i u hB S ⟨hi,hl,hk⟩;exact⟨aq B4 B5 O O _ _ _ _ _ _ _ hB S hi,(BC W ⟨B,0,none⟩ u _ DH).trans hl,(BC W ⟨B,0,none⟩ u _ DH).trans hk⟩
 . rintro B4 B5 cj ck H W d f c4 a5 l5 c5 p4 q5 bz an ap ⟨hi,hl,hk⟩ h4 h5 i4 i5;have Qf:=(Ab.1 hl).1;have hy:=run_yield (P:=X) (args:=#[s #[E d f c4]]) hl (by rw[y];exact ce.symm);rw[y]at hy;obtain⟨W1,ah⟩:=ex (W.alloc (C #[E d f c4] 25));have hA:Bl W W1:=by rw[<-ah];exact Ba W _
   have N:=(hA.block _ Qf).trans hl;have Ql:=(hA.block _ O).trans hk;have Qj:=ai _ _ _ _ _ hi hA;have Qh:Dd W1 W.heap.size d f c4:=by rw[<-ah];exact BG W 25 (E d f c4)
   refine⟨fn,_,assign,body,hy,roundIn_of_wpIn bm (ay _ _ _ _ W _ ?_)⟩;rw[ah];refine⟨_,run_beginRound N (by rw[y]),?_⟩;obtain⟨bx,bi⟩:=ex (W.heap.size);have Qu:=h4.below hA;have Qr:=h5.below hA;have Qv:=i4.below hA;have Qn:=i5.below hA;rw[bi]at Qh Qf an ap ⊢;have Qg:=(Ab.1 N).1;obtain⟨c,m⟩:=ex (W1.putObj (w.heap.size+1) (.loop { rc .ready none with state:=.busy }));rw[m];have Qo:c.heap[w.heap.size+1]?=some (.loop { rc .ready none with state:=.busy }):=by rw[<-m];exact Bb Qg
   have T:∀k,k≠w.heap.size+1->c.heap[k]?=W1.heap[k]?:=λk hk=>by rw[<-m];exact BL O
   have Qt:Dd c bx d f c4:=(T bx O).trans Qh;have Qk:=(T _ O).trans Ql;have Qp:I B4 B5 H c:=by rw[<-m];exact(hI B4 B5).putObj _ Qj O N rfl
   have Qq:Dd c B4 d f c4:=(T B4 O).trans Qu;have Qw:Dd c B5 a5 l5 c5:=(T B5 O).trans Qr;have Qi:Je c (s #[E d f c4]) p4:=by rw[<-m];exact ON N rfl Qv
   have Qs:Je c (s #[E a5 l5 c5]) q5:=by rw[<-m];exact ON N rfl Qn
   refine wpIn_mono (az _ bx B4 B5 d f c4 p4 H c Qp bz Qf an ap Qt Qi) λe a3 W3 hp=>?_;cases e with
   |normal=>
    obtain⟨bn,co,ae,am⟩:=hp;have M:=ae _ _ O (Or.inl rfl) Qo;have hr:=run_endRound (P:=X) none M;have Qa:∀k,k≠w.heap.size+1->(W3.putObj (w.heap.size+1) (.loop (rc .ready none))).heap[k]?=W3.heap[k]?:=λk hk=>BL O;have Qm:(Instr.endRound (w.heap.size+1) none).run X W3=.ok (o true) (W3.putObj (w.heap.size+1) (.loop (rc .ready none))):=by
     grind
    exact⟨_,_,Qm,rfl,⟨(hI B4 B5).putObj _ bn O M rfl,Bb (Ab.1 M).1,(Qa _ O).trans (ae _ _ (Aa _) (Or.inl rfl) Qk)⟩,
     (Qa _ O).trans (ae _ _ O (Or.inr (Or.inl rfl)) Qq),(Qa _ O).trans (ae _ _ O (Or.inr (Or.inr rfl)) Qw),ON M rfl (am _ _ Qi),ON M rfl (am _ _ Qs)⟩
   |ret=>exact hp.elim
   |exit id=>exact hp.elim
   |goto t=>exact hp.elim
   |panic ch=>exact hp.elim
   |outgrown=>exact hp.elim
 . rintro e c ⟨⟨v,rfl⟩,B4,B5,H,r,⟨h4,h5⟩,⟨hi,hl,hk⟩,hc,hn⟩;exact⟨none,_,by have:=run_endLoop (P:=X) hl (by rw[y];simp);rw[y]at this;exact this,bj _ B4 B5 _ H r (Aa _) ((hI B4 B5).putObj _ hi O hl rfl) hc hn ((BL O).trans hk)⟩
def DJ.setFar{w V:F}{bs:List (Option (Nat × Dat))}(M:DJ w V bs){B:Nat}(f:w.heap.size<=B){a:Option Addr}{l c:Nat}(g:Dd V B a l c)(j:∀(i:Nat) B' d,bs[i]?=some (some (B',d))->B'≠B)(u:I):DJ w (V.setCell ⟨B,0,Option.none⟩ u) bs:=by
 refine⟨λi B' d h=>?_,M.2.1,M.2.2.setCell (p:=⟨B,0,Option.none⟩) f u⟩;obtain⟨⟨cs,b,e⟩,k⟩:=M.1 i B' d h;exact⟨⟨cs,b.far (p:=⟨B,0,Option.none⟩) (j i B' d h) u,e.set1 g rfl u⟩,k⟩
def KM(w:F)(a d:Option Addr)(c b f e:Nat)(H:List (List Rat)):List (Option (Nat × Dat)):=
 [some (w.heap.size,.cell 25 (E a c b)),some (w.heap.size+1,.cell 25 (E d f e)),some (w.heap.size+1+1,.cell 25 (E none 0 0)),some (w.heap.size+1+1+1,.poly (H.getLastD []))]
theorem oX{w:F}{a f:Option Addr}{c b j g:Nat}{H:List (List Rat)}{i B:Nat}{d:Dat}(e:(KM w a f c b j g H)[i]?=some (some (B,d))):B<=w.heap.size+1+1+1:=by
 grind[KM]
def Wp(K:Nat)(va vb:I)(p q:List Rat)(w:F)(ha:Je w va p)(z:Je w vb q)(ai:ChOk K p q):
 Calls X 29 #[va,vb] w λe w'=>∃u,e=.returned u/\Je w' u (Js p q)/\Bl w w':=by
 obtain⟨f,j,g,rfl⟩:=ha.form;obtain⟨m,y,t,rfl⟩:=z.form;have M0:DJ w _ _:=((((DJ.nil w).push (.cell 25 (E f j g)) (cs:=#[E f j g]) ⟨rfl,rfl⟩).push (.cell 25 (E m y t)) (cs:=#[E m y t]) ⟨rfl,rfl⟩).push (.cell 25 (E none 0 0)) (cs:=#[E none 0 0]) ⟨rfl,rfl⟩).push (.poly []) (cs:=#[E none 0 0]) (QJ _);simp only[Ax]at M0;obtain⟨W0,ae⟩:=ex ((((w.alloc (C #[E f j g] 25)).alloc (C #[E m y t] 25)).alloc (C #[E none 0 0] 25)).alloc (C #[E none 0 0] 25));have M1:DJ w W0 (KM w f m j g y t []):=by rw[<-ae];exact M0
 have hN:W0.heap.size=w.heap.size+1+1+1+1:=by rw[<-ae];simp
 obtain⟨Qe,Qg,HN,HP,HQ,Qm⟩:=IV ae M1 hN (λ(V:F) (hB:Bl w V)=>ha.below hB) (λ(V:F) (hB:Bl w V)=>z.below hB) ai;have Qj:=Z (λ(V:F) (x:I) (r:List Rat) (hx:Je V x r) (hc:Chn p q (Dc K p q) r [])=>show Calls X 83 #[x] V λe w'=>∃u,e=.returned u/\Je w' u (Js p q)/\Bl V w' by
  have Qb:=ai.bd;have h1:=Wl x r V hx (Sqs.of λi=>Sq.of (hc.wa.smq Qb.2.2.2 i) Qb.1) hc.ta (λi=>by
   have h2:=Ln.sqs hc.ta hc.wa.ln Qb.2.2.2 i;unfold Jr at h2;rw[Yy,FG,Cq,<-FG]at h2;exact Sq.of h2 Qb.1)
  rw[<-hc.gc,WP];exact h1)
 clear ha z ai M0 M1 ae hN;refine(BI (n:=3)).1 ?_;refine BO Tryz.func29 rfl trivial ?_ rfl;simp only[Tryz.ntmps29,Ar,Ah,AG,Nat.reduceAdd,Nat.reduceSub,At,Au,AC,Aw,Al,Ay];gi_wp2_with fail
 rw[Qe.o];refine⟨trivial,?_⟩;refine(Wn _ _ _ _ _ _ _ _).mono ?_;rintro e w' ⟨rfl,rfl⟩;obtain⟨A,U⟩:=ex ((W0.alloc (C #[E f j g] 25)).alloc (C #[E m y t] 25));have Qi:Bl W0 A:=by rw[<-U];exact(Ba W0 _).alloc (by rw[Ax];omega) _
 have nP:Dd A W0.heap.size f j g:=by rw[<-U];exact(BG W0 25 (E f j g)).alloc _
 have nQ:Dd A (W0.heap.size+1) m y t:=by
  rw[<-U];have:=BG (W0.alloc (C #[E f j g] 25)) 25 (E m y t);rwa[Ax]at this
 have M2:=DJ.below Qg.o Qi;have Qf:A.heap.size=w.heap.size+6:=by rw[<-U];simp[HN.o]
 rw[U,HN.o];rw[HN.o]at nP nQ;obtain⟨Qc,Ql,Qn,S⟩:=Dt M2 nP nQ Qf;clear M2 nP nQ Qf Qi U Qe HN Qg;gi_wp2_with fail
 refine Wo O Qm.o Ql.o Qn.o (HP.o A Qc.o.2.2) (HQ.o A Qc.o.2.2) rfl (Bn Tryz.func150 (by kernel_rfl) rfl) rfl
  (λ_ _ H W=>DJ w W (KM w f m j g y t H)) (λ_ _ H W W' row M hg hr=>DJ.own M hg λr e=>⟨by have:=(hr r e).1;have:=S.o;omega,(hr r e).2⟩) (λ_ _ H W W' M z=>DJ.below M z)
  (λB4 B5 T h5 H W B a l c u hB z M=>DJ.setFar M (by have:=S.o;omega) z (λi B' d e=>by have:=oX e;have:=S.o;omega) u) (λ_ _ V _ _ hV=>DJ.below Qc.o hV)
  (λv b=>{ tmps:=#[s #[E f j g],s #[E m y t],L (some ⟨w.heap.size,0,none⟩),L (some ⟨w.heap.size+1,0,none⟩),L (some ⟨w.heap.size+1+1,0,none⟩),L (some ⟨w.heap.size+1+1+1,0,none⟩),L (some ⟨b,0,none⟩),s #[E f j g],s #[E m y t],.func (.func 150) #[] #[L (some ⟨w.heap.size+1+1+1+1,0,none⟩),L (some ⟨w.heap.size+1+1+1+1+1,0,none⟩)],s #[v],undef,undef,undef],defers:=[] }) ?assign ?body ?done
 case assign=>
  intro l x xl xc W K hK;gi_wp2;exact hK
 case body=>
  intro l b B4 B5 x xl xc r H W M _ z _ _ am hr;obtain⟨ya,yl,yc,R,r3⟩:=DJ.poly2 M (i:=3) rfl;have e3:=R.cell;have f3:=R.frozen;have eb:=am.cell;have HH:=Z (show ∀aj,RO A.heap.size B4 B5 (λH W=>DJ w W (KM w f m j g y t H)) (H++[r]) W .normal aj (W.setCell ⟨w.heap.size+1+1+1,0,none⟩ (E x xl xc))from λaj=>by
   refine⟨?_,?_,λk o hk _ ho=>?_,λv ps h=>h.setB R⟩
   . have T:=DJ.putPoly M (i:=3) rfl hr;show DJ w _ (KM w f m j g y t (H++[r]));unfold KM at T ⊢;rw[show(H++[r]).getLastD []=r by simp];exact T
   . rw[World.size_setCell];exact Aa _
   . exact(BC W ⟨w.heap.size+1+1+1,0,none⟩ _ k (by show k≠w.heap.size+1+1+1;have:=S.o;omega)).trans ho)
  clear M z am hr R r3;gi_wp2;exact HH.o _
 case done=>
  intro D _ _ W H r hD M aq an hK;have Qo:w.heap.size<=D:=by have:=S.o;omega
  have M:DJ w W [some (w.heap.size,.cell 25 (E f j g)),some (w.heap.size+1,.cell 25 (E m y t)),some (w.heap.size+1+1,.cell 25 (E none 0 0)),some (w.heap.size+1+1+1,.poly r)]:=by
   have T:=M;unfold KM at T;rwa[show(H++[r]).getLastD []=r by simp]at T
  obtain⟨ya,yl,yc,R,r3⟩:=DJ.poly2 M (i:=3) rfl;have e3:=R.cell;have n2:=(DJ.cell M (i:=2) rfl).1;obtain⟨HC,Qh,HK⟩:=DX (Qj.o W _ r r3 an) M.2.2 hK;clear M aq an hK r3 R Qj;gi_wp2_with(refine⟨trivial,?_⟩;gi_at_call 83;refine((BI (n:=_)).2 HC.o).mono ?_;clear HC;rintro e w5 ⟨u5,rfl,ap,ah⟩;obtain⟨G,P,N,rfl⟩:=ap.form;have n5:=boxed_below n2 ah;have x0:=n5.cell;have x1:=n5.frozen)
  have Qd:(w5.setCell ⟨w.heap.size+1+1,0,none⟩ (E G P N)).heap[D]?=some (.deferred (some [])):=by
   rw[BC w5 ⟨w.heap.size+1+1,0,none⟩ _ D (by show D≠w.heap.size+1+1;have:=S.o;omega)];exact(ah.block D (Ab.1 HK.o).1).trans HK.o
  refine⟨DI,.inl ⟨_,_,rfl,BQ Qd,?_⟩⟩;have q:Dd (w5.setCell ⟨w.heap.size+1+1,0,none⟩ (E G P N)) (w.heap.size+1+1) G P N:=Dd.put (show Dd w5 (w.heap.size+1+1) none 0 0 from n5);have hg:=BR (w5.setCell ⟨w.heap.size+1+1,0,none⟩ (E G P N)) D (.deferred none);have Qk:∀r,some D=some r->∃o:Obj,(w5.setCell ⟨w.heap.size+1+1,0,none⟩ (E G P N)).heap[r]?=some o/\o.isCells=false:=λr e=>by cases e;exact⟨_,Qd,rfl⟩
  have q2:Dd _ (w.heap.size+1+1) G P N:=YM hg Qk q;have g0:=q2.cell;refine⟨s #[E G P N],by simp[results,Tryz.results29,go_sem,g0],_,rfl,?_,?_⟩
  . exact OM hg Qk (ap.setB n5)
  . exact((Bt Qh.o ah).setCell (p:=⟨w.heap.size+1+1,0,none⟩) DH _).trans (DA (w:=w) (Aa _) _ D _ _ Qo Qd rfl rfl)
end M3
def Cd(M:Nat)(p:List Rat):Prop:=∃D:Int,D≠0/\Sm M D/\EZ D M p
section
variable {M N:Nat} {p q:List Rat}
def Cd.mono(h:Cd M p)(hn:M<=N):Cd N p:=by
 obtain⟨D,d1,a,b⟩:=h;exact⟨D,d1,a.mono hn,λi=>(b i).mono hn⟩
def Cd.smq(h:Cd M p)(i:Nat):DQ M (cf p i):=by
 obtain⟨D,d1,a,b⟩:=h;exact(b i).smq d1 a
def Cd.ln(h:Cd M p):Ln M p:=by
 obtain⟨D,d1,b,a⟩:=h;exact a.ln d1
def Cd.sqs(h:Cd M p)(hM:M<=1000000000):Sqs p:=Sqs.of λi=>Sq.of (h.smq i) hM
theorem Cd.pos(h:Cd M p):1<=M:=by
 obtain⟨D,d1,b,_⟩:=h;by_cases a:1<=M
 . exact a
 . exfalso
   obtain rfl:M=0:=O
   grind[Sm]
def Cd.mon(h:Cd M p)(tp:Jc p=p):Cd M (Jr p):=Mb tp h.ln h.pos
def Cd.monS(h:Cd M p)(tp:Jc p=p)(hM:M<=1000000000)(i:Nat):Sq (cf p i/cf p (p.length-1)):=by
 have a:=Ln.sqs tp h.ln h.pos i;unfold Jr at a;rw[Yy,FG,Cq,<-FG]at a;exact Sq.of a hM
def Cd.dvn(h:Cd M p)(f:Cd M q)(g:cf q (q.length-1)=1):∃D E:Int,Dvn D E E M M p q:=by
 obtain⟨D,d1,c,d⟩:=h;obtain⟨E,a,b,e⟩:=f;exact⟨D,E,d1,c,d,a,b,e,a,b,by rw[g,Rat.divInt_self' a]⟩
end
theorem LZ{q:List Rat}(tq:Jc q=q)(q0:q≠[])(a:Jr q=q):cf q (q.length-1)=1:=by
 have:=Q9 tq q0;rwa[a]at this
def Dr(p q:List Rat):List Rat:=if q=[]then []else Jn p q
def oY(p:List Rat):List Rat:=Jr (Dr p (Js p (Jb p)))
namespace M3
def Chn.ends{p q:List Rat}{K:Nat}(d:ChOk K p q):∀(n:Nat) (a b:List Rat),b.length<=n->Chn p q (Dc K p q) a b->∃r,Chn p q (Dc K p q) r []:=by
 intro n;induction n with
 |zero=>
  intro a b hl h;have c:b=[]:=MX O;subst c;exact⟨a,h⟩
 |succ n e=>
  intro a b hl h;by_cases c:b=[]
  . subst c;exact⟨a,h⟩
  . have f:=Xo (a:=a) h.tb c;exact e b (XI a b) O (Chn.next d.tp d.tq d.lp d.lq d.bd.2.2.1 h c)
def ChOk.gcd{p q:List Rat}{K:Nat}(a:ChOk K p q):Cd (Dc K p q) (Js p q):=by
 obtain⟨r,b⟩:=Chn.ends a _ _ _ (Aa _) (Chn.start a.tp a.tq a.lp a.lq a.bd.2.2.1);rw[<-b.gc,WP];exact Mb b.ta b.wa.ln a.bd.2.2.2
def oZ(M:Nat)(v:I)(p:List Rat)(w:F)(h:Je w v p)(tp:Jc p=p)(a:Cd M p)(hM:M<=1000000000):
 Calls X 83 #[v] w λe w'=>∃u,e=.returned u/\Je w' u (Jr p)/\Bl w w':=
 Wl v p w h (a.sqs hM) tp λi=>a.monS tp hM i
def oc(M:Nat)(a b:I)(p q:List Rat)(w:F)(c:Je w a p)(d:Je w b q)(hp:Cd M p)(hq:Cd M q)(tp:Jc p=p)(tq:Jc q=q)(i:Jr q=q)(hM:2*((p.length+3)*(M+1))<=1000000000):
 Calls X 193 #[a,b] w λe w'=>∃u v,e=.returned (.tuple #[u,v,o (decide (q≠[]))])/\Je w' u (if q=[]then []else Jn p q)/\Je w' v (if q=[]then []else JU p q)/\Bl w w':=by
 have j:(p.length+3)*(M+1)=p.length*(M+1)+3*(M+1):=Ca _ _ _;refine nU M a b p q w c d (hp.sqs O) hq.smq tp tq λq0=>?_;obtain⟨D,E,f⟩:=hp.dvn hq (LZ tq q0 i);obtain⟨m,g⟩:=ex (p.length-(q.length-1));have k:m*(M+1)<=p.length*(M+1):=Ad _ O;rw[g];exact f.sizes O
def OO(M:Nat)(U V:I)(p q:List Rat)(w:F)(z:Je w U p)(A:Je w V q)(hp:Cd M p)(hq:Cd M q)(tp:Jc p=p)(tq:Jc q=q)(T:Jr q=q)(hM:2*((p.length+3)*(M+1))<=1000000000):
 Calls X 116 #[U,V] w λe w'=>∃u,e=.returned u/\Je w' u (Dr p q)/\Bl w w':=by
 obtain⟨j,la,k,rfl⟩:=z.form;obtain⟨l,lb,m,rfl⟩:=A.form;have t:=(((DJ.nil w).push (.cell 25 (E j la k)) (cs:=#[E j la k]) ⟨rfl,rfl⟩).push (.cell 25 (E l lb m)) (cs:=#[E l lb m]) ⟨rfl,rfl⟩).push (.cell 25 (E none 0 0)) (cs:=#[E none 0 0]) ⟨rfl,rfl⟩;simp only[Ax]at t;obtain⟨W0,y⟩:=ex (((w.alloc (C #[E j la k] 25)).alloc (C #[E l lb m] 25)).alloc (C #[E none 0 0] 25));have G:=Z y;have a:Hid (DJ w W0 [some (w.heap.size,.cell 25 (E j la k)),some (w.heap.size+1,.cell 25 (E l lb m)),some (w.heap.size+1+1,.cell 25 (E none 0 0))]):=Z (by rw[<-y];exact t);have r:=Z (oc M _ _ p q W0 (z.below a.o.2.2) (A.below a.o.2.2) hp hq tp tq T hM);obtain⟨bq,P⟩:=ex (decide (q≠[]));rw[P,show(if q=[]then []else Jn p q)=Dr p q from rfl]at r;have c0:=(a.o.cell (i:=0) rfl).1.cell;have c1:=(a.o.cell (i:=1) rfl).1.cell;have n1:=(a.o.cell (i:=2) rfl).1;have D:=Z a.o.2.2;clear t y z A hp hq tp tq T hM P a;go_enter Tryz.func116,Tryz.ntmps116
 go_upto_region 1 with fail
 rw[G.o];clear G;go_upto_region 2 with(go_at_call 193;refine r.o.mono ?_;clear r;rintro e n ⟨u4,v4,rfl,B,R,f⟩;obtain⟨b,c,c4,rfl⟩:=B.form;obtain⟨H,S,N,rfl⟩:=R.form)
 have d:Bl n ((n.alloc (C #[E b c c4] 25)).alloc (C #[E H S N] 25)):=(Ba n _).alloc (by rw[Ax];omega) _;have nb:=(BG n 25 (E b c c4)).alloc (C #[E H S N] 25);have e5:=nb.cell;have g:=boxed_below (boxed_below n1 f) d;have x0:=g.cell;have x1:=g.frozen;have Qe:=Z (LS g (x:=E b c c4) (B.below d));have W:=Z (((Bt D.o f).trans (d.mono (Ac D.o.size f.size))).setCell (p:=⟨w.heap.size+1+1,0,none⟩) DH (E b c c4));clear c0 c1 B R f nb g d;go_wp2_with fail
 exact BA (v:=s #[E b c c4]) (by simp[results,Tryz.results116,go_sem,x0]) rfl ⟨_,rfl,Qe.o,W.o⟩
structure FrOk(K:Nat)(p:List Rat):Prop where
 ch:ChOk K p (Jb p)
 le:(p.length+3)*(Dc K p (Jb p)+1)*2<=1000000000
end M3
variable{cs:List I}{base t:Nat}{v:I}{W W':F}
def Tryz.infoPart:(Tryz.prog.info? 98).map (λi=>(i.zero,i.size,i.bytes))=some (some (s #[E none 0 0,K Q 0]),2,32):=by kernel_rfl
def Tryz.infoRPart:(Tryz.prog.info? 109).map (λi=>(i.zero,i.size,i.bytes))=some (some (s #[E none 0 0,K Q 0]),2,32):=by kernel_rfl
def EG(r:Bool):TypeId:=match r with|true=>98|false=>109
def Hr(r:Bool):TypeId:=match r with|true=>95|false=>103
def zP:Array I:=#[E none 0 0,.int Q 0]
def od(r:Bool):Tryz.prog.underlying (Hr r)=some (.slice (EG r)):=by
 cases r with
 |true=>exact Tryz.underlying95
 |false=>exact Tryz.underlying103
def oe(r:Bool):∃i,Tryz.prog.info? (EG r)=some i/\i.zero=some (s zP)/\i.size=2/\i.bytes=32:=by
 cases r with
 |true=>
  obtain⟨i,a,b,c,d⟩:=Bs Tryz.infoPart;exact⟨i,a,b,c,d⟩
 |false=>
  obtain⟨i,a,b,c,d⟩:=Bs Tryz.infoRPart;exact⟨i,a,b,c,d⟩
def II(r:Bool)(W W':F):Prop:=∀B,B<W.heap.size->(∀cs m,W.heap[B]?≠some (C cs (EG r) m))->W'.heap[B]?=W.heap[B]?
theorem II.at{r:Bool}(h:II r W W'){B:Nat}{cs:Array I}{t:TypeId}{m:Nat × Nat}(a:W.heap[B]?=some (C cs t m))(c:t≠EG r):W'.heap[B]?=W.heap[B]?:=
 h B (Ab.1 a).1 λb d e=>by
  grind
def og(k:IntKind)(r:Bool):He k≠EG r:=by cases r<;>cases k<;>decide
def oh(k:Bool)(r:Bool):Dn k≠EG r:=by cases r<;>cases k<;>decide
def II.row{r:Bool}(h:II r W W'){k:IntKind}{ds:List Nat}(u:Row k W v ds):Row k W' v ds:=by
 obtain⟨a,c,e,i,l,n,g4⟩:=u;refine⟨a,c,e,i,l,n,?_⟩;rcases g4 with g4|⟨b,w,g,f,q⟩
 . exact Or.inl g4
 . obtain⟨cs,m,p⟩:=id f;have d:=h.at p (og k r);refine Or.inr ⟨b,w,g,f.of d,λj t=>?_⟩;rw[<-q j t];simp only[World.cell?,d]
def II.rowK{r:Bool}(h:II r W W'){k:Bool}{qs:List Rat}(D:RowK k W v qs):RowK k W' v qs:=by
 obtain⟨a,cap,e,p,q,t,c⟩:=D;refine⟨a,cap,e,p,q,t,?_⟩;rcases c with c|⟨b,n,cs,d,A⟩
 . exact Or.inl c
 . refine Or.inr ⟨b,n,cs,(h.at d (oh k r)).trans d,λj B=>?_⟩;obtain⟨x,y,z,u,f,i,l,m,w⟩:=A j B;exact⟨x,y,z,u,f,i,l,m,w.keep λ_ _ _ g=>h.row g⟩
def Gz(r:Bool)(W:F)(cs:List I)(L:List (List Rat × Nat)):Prop:=
 cs.length=L.length*2/\∀j p t,L[j]?=some (p,t)->∃x,cs[j*2]?=some x/\cs[j*2+1]?=some (.int Q (t:Int))/\RowK r W x p
theorem Gz.keep{r:Bool}{L:List (List Rat × Nat)}(h:Gz r W cs L)(hk:∀v qs,RowK r W v qs->RowK r W' v qs):Gz r W' cs L:=by
 refine⟨h.1,λj p t e=>?_⟩;obtain⟨x,a,b,c⟩:=h.2 j p t e;grind
def Gz.below{r:Bool}{W W':F}{cs:List I}{L:List (List Rat × Nat)}(h:Gz r W cs L)(a:Bl W W'):Gz r W' cs L:=h.keep λ_ _ g=>g.below a
theorem Gz.snoc{r:Bool}{L:List (List Rat × Nat)}(h:Gz r W cs L){x:I}{p:List Rat}(f:RowK r W x p):Gz r W (cs++[x,K Q (t:Int)]) (L++[(p,t)]):=by
 refine⟨by simp[h.1];omega,λj g i e=>?_⟩;by_cases c:j<L.length
 . rw[CE c]at e;obtain⟨y,k,l,m⟩:=h.2 j g i e;grind
 . rw[A7 O]at e;obtain⟨d,b⟩:=ex (j-L.length);rw[b]at e;cases d with
   |succ d=>simp at e
   |zero=>
    simp at e;obtain⟨rfl,rfl⟩:=e;have a:j=L.length:=O
    subst a;refine⟨x,?_,?_,f⟩
    . rw[A7 (by have:=h.1;omega),h.1,Cm];rfl
    . rw[A7 (by have:=h.1;omega),h.1,show L.length*2+1-L.length*2=1 by omega];rfl
def EP(r:Bool)(base:Nat)(W:F)(v:I)(L:List (List Rat × Nat)):Prop:=
 (v=E none 0 0/\L=[])\/∃g cap cur,v=E (some ⟨g,0,none⟩) L.length cap/\base<=g/\W.heap[g]?=some (C cur (EG r) (0,0))/\L.length<=cap/\cap<=maxLen/\cur.size=cap*2/\Gz r W (cur.toList.take (L.length*2)) L
theorem EP.nil(r:Bool)(base:Nat)(W:F):EP r base W (E none 0 0) []:=Or.inl ⟨rfl,rfl⟩
def EP.below{r:Bool}{base:Nat}{W W':F}{v:I}{L:List (List Rat × Nat)}(h:EP r base W v L)(b:Bl W W'):EP r base W' v L:=by
 rcases h with h|⟨g,cap,cur,c,d,a,e,f,i,j⟩
 . exact Or.inl h
 . exact Or.inr ⟨g,cap,cur,c,d,(b.block g (Ab.1 a).1).trans a,e,f,i,j.below b⟩
theorem EP.form{r:Bool}{L:List (List Rat × Nat)}(h:EP r base W v L):∃a c,v=E a L.length c/\L.length<=c/\c<=maxLen:=by
 rcases h with⟨rfl,rfl⟩|⟨g,cap,cur,rfl,_,_,b,d,_⟩
 . exact⟨none,0,rfl,DI,by unfold maxLen;omega⟩
 grind
theorem EP.set{r:Bool}{L:List (List Rat × Nat)}(h:EP r base W v L){B:Nat}{a:Option Addr}{l c:Nat}(b:Boxed W B 25 (E a l c)){u:I}(hk:∀v qs,RowK r W v qs->RowK r (W.setCell ⟨B,0,none⟩ u) v qs):EP r base (W.setCell ⟨B,0,none⟩ u) v L:=by
 rcases h with h|⟨g,cap,cur,f,i,j,k,m,n,p⟩
 . exact Or.inl h
 . have d:g≠B:=λe=>by
    subst e;have q:W.heap[g]?=some (C #[E a l c] 25 (0,0)):=b;grind
   exact Or.inr ⟨g,cap,cur,f,i,(BC W ⟨B,0,none⟩ u g d).trans j,k,m,n,p.keep hk⟩
theorem oi(r:Bool)(base:Nat)(W:F)(v:I)(L:List (List Rat × Nat))(h:EP r base W v L){a:Option Addr}{l c:Nat}{p:List Rat}(hx:RowK r W (E a l c) p)(hl:L.length+1<=1099511627776)(M:base<=W.heap.size):
 ∃v' w',(Builtin.append_ #[Hr r,Hr r] (Hr r) #[v,E (some ⟨W.heap.size,0,none⟩) 1 1]).run X (W.alloc (C #[E a l c,K Q (t:Int)] (EG r)))=.ok v' w'/\EP r base w' v' (L++[(p,t)])/\II r W w'/\(∀n w0,n<=base->Below n w0 W->Below n w0 w')/\W.heap.size<=w'.heap.size:=by
 obtain⟨i,hi,hz,u,U⟩:=oe r;have N:=od r;have d:Bl W (W.alloc (C #[E a l c,K Q (t:Int)] (EG r))):=Ba W _;obtain⟨b,T⟩:=ex (W.alloc (C #[E a l c,K Q (t:Int)] (EG r)));have aj:b.heap[W.heap.size]?=some (C #[E a l c,K Q (t:Int)] (EG r) (0,0)):=by rw[<-T];exact BD W _
 rw[T]at d ⊢;have R:=hx.below d;have x:∀j c',[Value.slice a l c,K Q (t:Int)][j]?=some c'->b.cell? ((⟨W.heap.size,0,none⟩:Addr).add j)=some c':=λj c' q=>by
  grind[Yk,cell_of]
 have Qf:∀c'∈[Value.slice a l c,K Q (t:Int)],c'.oneCell'=true:=λc' q=>by
  simp at q;rcases q with rfl|rfl<;>rfl
 have Ql:(Value.agg zP).cells=zP:=rfl;have am:zP.size=2:=rfl;have grown:∀(cs:List I) (old:Nat) (m:Nat),m=L.length+1->Gz r b (cs++[E a l c,K Q (t:Int)]) (L++[(p,t)])->cs.length=L.length*2->
  EP r base (b.drew.alloc (C (cs.toArray++[Value.slice a l c,K Q (t:Int)].toArray++Builtin.zeroCells zP (grownCap b m old (EG r)-m)) (EG r))) (E (some ⟨b.heap.size,0,none⟩) m (grownCap b m old (EG r))) (L++[(p,t)]):=by
  intro cs old m hm q A;subst hm;have ai:=grownCap_ge b (L.length+1) old (EG r);have Qn:=grownCap_le_maxLen b (L.length+1) old (EG r) (by unfold maxLen;omega);have Qo:Bl b (b.drew.alloc (C (cs.toArray++[Value.slice a l c,K Q (t:Int)].toArray++Builtin.zeroCells zP (grownCap b (L.length+1) old (EG r)-(L.length+1))) (EG r))):=((BB _ b).drew).alloc (Aa _) _;refine Or.inr ⟨b.heap.size,_,_,DH,Ac M d.size,BD b.drew _,DH,Qn,?_,?_⟩
  . grind[size_zeroCells,AG]
  . have e:(cs.toArray++[Value.slice a l c,K Q (t:Int)].toArray++Builtin.zeroCells zP (grownCap b (L.length+1) old (EG r)-(L.length+1))).toList.take ((L++[(p,t)]).length*2)=cs++[E a l c,K Q (t:Int)]:=by
     simp only[Array.toList_append];have y:(L++[(p,t)]).length*2=(cs++[Value.slice a l c,K Q (t:Int)]).length:=by simp;omega
     rw[y];exact List.take_left
    rw[e];exact q.below Qo
 have fin:∀o,II r W (b.drew.alloc o)/\(∀n w0,n<=base->Below n w0 W->Below n w0 (b.drew.alloc o))/\W.heap.size<=(b.drew.alloc o).heap.size:=λo=>by
  have z:Bl W (b.drew.alloc o):=(d.drew).alloc (by exact d.size) _;exact⟨λB w _=>z.block B w,λn w0 hn H=>H.trans (z.mono (Ac hn M)),z.size⟩
 rcases h with⟨rfl,rfl⟩|⟨g,cap,cur,rfl,S,D,h4,h5,h6,h7⟩
 . have k:=run_append_nil (P:=X) b (Hr r) (Hr r) (EG r) i _ N hi hz ⟨W.heap.size,0,none⟩ 1 1 [E a l c,K Q (t:Int)] (by rw[u];rfl) x O O (by rw[U];omega);rw[Ql]at k;refine⟨_,_,k,?_,fin _⟩;have:=grown [] 0 1 rfl (by rw[Al];exact Gz.snoc (cs:=[]) (L:=[]) ⟨rfl,λj p t e=>by simp at e⟩ R) rfl;simpa using this
 . have G:b.heap[g]?=some (C cur (EG r) (0,0)):=(d.block g (Ab.1 D).1).trans D;have A:(cur.toList.take (L.length*2)).length=L.length*2:=by rw[Ap];have h0:cur.toList.length=cur.size:=Fi;omega
   have Qk:=(h7.below d).snoc (t:=t) R;by_cases ah:L.length+1<=cap
   . have k:=run_append_room (P:=X) b (Hr r) (Hr r) (EG r) i N hi g L.length cap cur G ⟨W.heap.size,0,none⟩ 1 1 [E a l c,K Q (t:Int)] (by rw[u];rfl) x Qf ah (by rw[u];simp;omega);rw[u]at k;obtain⟨f,V⟩:=ex ((cur.toList.take (L.length*2)++[Value.slice a l c,K Q (t:Int)]++cur.toList.drop (L.length*2+[Value.slice a l c,K Q (t:Int)].length)).toArray);rw[V]at k;have Qm:=setRow_heap b g cur f (EG r) (0,0) G;have Qc:II r b (b.setRow g f):=λB w hn=>setRow_other b g B f λe=>hn cur (0,0) (by rw[e];exact G);have Qe:b.heap.size<=(b.setRow g f).heap.size:=(below_setRow (B:=0) (BB _ b) (As _) f).size;refine⟨_,_,k,?_,λB w hn=>?_,λn w0 hn H=>below_setRow (H.trans (d.mono (Ac hn M))) (Ac hn S) f,Ac d.size Qe⟩
     . refine Or.inr ⟨g,cap,f,DH,S,Qm,DH,h5,?_,?_⟩
       . grind
       . have e:f.toList.take ((L++[(p,t)]).length*2)=cur.toList.take (L.length*2)++[E a l c,K Q (t:Int)]:=by
          rw[<-V];have y:(L++[(p,t)]).length*2=(cur.toList.take (L.length*2)++[Value.slice a l c,K Q (t:Int)]).length:=by simp[A];omega
          rw[y];exact List.take_left
         rw[e];exact Qk.keep λ_ _ g=>Qc.rowK g
     . have Qj:B≠g:=λe=>hn cur (0,0) (by rw[e];exact D);exact(setRow_other b g B f Qj).trans (d.block B w)
   . have ae:∀j c',(cur.toList.take (L.length*2))[j]?=some c'->b.cell? ((⟨g,0,none⟩:Addr).add j)=some c':=λj c' q=>by
      grind[Yk,cell_of]
     have k:=run_append_grow (P:=X) b (Hr r) (Hr r) (EG r) i _ N hi hz ⟨g,0,none⟩ L.length cap (cur.toList.take (L.length*2)) (by rw[u];exact A) ae ⟨W.heap.size,0,none⟩ 1 1 [E a l c,K Q (t:Int)] (by rw[u];rfl) x O O (by rw[U];exact growslice_fits O O);grind
namespace M3
def DJ.farP{w W W':F}{bs:List (Option (Nat × Dat))}{r:Bool}(M:DJ w W bs)(a:II r W W')(e:Bl w W')(f:∀(i:Nat) B d,bs[i]?=some (some (B,d))->d.ty≠EG r):DJ w W' bs:=by
 refine⟨λi B d h=>?_,M.2.1,e⟩;obtain⟨⟨cs,b,c⟩,j⟩:=M.1 i B d h;exact⟨⟨cs,(a.at b (f i B d h)).trans b,c.keep (λ_ _ _ g=>a.row g) (Or.inr λ_ _ g=>a.rowK g)⟩,j⟩
end M3

