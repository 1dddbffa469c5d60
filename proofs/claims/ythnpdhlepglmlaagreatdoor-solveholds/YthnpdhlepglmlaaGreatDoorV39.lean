import Derived.Test.YthnpdhlepglmlaaGreatDoorV38
set_option linter.all false
open Go renaming Value->C,World->F
open Go.Value renaming slice->E
set_option maxRecDepth 99999
set_option maxHeartbeats 0
namespace Go.Proofs.YthnpdhlepglmlaaGreatDoor
open Rat renaming divInt->yB
open Proofs.Tryz
open Go.RowKit Go.Shelf
attribute [local go_sem] Oper.semAt_some
theorem rI{a b c:Rat}(h:0<a*b):c*a<0↔c*b<0:=by
 by_cases c0:c=0
 . subst c0;simp
 . obtain⟨a0,b0⟩:=JB h;rw[Sl c0 a0,Sl c0 b0]
   have:¬(a*b<0):=DH
   rw[Sl a0 b0]at this;grind
def Hi:Ja->Rat
 |[]=>0
 |c::t=>if c=0 then Hi t else c
theorem aG(t:Ja):∀(a v:Rat),0<v*Hi t->Xx a t=(if a*v<0 then 1 else 0)+Xx v t:=by
 induction t with
 |nil=>intro a v h;simp[Hi]at h
 |cons c t b=>
  intro a v h;grind[Hi,Xx,rI]
def KR:Rat->Ja->Rat
 |a,[]=>a
 |a,b::l=>if b=0 then KR a l else KR b l
theorem rJ(l:Ja):∀a b:Rat,Xx a (l++[b])=Xx a l+(if KR a l*b<0 then 1 else 0):=by
 induction l with
 |nil=>
  intro a b;rw[As,KR];by_cases b0:b=0
  . subst b0;simp[Xx]
  . rw[Hp b0];simp[Xx]
 |cons c l d=>
  intro a b;grind[KR,Xx]
theorem rK(l:Ja):∀a b:Rat,KR a (l++[b])=if b=0 then KR a l else b:=by
 induction l with
 |nil=>intro a b;rfl
 |cons c l d=>
  intro a b;grind[KR]
def rL(l:Ja):KR 0 l.reverse=Hi l:=by
 induction l with
 |nil=>rfl
 |cons c t a=>rw[List.reverse_cons,rK,a,Hi]
theorem aH(l:Ja):Hi l=0->∀a,Xx a l=0:=by
 induction l with
 |nil=>intro _ a;rfl
 |cons c t b=>
  intro h a;grind[Hi,Xx]
theorem rM(l:Ja):DM l.reverse=DM l:=by
 induction l with
 |nil=>rfl
 |cons c t a=>
  rw[List.reverse_cons];show Xx 0 (t.reverse++[c])=Xx 0 (c::t);rw[rJ,rL];have a:Xx 0 t.reverse=Xx 0 t:=a;rw[a];by_cases c0:c=0
  . subst c0;grind[Xx]
  . rw[Hp c0,Cs,BE (show ¬(0:Rat)<0 by decide)];by_cases f0:Hi t=0
    . rw[f0,Cs,BE (show ¬(0:Rat)<0 by decide),aH t f0,aH t f0]
    . have ff:0<Hi t*Hi t:=by
       have:=XO (f:=[Hi t]) f0 (λx=>Jq _ x) 0 0;unfold Stb at this;rwa[Jq]at this
      have b:=aG t 0 (Hi t) ff;grind[aG]
def KS(a b:Rat):Rat:=if a<b then b else a
def EH(p:Ja):Nat->Rat
 |0=>0
 |n+1=>KS (EH p n) (Yu (cf p n/cf p (p.length-1)))
def J9(p:Ja):Rat:=EH p (p.length-1)+1
theorem aI(p:Ja)(n:Nat):0<=EH p n:=by
 induction n with
 |zero=>exact At
 |succ n a=>
  rw[EH,KS];grind
theorem rN(p:Ja)(n:Nat):∀i,i<n->Yu (cf p i/cf p (p.length-1))<=EH p n:=by
 induction n with
 |zero=>intro i h;omega
 |succ n a=>
  intro i h;grind[EH,KS]
theorem rO{p:Ja}(tp:Jc p=p)(p0:p≠[])(i:Nat)(h:i+1<p.length):Wi (EH p (p.length-1)*(cf p (p.length-1)*cf p (p.length-1))) (cf p (p.length-1)*cf p i):=by
 have d:=rN p (p.length-1) i O;have g:=Jp tp p0;generalize EH p (p.length-1)=M at *;generalize cf p (p.length-1)=k at *;generalize cf p i=c at *;have e:c=c/k*k:=(Ar g).symm;obtain⟨r,f⟩:=ex (c/k);rw[f]at d e;have j:-M<=r/\r<=M:=by
  unfold Yu at d;grind
 have kk:=Xr k;have l:=Ah (a:=M-r) (b:=k*k) DH kk;have m:=Ah (a:=M+r) (b:=k*k) DH kk;rw[e];constructor<;>grind
theorem MI(p:Ja):0<J9 p:=by
 grind[aI,J9]
theorem rP{k v:Rat}(c:k≠0)(h:k*k<=k*v):k*k<=v*v:=by
 have kk:0<k*k:=by
  have:=XO (f:=[k]) c (λx=>Jq _ x) 0 0;unfold Stb at this;rwa[Jq]at this
 have d:=Ah (a:=k*v-k*k) (b:=k*v+k*k) DH DH;rcases JU (k*k) (v*v)with h|h
 . exact h
 . rcases Aj.1 h with h|h
   . have:=Ac (a:=k*k) (b:=k*k-v*v) kk DH;grind
   . grind
theorem sq_pow{s:Rat}(hs:s*s=1)(n:Nat):s^n*s^n=1:=by
 induction n with
 |zero=>grind
 |succ n a=>rw[AO];grind
theorem aJ{p:Ja}(tp:Jc p=p)(p0:p≠[]){s:Rat}(hs:s*s=1){x:Rat}(b:J9 p<=x):cf p (p.length-1)*cf p (p.length-1)<=ev p (s*x)*ev p (s*x):=by
 have c:=Jp tp p0;have h:=q6 hs (aI p (p.length-1)) p tp p0 _ J (rO tp p0) x (by unfold J9 at b;grind);have e:=sq_pow hs (p.length-1);generalize s^(p.length-1)=r at *;generalize cf p (p.length-1)=k at *;generalize ev p (s*x)=v at *;have:=rP (k:=k) (v:=r*v) c DH;have a:r*v*(r*v)=(r*r)*(v*v):=DH
 rw[a,e,FG]at this;exact this
def aK{p:Ja}(tp:Jc p=p)(p0:p≠[]):0<cf p (p.length-1)*cf p (p.length-1):=by
 have:=XO (f:=[cf p (p.length-1)]) (Jp tp p0) (λx=>Jq _ x) 0 0;unfold Stb at this;rwa[Jq]at this
theorem aL{p:Ja}(tp:Jc p=p)(p0:p≠[]):DM (JE (Js p) (J9 p))=DM (Em (Js p)):=by
 obtain⟨B,e,c,_⟩:=YI (J3 tp p0);have b0:=MI p;have:=aE tp p0 (aK tp p0) (a:=J9 p) (b:=J9 p+B) (by clear c;grind) (λx d _=>by
  have:=aJ tp p0 (s:=1) DH d;grind)
 grind
theorem aM{p:Ja}(tp:Jc p=p)(p0:p≠[]):DM (JE (Js p) (-(J9 p)))=DM (D7 (Js p)):=by
 obtain⟨B,d,_,c⟩:=YI (J3 tp p0);have b0:=MI p;have:=aE tp p0 (aK tp p0) (a:=-(J9 p+B)) (b:=-(J9 p)) (by clear c;grind) (λx _ e=>by
  have:=aJ tp p0 (s:=-1) DH (x:=-x) (by clear c;grind);rwa[show(-1:Rat)*-x=x by clear c;grind]at this)
 grind
def nA(p:Ja):Int:=(DM (D7 (Js p)):Int)-(DM (Em (Js p)):Int)
def nB(p:Ja)(x:Rat):Int:=(DM (D7 (Js p)):Int)-(DM (JE (Js p) x):Int)
def aN(p:Prop)[Decidable p]:Int:=if p then 1 else 0
section
variable {p q:Ja} (tp:Jc p=p) (p0:p≠[]) (tq:Jc q=q) (q0:q≠[])
theorem rQ(tp:Jc p=p)(p0:p≠[])(tq:Jc q=q)(q0:q≠[]):nA (Ji p q)=nA p+nA q-nA (Ju p q):=by
 grind[qp,nA]
theorem rR(tp:Jc p=p)(p0:p≠[])(tq:Jc q=q)(q0:q≠[])(x:Rat):nB (Ji p q) x=nB p x+nB q x-nB (Ju p q) x:=by
 grind[aC,nB]
end
theorem aO{p:Ja}(tp:Jc p=p)(p0:p≠[]){F:Rat->Nat}(h:∀ {B:Rat},0<=B->Sh B λx z=>F x+J1 (DL p) x z=F z){u d:Nat}{X:Rat}(r:∀x,X<=x->F x=u)(q:∀x,x<=-X->F x=d):nA p=(u:Int)-(d:Int)/\∀x,nB p x=(F x:Int)-(d:Int):=by
 have g:∀a b,a<=b->DM (JE (Js p) a)+F a=DM (JE (Js p) b)+F b:=λa b j=>by
  obtain⟨A,k,hA⟩:=JI a;obtain⟨C,m,hC⟩:=JI b;have f:0<=A+C:=DH
  exact aF (P:=λx z=>DM (JE (Js p) x)+F x=DM (JE (Js p) z)+F z) (λ_=>rfl) (λ_ _ _ c e=>c.trans e)
   (((Sk tp p0 f).and (h f)).mono λx z _ _ _ ⟨c,e⟩=>by show _=_;omega) (hA.mono DH) (hC.mono DH) j
 obtain⟨B,l,c,e⟩:=YI (J3 tp p0);obtain⟨n,o,i⟩:=JI X;have y1:=i.1;grind[nA,nB]
theorem Sn(r:Rat):Jc [-r,1]=[-r,1]/\Jr [-r,1]=[-r,1]/\DL [-r,1]=[-r,1]:=by
 have t:Jc [-r,1]=[-r,1]:=N0 (Ap (by show(1:Rat)≠0;decide));have m:Jr [-r,1]=[-r,1]:=YM (Yp _) t λx=>by
  rw[LW];show _*(1/(1:Rat))=_;grind
 refine⟨t,m,qq t DI m ⟨[],[1],λx=>?_⟩⟩;grind[I5,ev,dv]
theorem rS(r:Rat):nA [-r,1]=1/\∀x,nB [-r,1] x=aN (r<=x):=by
 obtain⟨t,m,f⟩:=Sn r;obtain⟨b,e,a⟩:=JI r;have y1:=a.1;have y2:=a.2;obtain⟨g,i⟩:=aO t DI (F:=λx=>if r<=x then 1 else 0) (λj=>Sh.all λx z _ _ k=>by
  grind[qu]) (u:=1) (d:=0) (X:=b+1) (λx c=>BF DH) (λx c=>BE DH)
 grind[aN]
theorem Nh:nA [1]=0/\∀x,nB [1] x=0:=by
 have t:Jc [(1:Rat)]=[1]:=DK
 refine aO t DI (F:=λ_=>0) (λb=>Sh.all λx z _ _ _=>?_) (u:=0) (d:=0) (X:=0) (λ_ _=>rfl) (λ_ _=>rfl) |> λh=>⟨by rw[h.1];rfl,λx=>by rw[h.2 x];rfl⟩
 show 0+J1 (DL [1]) x z=0;have a:=YQ t DI;have:=(a.dv.len a.tw a.tR a.R0).1;rw[LV t]at this;rw[KP (SM a.tw a.w0 (by simpa using this) x z)]
theorem rT{p:Ja}(tp:Jc p=p)(r:Rat):Ju p [-r,1]=if ev p r=0 then [-r,1]else [1]:=by
 obtain⟨t,m,_⟩:=Sn r;have e:=N1 p r;have a:∀x,ev [-r,1] x=x-r:=λx=>by simp only[ev];grind
 by_cases h:ev p r=0
 . rw[BF h];have d:Dv [-r,1] p:=⟨IJ p r,λx=>by rw[e x,h,a];grind⟩;grind[Ye,Dv.eq,JF,YW,Kt,Dv.refl]
 . rw[BE h];refine PN tp t ⟨[1/ev p r],DN (-(1/ev p r)) (IJ p r),λx=>?_⟩;grind[Jo,ev]
structure Made(p:Ja)(R:Ja):Prop where
 tp:Jc p=p
 p0:p≠[]
 all:nA p=(R.length:Int)
 bel:∀x,nB p x=((R.filter λr=>decide (r<=x)).length:Int)
 rt:∀r,ev p r=0↔r∈R
section
variable{k:Rat}
theorem aP{w:Ja}(h:DY w){B:Rat}(a:0<=B):Sh B λx z=>¬Stb w x z->x<z->0<ev (Jb w) x*(ev w z-ev w x):=by
 obtain⟨u,v,f⟩:=h;obtain⟨U,b,e⟩:=X2 u a;have d:U*(1/4/U)=1/4:=by rw[Ch,Ar DH]
 refine rise_of (y:=v) (k:=3/4) a DH ((Xq w a (Ym IK b)).mono λx z g i _ c hn=>?_);grind[Ls]
theorem rU{g:Ja}:∀(n:Nat) (a b:Ja),b.length<=n->Jc b=b->Dv g a->Dv g b->∀p∈ET a b,Dv g p:=by
 intro n;induction n with
 |zero=>
  intro a b hn _ d _ p hp;grind[LX]
 |succ n e=>
  intro a b hn tb d hb p hp;by_cases b0:b=[]
  . grind
  . rw[XR tb b0]at hp;rcases FI.1 hp with hp|hp
    . rw[hp];exact d
    . have hl:=Xv (a:=a) tb b0;obtain⟨q,c,c0,f⟩:=Sd (a:=a) tb b0;refine e b (X6 a b) O (KL _ _) hb (d.comb hb [-(Ek a b/c)] (Ji [1/c] q) λx=>?_) p hp;grind[Jd,ev]
theorem rV(hk:k≠0):∀(l:Ja) (a:Rat),Xx (k*a) (l.map λx=>k*x)=Xx a l:=by
 intro l;induction l with
 |nil=>intro a;rfl
 |cons b l c=>
  intro a;rw[C5];by_cases b0:b=0
  . grind[Xx]
  . have kb:k*b≠0:=λe=>by grind
    rw[Hp kb,Hp b0,c];have e:k*a*(k*b)=(k*k)*(a*b):=DH
    have d:0<k*k:=by
     rcases Aj.1 (Xr k)with h|h
     . exact h
     . grind
    by_cases hn:a*b<0
    . rw[BF hn,BF (by rw[e];have:=Ac d (show 0 < -(a*b)by grind);grind)]
    . rw[BE hn,BE (by rw[e];have:=Ah (a:=k*k) (b:=a*b) DH DH;grind)]
def aQ(hk:k≠0)(l:Ja):DM (l.map λx=>k*x)=DM l:=by
 have:=rV hk l 0;rwa[F2]at this
theorem YR{a b:Rat}(h:0<a)(c:0<a*b):0<b:=by
 rcases JU b 0 with q|q
 . have:=Ah (a:=a) (b:=-b) DH DH;grind
 . rcases Aj.1 q with q|q
   . exact q
   . rw[<-q]at c;grind
theorem XS{a b:Rat}(h:0<a)(c:a*b<0):b<0:=by
 have:=YR (a:=a) (b:=-b) h DH;grind
def aR{a b:Rat}(h:a<0)(c:a*b<0):0<b:=YR (a:=-a) (b:=b) DH DH
theorem rW{A C d:Rat}(h:0<d*(C-A))(c:A*C<0):A*d<0:=by
 have e:=Ac h (show 0<A*A-A*C by have:=Xr A;grind);have f:=Xn (a:=C-A) (b:=-(A*d)) DH;grind
def ER(w q:Ja):List Ja:=ET w (Ji (Jb w) q)
structure TkG(w q g:Ja):Prop where
 tg:Jc g=g
 g0:g≠[]
 dw:Dv g w
 dq:Dv g q
 all:∀d,Dv d w->Dv d q->Dv d g
 cop:DQ (Jm w g) q
 stay:∀ {B:Rat},0<=B->Sh B λx z=>Stb w x z->DM (JE (ER w q) x)=DM (JE (ER w q) z)
 step:∀ {B:Rat},0<=B->Sh B λx z=>ev w x*ev w z<0->(ev g x*ev g z<0/\DM (JE (ER w q) x)=DM (JE (ER w q) z))\/
  (Stb g x z/\Stb q x z/\((0<ev q x/\DM (JE (ER w q) x)=DM (JE (ER w q) z)+1)\/(ev q x<0/\DM (JE (ER w q) x)+1=DM (JE (ER w q) z))))
theorem aS{w q:Ja}(tw:Jc w=w)(w0:w≠[])(hs:DY w):∃g,TkG w q g:=by
 have tb:=Jt (Jb w) q;obtain⟨g,_,tg,g0,l,D,h4,hD⟩:=NZ _ w (Ji (Jb w) q) (Aa _) tw tb w0;have j:=(JK tg g0 l).2;have H:=(JK tg g0 D).2;have U:∀p∈ER w q,∀x,ev p x=ev g x*ev (Jm p g) x:=λp hp x=>(JK tg g0 (rU _ w _ (Aa _) tb l D p hp)).2 x;have hv:∀x,ev g x≠0->DM (JE (ER w q) x)=DM (JE ((ER w q).map λp=>Jm p g) x):=λx k=>by
  rw[<-aQ k (JE ((ER w q).map λp=>Jm p g) x)];congr 1;unfold JE;rw[FM,FM];exact Cj λp hp=>U p hp x
 have X:w=Ji g (Jm w g):=YM tw (Jt _ _) λx=>by rw[Jd];exact j x
 have I:DQ (Jm w g) g:=(DY.parts (a:=g) (b:=Jm w g) (by rw[<-X];exact hs)).symm;have dq:Dv g q:=by
  have c1:DQ g (Jb w):=DQ.of_dv hs l;exact c1.dv D
 obtain⟨t,s⟩:=chnL_head w (Ji (Jb w) q);have i:StC (Jm w g::t.map λp=>Jm p g):=by
  have:=hD;rw[s,C5]at this;exact this
 have n:(ER w q).map (λp=>Jm p g)=Jm w g::t.map λp=>Jm p g:=by
  unfold ER;rw[s,C5]
 have es:∀m t',t=m::t'->m=Ji (Jb w) q:=λm t' e=>by
  rw[e]at s;have b0:Ji (Jb w) q≠[]:=λe=>by
   rw[e,LX]at s;cases s
  rw[XR tb b0]at s;obtain⟨t2,ai⟩:=chnL_head (Ji (Jb w) q) (X6 w (Ji (Jb w) q));grind
 have G:DQ (Jm w g) q:=by
  match t,i,es with
  |[],i,_=>
   obtain⟨⟨c,c0,y⟩⟩:=i;refine⟨[1/c],[],λx=>?_⟩;grind[ev]
  |m::t',i,es=>
   obtain rfl:=es m t' J;have W:DQ (Jm w g) (Jm (Ji (Jb w) q) g):=i.cop;exact DQ.right (b:=Jb w) ((I.mul W).ext (λ_=>rfl) λx=>by rw[Jd g,H x])
 refine⟨g,tg,g0,l,dq,λd d1 d2=>h4 d d1 (d2.mul' (Jb w)),G,fun {B} r=>?_,fun {B} r=>?_⟩
 . refine((i.gd r).and (Ng I r)).mono λx z _ _ _ hh f=>?_;have hg:=hh.1;have A:=hh.2;have e:ev w x*ev w z=(ev g x*ev g z)*(ev (Jm w g) x*ev (Jm w g) z):=by rw[j x,j z];grind
   unfold Stb at f A;rw[e]at f;obtain⟨u,n2⟩:=JB f;have su:Stb (Jm w g) x z:=by
    unfold Stb;rcases A with h|h
    . exact h
    . exact YR h f
   have k:ev g x≠0:=λe=>u (by rw[e,Cs]);have v:ev g z≠0:=λe=>u (by rw[e,F2]);rw[hv x k,hv z v,n];exact hg.stay su
 . match t,i,n,es with
   |[],i,n,_=>
    obtain⟨⟨c,c0,y⟩⟩:=i;refine(Sh.all λx z _ _ _ f=>An ?_);have e:ev w x*ev w z=(ev g x*ev g z)*(c*c):=by rw[j x,j z,y,y];grind
    rw[e]at f;have c2:0<c*c:=by
     rcases Aj.1 (Xr c)with h|h
     . exact h
     . grind
    have o:ev g x*ev g z<0:=XS c2 DH;obtain⟨k,v⟩:=P9 o;refine⟨o,?_⟩;rw[hv x k,hv z v,n];show DM [ev (Jm w g) x]=DM [ev (Jm w g) z];rw[y,y]
   |m::t',i,n,es=>
    obtain rfl:=es m t' J;refine(((i.gd r).and (Ng G r)).and (aP hs r)).mono λx z _ _ ae hh f=>?_;have hg:=hh.1.1;have A:=hh.1.2;have hr:=hh.2;have e:ev w x*ev w z=(ev g x*ev g z)*(ev (Jm w g) x*ev (Jm w g) z):=by rw[j x,j z];grind
    have V:x<z:=by
     rcases Aj.1 ae with h|h
     . exact h
     . rw[<-h]at f;have:=Xr (ev w x);grind
    have ah:=rW (hr (λh=>by unfold Stb at h;grind) V) f;rw[e]at f;obtain⟨u,n2⟩:=P9 f;have k:ev g x≠0:=λe=>u (by rw[e,Cs]);have v:ev g z≠0:=λe=>u (by rw[e,F2]);rw[hv x k,hv z v,n];by_cases o:ev g x*ev g z<0
    . exact An ⟨o,hg.stay (aR o f)⟩
    . have N:0<ev g x*ev g z:=by
       rcases Aj.1 (CN.1 o)with h|h
       . exact h
       . exact absurd h.symm u
      have un:=XS N f;have R:¬Stb (Jm w g) x z:=λh=>by unfold Stb at h;grind
      have ss:=(hg.adj).resolve_left R;have sq:=A.resolve_left R;refine Ap ⟨N,sq,?_⟩;obtain⟨s1,s2⟩:=JB ss;rw[JW,C5,JW,JW,JW,KZ s1,KZ s2,hg.tail.same _ _ _ (Aa _) ss];have K:(ev g x*ev g x)*(ev (Jm w g) x*ev (Jm (Ji (Jb w) q) g) x)=(ev w x*ev (Jb w) x)*ev q x:=by
       have h1:=j x;have l:=H x;rw[Jd]at l;rw[Rat.mul_assoc (ev w x),l,h1];grind
      have M:0<ev g x*ev g x:=by
       rcases Aj.1 (Xr (ev g x))with h|h
       . exact h
       . grind
      have e2:(ev (Jm w g) x*ev (Jm (Ji (Jb w) q) g) x)*(ev (Jm w g) z*ev (Jm (Ji (Jb w) q) g) z)=(ev (Jm w g) x*ev (Jm w g) z)*(ev (Jm (Ji (Jb w) q) g) x*ev (Jm (Ji (Jb w) q) g) z):=DH
      have L:(ev (Jm w g) x*ev (Jm w g) z)*(ev (Jm (Ji (Jb w) q) g) x*ev (Jm (Ji (Jb w) q) g) z)<0:=by
       have:=Ac (show 0 < -(ev (Jm w g) x*ev (Jm w g) z)by grind) ss;grind
      rw[<-e2]at L;generalize ev (Jm w g) x*ev (Jm (Ji (Jb w) q) g) x=P at *;generalize ev (Jm w g) z*ev (Jm (Ji (Jb w) q) g) z=Q at *;generalize Xx (ev (Jm (Ji (Jb w) q) g) z) _=T at *;obtain⟨S,_⟩:=JB sq;rcases JU (ev q x) 0 with h|h
      . have q1:ev q x<0:=by
         rcases Aj.1 h with h|h
         . exact h
         . exact absurd h S
        have p1:0<P:=YR M (by rw[K];have:=Ac (show 0 < -(ev w x*ev (Jb w) x)by grind) (show 0 < -(ev q x)by grind);grind);grind[XS]
      . have q1:0<ev q x:=by
         rcases Aj.1 h with h|h
         . exact h
         . exact absurd h.symm S
        have p1:P<0:=XS M (by rw[K];have:=Ac (show 0 < -(ev w x*ev (Jb w) x)by grind) q1;grind);have q2:0<Q:=aR p1 L;grind
def cw(w:Ja)(x:Rat):Nat:=DM (JE (Js w) x)
theorem rX{w:Ja}(tw:Jc w=w)(w0:w≠[])(hs:DY w):∃k:Rat,k≠0/\w=DN k (DL w):=by
 have a:=YQ tw w0;exact Dv.anti a.tw tw (Ig tw w0) (DY.dv a.tw tw w0 hs λc h=>(XK tw w0 c).1 h)
theorem KT{w:Ja}(tw:Jc w=w)(w0:w≠[])(hs:DY w){B:Rat}(a:0<=B):Sh B λx z=>cw w x=cw w z+J1 w x z:=by
 grind[rX,Xi,LZ,q8,cw]
def Jy{w:Ja}(tw:Jc w=w)(w0:w≠[]){a b:Rat}(h:a<=b):cw w b<=cw w a:=Sf tw w0 h
def KU(a b x:Rat):Rat:=if x<a then a else if b<x then b else x
theorem rY{a b x:Rat}(c:a<=x)(d:x<=b):KU a b x=x:=by
 grind[KU]
theorem rZ{a b:Rat}(h:a<=b){x z:Rat}(c:x<=z):KU a b x<=KU a b z/\KU a b z-KU a b x<=z-x:=by
 grind[KU]
theorem MJ{F:Rat->Nat}{a b d:Rat}(c:a<=b)(e:0<d)(h:∀x z,a<=x->x<=z->z<=b->z-x<=d->F x=F z):F a=F b:=by
 obtain⟨A,g,hA⟩:=JI a;obtain⟨C,i,hC⟩:=JI b;have:=glue (B:=A+C) (F:=λx=>F (KU a b x)) (G:=λ_=>0) (a:=a) (b:=b) ⟨d,e,λx y _ _ f hs=>by
  obtain⟨j,k⟩:=rZ c f;grind[AY,KU]⟩ (hA.mono DH) (hC.mono DH) c
 grind[rY]
structure Irr(w:Ja)(a b:Rat):Prop where
 tw:Jc w=w
 w0:w≠[]
 sq:DY w
 ab:a<b
 nz:∀x,a<=x->x<=b->ev w x≠0
 one:cw w a=cw w b+1
theorem YS{p:Rat}(h:p≠0):p<0\/0<p:=by
 grind
section
variable {w:Ja} {a b:Rat}
theorem Irr.still(h:Irr w a b){F:Rat->Nat}(hF:∀ {B:Rat},0<=B->Sh B λx z=>Stb w x z->F x=F z){x z:Rat}(p:a<=x)(q:x<=z)(u:z<=b)(e:cw w x=cw w z):F x=F z:=by
 obtain⟨A,v,hA⟩:=JI a;obtain⟨C,D,hC⟩:=JI b;have j:0<=A+C:=DH
 obtain⟨d,d0,m⟩:=(KT h.tw h.w0 h.sq j).and (hF j);have l:∀y,a<=y->y<=b->Wi (A+C) y:=λy c f=>⟨by have:=hA.1;have:=hC.1;grind,by have:=hC.2;grind⟩;refine MJ q d0 λs t hs o k n=>?_;have c:a<=s:=AY p hs;have f:t<=b:=AY k u;have i:=m s t (l s c DH) (l t DH f) o n;have G:=Jy h.tw h.w0 hs;have H:=Jy h.tw h.w0 k;have g:J1 w s t=0:=by have:=i.1;omega
 refine i.2 ?_;unfold J1 at g;unfold Stb;rcases YS (Xf (h.nz s c DH) (h.nz t DH f))with r|r
 . rw[BF ⟨h.nz s c DH,DH⟩]at g;cases g
 . exact r
def La(w:Ja)(x:Rat):Nat:=if 0<ev w x then 1 else 0
theorem aT{w:Ja}{x z:Rat}(h:Stb w x z):La w x=La w z:=by
 grind[La,Stb,YR]
theorem Irr.same(h:Irr w a b){x z:Rat}(c:a<=x)(g:x<=z)(d:z<=b)(e:cw w x=cw w z):Stb w x z:=by
 have f:=h.still (F:=La w) (λi=>Sh.all λs t _ _ _ hs=>aT hs) c g d e;unfold La at f;unfold Stb;rcases YS (h.nz x c DH)with p|p<;>rcases YS (h.nz z DH d)with q|q
 . have:=Ac (show 0 < -(ev w x)by grind) (show 0 < -(ev w z)by grind);grind
 . grind
 . grind
 . exact Ac p q
theorem Irr.neg(h:Irr w a b){x z:Rat}(c:a<=x)(d:x<=z)(f:z<=b)(e:ev w x*ev w z<0):cw w a=cw w x/\cw w x=cw w z+1/\cw w z=cw w b:=by
 have g:=Jy h.tw h.w0 c;have i:=Jy h.tw h.w0 d;have j:=Jy h.tw h.w0 f;have:=h.one;have n:cw w x≠cw w z:=λq=>by have:=h.same c d f q;unfold Stb at this;grind
 omega
theorem Irr.near(h:Irr w a b){d:Rat}(l:0<d):∃x z,a<=x/\x<z/\z<=b/\z-x<=d/\ev w x*ev w z<0:=by
 refine A3 λhn=>?_;have D:cw w a=cw w b:=by
  obtain⟨A,p,hA⟩:=JI a;obtain⟨C,u,hC⟩:=JI b;have k:0<=A+C:=DH
  obtain⟨e,i,m⟩:=KT h.tw h.w0 h.sq k;obtain⟨f,f0,f1,f2⟩:=IZ l i;have g:∀y,a<=y->y<=b->Wi (A+C) y:=λy v B=>⟨by have:=hA.1;have:=hC.1;grind,by have:=hC.2;grind⟩;refine MJ (Ad h.ab) f0 λs t hs o c G=>?_;have j:=m s t (g s hs DH) (g t DH c) o DH;rw[j];unfold J1;rw[BE,Cr];intro q;have n:=Xf (h.nz s hs DH) (h.nz t DH c);rcases YS n with r|r
  . refine hn ⟨s,t,hs,?_,c,DH,r⟩;grind[Xr]
  . have:=q.2;grind
 have:=h.one;omega
end
def Df(w:Ja)(a b:Rat)(q:Ja):Int:=(DM (JE (ER w q) a):Int)-(DM (JE (ER w q) b):Int)
theorem Irr.sign{w:Ja}{a b:Rat}(h:Irr w a b)(q:Ja):∃g,TkG w q g/\∃d,0<d/\∀x z,a<=x->x<=z->z<=b->z-x<=d->ev w x*ev w z<0->
 (Df w a b q=0/\ev g x*ev g z<0)\/(Df w a b q=1/\Stb g x z/\0<ev q x/\0<ev q z)\/(Df w a b q=-1/\Stb g x z/\ev q x<0/\ev q z<0):=by
 obtain⟨g,hg⟩:=aS (q:=q) h.tw h.w0 h.sq;obtain⟨A,s,hA⟩:=JI a;obtain⟨C,t,hC⟩:=JI b;have e:0<=A+C:=DH
 have n:∀y,a<=y->y<=b->Wi (A+C) y:=λy u v=>⟨by have:=hA.1;have:=hC.1;grind,by have:=hC.2;grind⟩;obtain⟨d,d0,p⟩:=hg.step e;refine⟨g,hg,d,d0,λx z f o i hs hn=>?_⟩;obtain⟨c1,c2,c3⟩:=h.neg f o i hn;have l:=h.still (F:=λy=>DM (JE (ER w q) y)) (λe=>hg.stay e) At f DH c1;have m:=h.still (F:=λy=>DM (JE (ER w q) y)) (λe=>hg.stay e) (show a<=z by grind) i At c3;have l:DM (JE (ER w q) a)=DM (JE (ER w q) x):=l;have m:DM (JE (ER w q) z)=DM (JE (ER w q) b):=m;unfold Df;rcases p x z (n x f DH) (n z DH i) o hs hn with⟨j,k⟩|⟨j,k,c⟩
 . grind
 . rcases c with⟨c,r⟩|⟨c,r⟩
   . exact Ap (An ⟨O,j,c,YR c k⟩)
   . refine Ap (Ap ⟨O,j,c,?_⟩);have:=YR (a:=-(ev q x)) (b:=-(ev q z)) DH (by unfold Stb at k;grind);grind
end
def Nr(w:Ja)(a b:Rat)(P:Rat->Rat->Prop):Prop:=∃d,0<d/\∀x z,a<=x->x<=z->z<=b->z-x<=d->ev w x*ev w z<0->P x z
section
variable {w q p:Ja} {a b:Rat} {P Q:Rat->Rat->Prop}
def Nr.and(h:Nr w a b P)(c:Nr w a b Q):Nr w a b λx z=>P x z/\Q x z:=by
 obtain⟨d,d0,h⟩:=h;obtain⟨e,m,c⟩:=c;obtain⟨f,f0,f1,f2⟩:=IZ d0 m;exact⟨f,f0,λx z g i j k l=>⟨h x z g i j (AY k f1) l,c x z g i j (AY k f2) l⟩⟩
def Nr.mono(h:Nr w a b P)(hi:∀x z,a<=x->x<=z->z<=b->ev w x*ev w z<0->P x z->Q x z):Nr w a b Q:=by
 obtain⟨d,d0,h⟩:=h;exact⟨d,d0,λx z c e f i g=>hi x z c e f g (h x z c e f i g)⟩
theorem Irr.some(h:Irr w a b)(c:Nr w a b P):∃x z,a<=x/\x<=z/\z<=b/\ev w x*ev w z<0/\P x z:=by
 obtain⟨d,d0,c⟩:=c;obtain⟨x,z,e,f,g,i,j⟩:=h.near d0;grind
theorem Nr.of_sh(h:∀ {B:Rat},0<=B->Sh B P):Nr w a b P:=by
 obtain⟨A,l,hA⟩:=JI a;obtain⟨C,m,hC⟩:=JI b;have j:0<=A+C:=DH
 obtain⟨d,d0,k⟩:=h j;have g:∀y,a<=y->y<=b->Wi (A+C) y:=λy n o=>⟨by have:=hA.1;have:=hC.1;grind,by have:=hC.2;grind⟩;exact⟨d,d0,λx z e c f i _=>k x z (g x e (AY c f)) (g z (AY e c) f) c i⟩
theorem PS(p:Ja)(a b:Rat):∃K,0<K/\∀x,a<=x->x<=b->Wi K (ev p x):=by
 obtain⟨A,e,hA⟩:=JI a;obtain⟨C,f,hC⟩:=JI b;obtain⟨K,c,d⟩:=X2 p (show 0<=A+C by grind);exact⟨K,c,λx g i=>d x ⟨by have:=hA.1;have:=hC.1;grind,by have:=hC.2;grind⟩⟩
def EI(w:Ja)(a b:Rat)(q:Ja):Prop:=∀e,0<e->Nr w a b λx z=>Wi e (ev q x)/\Wi e (ev q z)
def Eo(w:Ja)(a b:Rat)(q:Ja):Prop:=∃c,0<c/\Nr w a b λx z=>c<=ev q x/\c<=ev q z
def EI.mul(h:EI w a b q)(p:Ja):EI w a b (Ji q p):=λe l=>by
 obtain⟨K,k,j⟩:=PS p a b;refine(h (e/K) (Ym l k)).mono λx z c f g _ i=>?_;have d:e/K*K=e:=Ar DH;rw[Jd,Jd];exact⟨((i.1.mul (j x c (AY f g))).mono DH),((i.2.mul (j z (AY c f) g)).mono DH)⟩
def EI.ext(h:EI w a b q)(e:∀x,ev p x=ev q x):EI w a b p:=λk hk=>(h k hk).mono λx z _ _ _ _ c=>by rw[e,e];exact c
def Eo.ext(h:Eo w a b q)(e:∀x,ev p x=ev q x):Eo w a b p:=by
 obtain⟨c,c0,h⟩:=h;exact⟨c,c0,h.mono λx z _ _ _ _ d=>by rw[e,e];exact d⟩
theorem Eo.mul(h:Eo w a b q)(d:Eo w a b p):Eo w a b (Ji q p):=by
 obtain⟨c,c0,h⟩:=h;obtain⟨k,e,d⟩:=d;refine⟨c*k,Ac c0 e,(h.and d).mono λx z _ _ _ _ g=>?_⟩;rw[Jd,Jd];have m:∀ {s t:Rat},c<=s->k<=t->c*k<=s*t:=fun {s t} i j=>by
  have f:=Ah (a:=s-c) (b:=t) DH DH;have d:=Ah (a:=c) (b:=t-k) DH DH;grind
 grind
theorem EI.not_abv(h:Irr w a b)(hs:EI w a b q):¬Eo w a b q:=λ⟨c,c0,f⟩=>by
 obtain⟨x,z,_,_,_,_,d,e⟩:=h.some ((hs (c/2) DH).and f);have:=d.1.2;have:=e.1;grind
theorem Eo.not_neg(h:Irr w a b)(hs:Eo w a b q)(d:Eo w a b (DN (-1) q)):False:=by
 obtain⟨c,c0,e⟩:=hs;obtain⟨k,g,hb⟩:=d;obtain⟨x,z,_,_,_,_,f,d⟩:=h.some (e.and hb);grind[Jo]
theorem Irr.val(h:Irr w a b)(q:Ja):(Df w a b q=0/\EI w a b q)\/(Df w a b q=1/\Eo w a b q)\/(Df w a b q=-1/\Eo w a b (DN (-1) q)):=by
 obtain⟨g,hg,f⟩:=h.sign q;have f:Nr w a b _:=f;obtain⟨_,_,_,_,_,_,j⟩:=h.some f;rcases j with⟨y,_⟩|j
 . refine An ⟨y,?_⟩;obtain⟨k,hk⟩:=hg.dq;have hs:EI w a b g:=λe D=>(f.and (Nr.of_sh λi=>Xq g i D)).mono λx z _ _ _ _ d=>by
    refine d.2 λp=>?_;grind[Stb]
   exact(hs.mul k).ext λx=>by rw[Jd];exact hk x
 . refine Ap ?_;obtain⟨u,v,H⟩:=hg.cop;obtain⟨U,I,A⟩:=PS u a b;obtain⟨V,P,B⟩:=PS v a b;have n:=(JK hg.tg hg.g0 hg.dw).2;have M:U*(1/4/U)=1/4:=by rw[Ch,Ar DH]
   have K:∀x,a<=x->x<=b->Wi (1/4/U) (ev (Jm w g) x)->1/(2*V)<=ev q x\/ev q x<=-(1/(2*V)):=λx c o G=>by
    have r:=Ls (H x) (A x c o) G DH;have l:=B x c o;have L:1/(2*V)*(2*V)=1:=Ar DH;generalize 1/(2*V)=k at *;have m:0<k:=YR (a:=2*V) DH DH;refine A3 λhn=>?_;have s:=(l.mul (show Wi k (ev q x)from⟨DH,DH⟩)).2;grind
   have t:Nr w a b λx z=>Stb g x z->Wi (1/4/U) (ev (Jm w g) x)/\Wi (1/4/U) (ev (Jm w g) z):=(Nr.of_sh λi=>Xq (Jm w g) i (Ym IK I)).mono λx z _ _ _ N d p=>by
    refine d λhs=>?_;have e:ev w x*ev w z=(ev g x*ev g z)*(ev (Jm w g) x*ev (Jm w g) z):=by rw[n x,n z];grind
    have:=Ac p hs;grind
   have m:0<1/(2*V):=Ym DK DH;have all:=(f.and t);rcases j with⟨c,_⟩|⟨c,_⟩
   . refine An ⟨c,1/(2*V),m,all.mono λx z r l s _ d=>?_⟩;grind[AY]
   . refine Ap ⟨c,1/(2*V),m,all.mono λx z r l s _ d=>?_⟩;grind[AY,Jo]
theorem Irr.zero(h:Irr w a b):Df w a b q=0↔EI w a b q:=by
 rcases h.val q with⟨d,c⟩|⟨d,c⟩|⟨d,c⟩
 . grind
 . grind[EI.not_abv]
 . refine⟨λe=>by omega,λe=>absurd c (EI.not_abv h ((e.mul [-1]).ext λx=>?_))⟩;rw[Jo,Jd,Jq]
theorem Irr.pos(h:Irr w a b):Df w a b q=1↔Eo w a b q:=by
 rcases h.val q with⟨c,d⟩|⟨c,d⟩|⟨c,d⟩
 . grind[EI.not_abv]
 . grind
 grind[Eo.not_neg]
theorem Irr.minus(h:Irr w a b):Df w a b q=-1↔Eo w a b (DN (-1) q):=by
 rcases h.val q with⟨d,c⟩|⟨d,c⟩|⟨d,c⟩
 . refine⟨λe=>by omega,λe=>absurd e (EI.not_abv h ((c.mul [-1]).ext λx=>?_))⟩;rw[Jo,Jd,Jq]
 . grind[Eo.not_neg]
 grind
theorem Irr.mul(h:Irr w a b)(q p:Ja):Df w a b (Ji q p)=Df w a b q*Df w a b p:=by
 rcases h.val q with⟨e,f⟩|⟨e,f⟩|⟨e,f⟩
 . rw[e,Int.zero_mul];exact h.zero.2 (f.mul p)
 . rcases h.val p with⟨c,d⟩|⟨c,d⟩|⟨c,d⟩
   . rw[c,F0];exact h.zero.2 ((d.mul q).ext λx=>by rw[Jd,Jd,Ch])
   . rw[e,c];exact h.pos.2 (f.mul d)
   . rw[e,c];exact h.minus.2 ((f.mul d).ext λx=>by rw[Jo,Jd,Jd,Jo];grind)
 . rcases h.val p with⟨c,d⟩|⟨c,d⟩|⟨c,d⟩
   . rw[c,F0];exact h.zero.2 ((d.mul q).ext λx=>by rw[Jd,Jd,Ch])
   . rw[e,c];exact h.minus.2 ((f.mul d).ext λx=>by rw[Jo,Jd,Jd,Jo];grind)
   . rw[e,c];exact h.pos.2 ((f.mul d).ext λx=>by rw[Jd,Jd,Jo,Jo];grind)
def Irr.ext(h:Irr w a b)(e:∀x,ev p x=ev q x):Df w a b p=Df w a b q:=by
 rcases h.val q with⟨c,d⟩|⟨c,d⟩|⟨c,d⟩
 . rw[c];exact h.zero.2 (d.ext e)
 . rw[c];exact h.pos.2 (d.ext e)
 . rw[c];exact h.minus.2 (d.ext λx=>by rw[Jo,Jo,e])
theorem PT:EI w a b w:=λe f=>(Nr.of_sh λd=>Xq w d f).mono λx z _ _ _ i c=>c λg=>by unfold Stb at g;grind
def Irr.dvd(h:Irr w a b)(e:Dv w p):Df w a b p=0:=by
 obtain⟨c,d⟩:=e;exact h.zero.2 ((PT.mul c).ext λx=>by rw[Jd];exact d x)
theorem Irr.cop(h:Irr w a b)(i:DQ w p):Df w a b p≠0:=λe=>by
 obtain⟨u,v,j⟩:=i;have c:=((PT (w:=w) (a:=a) (b:=b)).mul u).ext (p:=Ji u w) λx=>by rw[Jd,Jd,Ch]
 have d:=((h.zero.1 e).mul v).ext (p:=Ji v p) λx=>by rw[Jd,Jd,Ch]
 obtain⟨x,z,_,_,_,_,f,g⟩:=h.some ((c (1/4) IK).and (d (1/4) IK));have k:=f.1.2;have l:=g.1.2;rw[Jd]at k l;have:=j x;grind
theorem Irr.const(h:Irr w a b)(c:Rat):(0<c->Df w a b [c]=1)/\(c<0->Df w a b [c]=-1):=by
 refine⟨λd=>h.pos.2 ⟨c,d,1,DK,λx z _ _ _ _ _=>?_⟩,λd=>h.minus.2 ⟨-c,DH,1,DK,λx z _ _ _ _ _=>?_⟩⟩
 . show c<=ev [c] x/\c<=ev [c] z;grind[Jq]
 . show -c<=ev (DN (-1) [c]) x∧-c<=ev (DN (-1) [c]) z;grind[Jo,Jq]
end
section
def Wh(K:Nat)(p:Ja):Prop:=∀i,∃z:Int,Sm K z/\cf p i=(z:Rat)
variable{K:Nat}
theorem Wh.one{p:Ja}(h:Wh K p):∀i,∃z:Int,Sm K z/\cf p i*1=(z:Rat):=λi=>by
 obtain⟨z,a,b⟩:=h i;grind
theorem re{p q:Ja}(hp:Jc p=p)(hq:Jc q=q)(f:Wh K p)(g:Wh K q)(hl:p.length+q.length<=1000000000)(hle:q.length<=p.length)(r:2<=q.length)(j:DQ p q):
 ∃(u v:Ja) (c:Int),Wh ((K+1)*(p.length+q.length)) u/\Wh ((K+1)*(p.length+q.length)) v/\c≠0/\u.length<=q.length/\v.length<=p.length/\∀x,ev u x*ev p x+ev v x*ev q x=(c:Rat):=by
 obtain⟨u,v,H,t,D,G,B,b,hT,s,hv⟩:=ZU hp hq (cp:=1) (cq:=1) DK DK f.one g.one hl hle (m:=2) O r;have p0:p≠[]:=λe=>by grind
 obtain⟨c,_,l⟩:=hT 0;have a:∀x,ev u x*ev p x+ev v x*ev q x=(c:Rat):=λx=>by
  rw[<-Jd,<-Jd,<-Yi,<-l];match A:XI (Ji u p) (Ji v q),b with
  |[],_=>rfl
  |[k],_=>rw[Jq];rfl
  |_::_::_,b=>grind
 refine⟨u,v,c,λi=>?_,λi=>?_,λe=>?_,O,O,a⟩
 . obtain⟨z,w,y⟩:=s i;grind
 . obtain⟨z,w,y⟩:=hv i;grind
 . have d:∀x,ev u x*ev p x+ev v x*ev q x=0:=λx=>by rw[a,e];rfl
   have o:Dv p v:=j.dv (c:=v) ⟨DN (-1) u,λx=>by rw[Jd,Jo];have:=d x;grind⟩;have I:v=[]:=A3 λn=>by
    have:=(o.len hp t n).1;omega
   grind[YX,YM,Jt,Jd,ev]
theorem So(c:Rat):Wi (Yu c) c/\0<=Yu c:=by
 unfold Yu;unfold Wi;split<;>grind
def Gw(H:Rat):Ja->Rat
 |[]=>0
 |c::p=>Yu c+H*Gw H p
def Ep(H:Rat):Ja->Rat
 |[]=>0
 |_::p=>Gw H p+H*Ep H p
section
variable {H:Rat}
theorem Ni(a:0<=H)(p:Ja):0<=Gw H p:=by
 induction p with
 |nil=>exact At
 |cons c p b=>rw[Gw];have:=(So c).2;have:=Ah a b;grind
theorem Nj(a:0<=H)(p:Ja):0<=Ep H p:=by
 induction p with
 |nil=>exact At
 |cons c p b=>rw[Ep];have:=Ni a p;have:=Ah a b;grind
def Sp(p:Ja){x:Rat}(a:Wi H x):Wi (Gw H p) (ev p x):=by
 induction p with
 |nil=>exact⟨by simp[Gw,ev],by simp[Gw,ev]⟩
 |cons c p b=>rw[Gw,Iq];exact(So c).1.add (a.mul b)
theorem Sr(p:Ja){x y:Rat}(d:Wi H x)(f:Wi H y)(h:x<=y):Wi (Ep H p*(y-x)) (ev p x-ev p y):=by
 induction p with
 |nil=>exact⟨by simp[Ep,ev];grind,by simp[Ep,ev];grind⟩
 |cons c p g=>
  rw[Ep,Iq,Iq];have a:=(show Wi (y-x) (x-y)from⟨DH,DH⟩).mul (Sp p d);have b:=f.mul g;have e:c+x*ev p x-(c+y*ev p y)=(x-y)*ev p x+y*(ev p x-ev p y):=DH
  rw[e];exact(a.add b).mono DH
end
variable{f:Ja}
theorem rf(tf:Jc f=f)(f0:f≠[]){B:Rat}(a:0<=B):Sh B λx z=>cw f x=cw f z+J1 (DL f) x z:=by
 grind[Xi,LZ,cw]
theorem rg(tf:Jc f=f)(f0:f≠[]){a b:Rat}(n:a<=b)(hl:cw f b<cw f a){e:Rat}(r:0<e):∃x,a<=x/\x<=b/\Wi e (ev f x):=by
 refine A3 λhn=>?_;obtain⟨A,w,hA⟩:=JI a;obtain⟨C,z,hC⟩:=JI b;have g:0<=A+C:=DH
 obtain⟨k,hk⟩:=Ig tf f0;obtain⟨K,j,m⟩:=PS k a b;obtain⟨d,d0,o⟩:=(rf tf f0 g).and (Xq (DL f) g (Ym r j));have i:∀y,a<=y->y<=b->Wi (A+C) y:=λy B D=>⟨by have:=hA.1;have:=hC.1;grind,by have:=hC.2;grind⟩;have:=MJ (F:=cw f) n d0 λs t hs u v p=>by
  have c:=o s t (i s hs DH) (i t DH v) u p;rw[c.1];unfold J1;rw[BE,Cr];intro q;refine hn ⟨s,hs,DH,?_⟩;have l:=(c.2 λh=>by unfold Stb at h;have:=q.2;grind).1;rw[hk];exact(l.mul (m s hs DH)).mono (by grind[])
 omega
theorem aU(tf:Jc f=f)(f0:f≠[]){H a b:Rat}(j:0<=H)(d:Wi H a)(hb:Wi H b)(k:a<=b)(hl:cw f b<cw f a):Wi (Ep H f*(b-a)) (ev f a):=by
 have key:∀e,0<e->Wi (Ep H f*(b-a)+e) (ev f a):=λe l=>by
  obtain⟨x,g,n,i⟩:=rg tf f0 k hl l;have m:Wi H x:=⟨by have:=d.1;grind,by have:=hb.2;grind⟩;have c:=(Sr f d m g).add i;have o:=Ah (Nj j f) (show 0<=b-x by grind);rw[show ev f a-ev f x+ev f x=ev f a by grind]at c;exact c.mono DH
 constructor
 . refine CN.1 λh=>?_;have:=(key ((-(Ep H f*(b-a))-ev f a)/2) DH).1;grind
 . refine CN.1 λh=>?_;have:=(key ((ev f a-Ep H f*(b-a))/2) DH).2;grind
theorem sep{w u v:Ja}{c:Int}(tw:Jc w=w)(hl:1<w.length)(l:c≠0)(m:∀x,ev u x*ev w x+ev v x*ev (Jb w) x=(c:Rat)){H a b:Rat}(i:0<=H)(d:Wi H a)(hb:Wi H b)(g:a<=b)(s:cw w b+2<=cw w a):
 1<=(Gw H u*Ep H w+Gw H v*Ep H (Jb w))*(b-a):=by
 have w0:w≠[]:=λe=>by rw[e]at hl;simp at hl
 have r:Jb w≠[]:=λe=>by have:=NO tw e;omega
 have t:=rH tw hl g;have n:=aU tw w0 i d hb g O;have o:=aU (Jv w) r i d hb g (by unfold cw at *;omega);have p:=(Sp u d).mul n;have q:=(Sp v d).mul o;have j:=p.add q;rw[m]at j;have k:(1:Rat)<=(c:Rat)\/(c:Rat)<=-1:=by
  rcases Int.lt_or_gt_of_ne l with h|h
  . have f:(c:Rat)<=((-1:Int):Rat):=CA.2 O;exact Ap f
  . have f:((1:Int):Rat)<=(c:Rat):=CA.2 O;exact An f
 have:=j.1;have:=j.2;grind
end
theorem aV{A X B S T:Rat}(c:0<A*X)(d:0<X*B)(e:0<A*S)(f:0<T*B)(g:S*T<0):False:=by
 have a:=Ac (Ac c d) (Ac e f);have b:(A*X)*(X*B)*((A*S)*(T*B))=((A*X*B)*(A*X*B))*(S*T):=DH
 rw[b]at a;have:=Xn a;grind
section
variable {w v q:Ja} {a b c d x y:Rat}
theorem Irr.nn(h:Irr w a b)(hq:Nr w a b λx z=>0<=ev q x\/0<=ev q z):Df w a b q≠-1:=λe=>by
 obtain⟨k,f,hk⟩:=h.minus.1 e;obtain⟨x,z,_,_,_,_,c,d⟩:=h.some (hq.and hk);grind[Jo]
theorem Irr.np(h:Irr w a b)(hq:Nr w a b λx z=>ev q x<=0\/ev q z<=0):Df w a b q≠1:=λe=>by
 obtain⟨k,f,hk⟩:=h.pos.1 e;obtain⟨x,z,_,_,_,_,c,d⟩:=h.some (hq.and hk);grind
theorem Xw(y x:Rat):ev [-y,1] x=x-y:=by simp only[ev];grind
def Dj(w:Ja)(a b x:Rat):Int:=Df w a b [-x,1]
def Irr.sg3(h:Irr w a b)(q:Ja):Df w a b q=0\/Df w a b q=1\/Df w a b q=-1:=by
 rcases h.val q with⟨c,_⟩|⟨c,_⟩|⟨c,_⟩
 . exact An c
 . exact Ap (An c)
 omega
theorem Ss(a:ev w x≠0):DQ w [-x,1]:=by
 obtain⟨s,hs⟩:∃s:Ja,∀y,ev w y=ev w x+(y-x)*ev s y:=⟨IJ w x,λy=>N1 w x y⟩;refine⟨[1/ev w x],DN (-(1/ev w x)) s,λy=>?_⟩;grind[Jo,ev]
theorem Irr.low(h:Irr w a b)(c:x<=a):Dj w a b x=1:=by
 have n:Dj w a b x≠-1:=h.nn ⟨1,DK,λs t d _ _ _ _=>An (by show 0<=ev [-x,1] s;rw[Xw];grind)⟩;rcases h.sg3 [-x,1]with e|e|e
 . exfalso
   rcases Aj.1 c with c|c
   . refine EI.not_abv h (h.zero.1 e) ⟨a-x,DH,1,DK,λs t d f _ _ _=>?_⟩;show a-x<=ev [-x,1] s/\a-x<=ev [-x,1] t;rw[Xw,Xw];constructor<;>grind
   . exact h.cop (Ss (h.nz x DH (by have:=h.ab;grind))) e
 . exact e
 . exact absurd e n
theorem Irr.high(h:Irr w a b)(c:b<=x):Dj w a b x=-1:=by
 have n:Dj w a b x≠1:=h.np ⟨1,DK,λs t _ _ d _ _=>Ap (by show ev [-x,1] t<=0;rw[Xw];grind)⟩;rcases h.sg3 [-x,1]with e|e|e
 . exfalso
   rcases Aj.1 c with c|c
   . refine EI.not_abv h (((h.zero.1 e).mul [-1]).ext (p:=DN (-1) [-x,1]) λy=>by rw[Jo,Jd,Jq]) ⟨x-b,DH,1,DK,λs t _ f g _ _=>?_⟩;show x-b<=ev (DN (-1) [-x,1]) s/\x-b<=ev (DN (-1) [-x,1]) t;grind[Jo,Xw]
   . exact h.cop (Ss (h.nz x (by have:=h.ab;grind) DH)) e
 . exact absurd e n
 . exact e
theorem Irr.cside(h:Irr w a b)(i:a<=x)(j:x<=b):(cw w x=cw w b+1->Dj w a b x=1)/\(cw w x=cw w b->Dj w a b x=-1):=by
 have nz:Dj w a b x≠0:=h.cop (Ss (h.nz x i j));constructor
 . intro c1;have n:Dj w a b x≠-1:=h.nn ⟨1,DK,λs t c d f _ g=>Ap (by
    show 0<=ev [-x,1] t;rw[Xw];obtain⟨k,l,m⟩:=h.neg c d f g;rcases JU x t with r|r
    . grind
    . have:=Jy h.tw h.w0 r;omega)⟩
   rcases h.sg3 [-x,1]with e|e|e
   . exact absurd e nz
   . exact e
   . exact absurd e n
 . intro o;have n:Dj w a b x≠1:=h.np ⟨1,DK,λs t c d f _ g=>An (by
    show ev [-x,1] s<=0;rw[Xw];obtain⟨k,l,m⟩:=h.neg c d f g;rcases JU s x with r|r
    . grind
    . have:=Jy h.tw h.w0 r;omega)⟩
   rcases h.sg3 [-x,1]with e|e|e
   . exact absurd e nz
   . exact absurd e n
   . exact e
theorem Irr.ends(h:Irr w a b):ev w a*ev w b<0:=by
 obtain⟨s,t,c,f,e,_,g⟩:=h.near (d:=1) DK;obtain⟨i,k,j⟩:=h.neg c (Ad f) e g;have p1:=h.same At c DH i;have l:=h.same (show a<=t by grind) e At j;grind[YS,Xf,Stb,JB,aV]
theorem Irr.mid(h:Irr w a b)(c:a<=x)(d:x<=b):(ev w x*ev w b<0->Dj w a b x=1)/\(0<ev w x*ev w b->Dj w a b x=-1):=by
 refine⟨λe=>?_,λe=>?_⟩
 . obtain⟨c1,c2,c3⟩:=h.neg c d At e;exact(h.cside c d).1 c2
 . refine(h.cside c d).2 ?_;have k:=Jy h.tw h.w0 c;have l:=Jy h.tw h.w0 d;have:=h.one;by_cases i:cw w x=cw w b
   . exact i
   . exfalso
     have hs:=h.same At c d O;have j:=h.ends;unfold Stb at hs;have f:=Ac hs e;have g:ev w a*ev w x*(ev w x*ev w b)=(ev w x*ev w x)*(ev w a*ev w b):=DH
     rw[g]at f;have:=Xn f;grind
def Irr.sid_ne(h:Irr w a b)(x:Rat):Dj w a b x=1\/Dj w a b x=-1:=by
 rcases JU x a with r|r
 . exact An (h.low r)
 . rcases JU b x with k|k
   . exact Ap (h.high k)
   . rcases YS (Xf (h.nz x r k) (h.nz b (Ad h.ab) At))with e|e
     . exact An ((h.mid r k).1 e)
     . exact Ap ((h.mid r k).2 e)
theorem Irr.sid_mono(h:Irr w a b)(f:x<=y):(Dj w a b y=1->Dj w a b x=1)/\(Dj w a b x=-1->Dj w a b y=-1):=by
 have key:Dj w a b y=1->Dj w a b x=1:=λe=>by
  obtain⟨c,c0,d⟩:=h.pos.1 e;refine h.pos.2 ⟨c,c0,d.mono λs t _ _ _ _ k=>?_⟩;grind[Xw]
 refine⟨key,λe=>?_⟩;rcases h.sid_ne y with k|k
 . have:=key k;omega
 . exact k
theorem Irr.sub(h:Irr w a b)(k:a<=c)(l:c<d)(m:d<=b)(e:ev w c*ev w d<0):Irr w c d/\∀q,Df w c d q=Df w a b q:=by
 obtain⟨n,o,p⟩:=h.neg k (Ad l) m e;refine⟨⟨h.tw,h.w0,h.sq,l,λx i j=>h.nz x DH DH,o⟩,λq=>?_⟩;obtain⟨g,hg⟩:=aS (q:=q) h.tw h.w0 h.sq;have r:=h.still (F:=λy=>DM (JE (ER w q) y)) (λf=>hg.stay f) At k DH n;have s:=h.still (F:=λy=>DM (JE (ER w q) y)) (λf=>hg.stay f) (show a<=d by grind) m At p;grind[Df]
def Lt(w:Ja)(a b:Rat)(v:Ja)(c d:Rat):Prop:=∃x,Dj w a b x=-1/\Dj v c d x=1
theorem Irr.within(h:Irr w a b)(e:Dj w a b c=1)(f:Dj w a b d=-1):Nr w a b λx z=>c<=x/\z<=d:=by
 obtain⟨k,g,hk⟩:=h.pos.1 e;obtain⟨l,j,hl⟩:=h.minus.1 f;refine(hk.and hl).mono λx z _ _ _ _ i=>?_;grind[Xw,Jo]
def Irr.near_sid(h:Irr w a b){z:Rat}(c:a<=x)(d:x<=z)(f:z<=b)(e:ev w x*ev w z<0):Dj w a b x=1/\Dj w a b z=-1:=by
 obtain⟨i,j,g⟩:=h.neg c d f e;exact⟨(h.cside c (AY d f)).1 O,(h.cside (AY c d) f).2 g⟩
theorem ord_lt(h:Irr w a b)(k:Irr v c d)(u:Dj w a b c=1)(y:Dj w a b d=-1):(Df w a b v=1->0<ev v d->Lt v c d w a b)/\(Df w a b v=1->ev v d<0->Lt w a b v c d)/\(Df w a b v=-1->ev v d<0->Lt v c d w a b)/\(Df w a b v=-1->0<ev v d->Lt w a b v c d):=by
 have s:=h.within u y;refine⟨λe n=>?_,λe n=>?_,λe n=>?_,λe n=>?_⟩
 . obtain⟨m,t,f⟩:=h.pos.1 e;obtain⟨x,z,g,i,j,l,⟨o,p⟩,q,r⟩:=h.some (s.and f);exact⟨x,(k.mid o DH).2 (Ac DH n),(h.near_sid g i j l).1⟩
 . obtain⟨m,t,f⟩:=h.pos.1 e;obtain⟨x,z,g,i,j,l,⟨o,p⟩,q,r⟩:=h.some (s.and f);exact⟨z,(h.near_sid g i j l).2,(k.mid DH p).1 (by have:=Ac (show 0<ev v z by grind) (show 0 < -(ev v d)by grind);grind)⟩
 . obtain⟨m,t,f⟩:=h.minus.1 e;obtain⟨x,z,g,i,j,l,⟨o,p⟩,q,r⟩:=h.some (s.and f);rw[Jo]at q r;exact⟨x,(k.mid o DH).2 (by have:=Ac (show 0 < -(ev v x)by grind) (show 0 < -(ev v d)by grind);grind),(h.near_sid g i j l).1⟩
 . obtain⟨m,t,f⟩:=h.minus.1 e;obtain⟨x,z,g,i,j,l,⟨o,p⟩,q,r⟩:=h.some (s.and f);rw[Jo]at q r;exact⟨z,(h.near_sid g i j l).2,(k.mid DH p).1 (by have:=Ac (show 0 < -(ev v z)by grind) n;grind)⟩
theorem aW(h:Irr w a b)(m:DY v)(n:Jc v=v)(e:Df w a b v=0):Nr w a b λx z=>ev v x*ev v z<0:=by
 obtain⟨g,hg,d⟩:=h.sign v;have d:Nr w a b _:=d;have c:=(JK hg.tg hg.g0 hg.dq).2;have f:v=Ji g (Jm v g):=YM n (Jt _ _) λx=>by rw[Jd];exact c x
 have k:DQ g (Jm v g):=DY.parts (by rw[<-f];exact m);refine(d.and (Nr.of_sh λl=>Ng k l)).mono λx z _ _ _ _ i=>?_;rcases i.1 with j|j|j
 . have st:=i.2.resolve_left λs=>by unfold Stb at s;have:=j.2;grind
   unfold Stb at st;have:=Ac (show 0 < -(ev g x*ev g z)by have:=j.2;grind) st;rw[c x,c z];grind
 . omega
 . omega
theorem rh(h:Irr w a b)(k:Irr v c d)(q:Dj w a b c=1)(r:Dj w a b d=-1)(e:Df w a b v=0):∀x,Dj w a b x=Dj v c d x:=by
 have n:=(aW h k.sq k.tw e).and (h.within q r);intro y;rcases h.sid_ne y with s|s
 . obtain⟨m,B,f⟩:=h.pos.1 s;obtain⟨x,z,t,g,u,A,⟨i,j,l⟩,o,p⟩:=h.some (n.and f);rw[Xw]at o;rw[s];exact((k.sid_mono DH).1 (k.near_sid j g l i).1).symm
 . obtain⟨m,B,f⟩:=h.minus.1 s;obtain⟨x,z,t,g,u,A,⟨i,j,l⟩,o,p⟩:=h.some (n.and f);rw[Jo,Xw]at p;rw[s];exact((k.sid_mono DH).2 (k.near_sid j g l i).2).symm
end
section
variable {w:Ja} {a b x z s t m:Rat}
theorem Ih(tw:Jc w=w)(w0:w≠[])(sw:DY w)(e:cw w x=cw w z)(i:x<t)(b:t<=z):ev w t≠0:=λa=>by
 obtain⟨A,p,hA⟩:=JI x;obtain⟨C,q,hC⟩:=JI z;have f:0<=A+C:=DH
 obtain⟨d,d0,m⟩:=(KT tw w0 sw f).and (aP sw f);have g:∀y,x<=y->y<=z->Wi (A+C) y:=λy i b=>⟨by have:=hA.1;have:=hC.1;grind,by have:=hC.2;grind⟩;obtain⟨k,r,s,u⟩:=IZ d0 (show 0<t-x by grind);have c:=m (t-k) t (g _ DH DH) (g t DH b) DH DH;have n:¬Stb w (t-k) t:=λh=>by unfold Stb at h;rw[a]at h;grind
 have l:=c.2 n DH;have o:ev w (t-k)≠0:=λe=>by rw[a,e]at l;grind
 have j:J1 w (t-k) t=1:=by
  unfold J1;rw[BF ⟨o,by rw[a];grind⟩]
 have v:=Jy tw w0 (show x<=t-k by grind);have B:=Jy tw w0 b;have:=c.1;omega
theorem Lb(tw:Jc w=w)(w0:w≠[])(sw:DY w)(e:cw w x=cw w z)(f:x<=s)(hs:ev w s≠0)(a:s<=t)(u:t<=z):Stb w s t:=by
 obtain⟨A,o,hA⟩:=JI s;obtain⟨C,r,hC⟩:=JI t;have g:0<=A+C:=DH
 obtain⟨d,d0,k⟩:=KT tw w0 sw g;have b:∀y,s<=y->y<=t->Wi (A+C) y:=λy f a=>⟨by have:=hA.1;have:=hC.1;grind,by have:=hC.2;grind⟩;have nz:∀y,s<=y->y<=t->ev w y≠0:=λy i j=>by
  grind[Ih]
 have key:=MJ (F:=La w) a d0 λp q l c m n=>by
  have v:=k p q (b p l DH) (b q DH m) c n;have B:=Jy tw w0 (show x<=p by grind);have D:=Jy tw w0 c;have G:=Jy tw w0 (show q<=z by grind);grind[J1,aT,Stb]
 unfold La at key;unfold Stb;rcases YS (nz s At a)with p|p<;>rcases YS (nz t a At)with q|q
 . have:=Ac (show 0 < -(ev w s)by grind) (show 0 < -(ev w t)by grind);grind
 . grind
 . grind
 . exact Ac p q
structure Spn(w:Ja)(a b:Rat):Prop where
 tw:Jc w=w
 w0:w≠[]
 sq:DY w
 ab:a<b
 one:cw w a=cw w b+1
theorem Spn.neg(h:Spn w a b)(i:ev w a≠0)(hb:ev w b≠0):ev w a*ev w b<0:=by
 obtain⟨A,G,hA⟩:=JI a;obtain⟨C,H,hC⟩:=JI b;have v:0<=A+C:=DH
 obtain⟨d,d0,x⟩:=KT h.tw h.w0 h.sq v;have m:∀y,a<=y->y<=b->Wi (A+C) y:=λy u K=>⟨by have:=hA.1;have:=hC.1;grind,by have:=hC.2;grind⟩;refine A3 λhn=>?_;have hp:0<ev w a*ev w b:=(YS (Xf i hb)).resolve_left hn;have:=MJ (F:=cw w) (Ad h.ab) (show 0<d/2 by grind) λs t hs z l M=>by
  refine A3 λN=>?_;have S:=Jy h.tw h.w0 hs;have T:=Jy h.tw h.w0 z;have U:=Jy h.tw h.w0 l;have u:=h.one;have cs:cw w a=cw w s:=O
  have n:cw w t=cw w b:=O
  obtain⟨c,o,f,p,g⟩:∃c,t<=c/\c<=b/\c-s<=d/\ev w c≠0:=by
   by_cases I:ev w t=0
   . have e:t<b:=by
      rcases Aj.1 l with r|r
      . exact r
      . grind
     obtain⟨k,P,Q,R⟩:=IZ (show 0<d/2 by grind) (show 0<b-t by grind);exact⟨t+k,DH,DH,DH,Ih h.tw h.w0 h.sq n (show t<t+k by grind) DH⟩
   grind
  have c2:cw w c=cw w b:=by
   have:=Jy h.tw h.w0 o;have:=Jy h.tw h.w0 f;omega
  have L:=x s c (m s hs DH) (m c DH f) DH p;have p1:=Lb h.tw h.w0 h.sq cs At i hs At;have D:=Lb h.tw h.w0 h.sq c2 At g f At;obtain⟨_,B⟩:=JB p1;have j:J1 w s c=1:=O
  unfold J1 at j;have hle:ev w s*ev w c<=0:=by
   refine CN.1 λe=>?_;rw[BE λq=>by have:=q.2;grind]at j;cases j
  have e:ev w s*ev w c<0:=(YS (Xf B g)).resolve_right DH;have q1:0<ev w b*ev w b:=(YS (Xf hb hb)).resolve_left (by have:=Xr (ev w b);grind);exact aV hp q1 p1 D e
 have:=h.one;omega
theorem Spn.cut(h:Spn w a b)(d:a<m)(c:m<b):((ev w m=0\/0<ev w m*ev w b)->Spn w a m)/\(ev w m≠0->(ev w b=0\/ev w m*ev w b<0)->Spn w m b):=by
 have i:=Jy h.tw h.w0 (Ad d);have j:=Jy h.tw h.w0 (Ad c);have g:=h.one;by_cases e:cw w m=cw w b
 . refine⟨λ_=>⟨h.tw,h.w0,h.sq,d,O⟩,λn k=>?_⟩;exfalso
   have nb:=Ih h.tw h.w0 h.sq e c At;have:=Lb h.tw h.w0 h.sq e At n (Ad c) At;grind[Stb]
 . have f:cw w a=cw w m:=O
   have n:=Ih h.tw h.w0 h.sq f d At;have hs:Spn w m b:=⟨h.tw,h.w0,h.sq,c,O⟩;refine⟨λk=>?_,λ_ _=>hs⟩;exfalso
   rcases k with k|k
   . exact n k
   . obtain⟨_,nb⟩:=JB k;have:=hs.neg n nb;grind
theorem Spn.irr(h:Spn w a b)(c:ev w a≠0)(hn:∀x,a<x->x<=b->ev w x≠0):Irr w a b:=⟨h.tw,h.w0,h.sq,h.ab,λx i j=>by
 grind,h.one⟩
theorem Spn.rat(h:Spn w a b)(m:a<x)(n:x<=b)(e:ev w x=0):∀y,a<y->y<=b->ev w y=0->y=x:=λy i j k=>by
 have key:∀u v,a<u->u<v->v<=b->ev w u=0->ev w v=0->False:=λu v c d f g l=>by
  have c1:cw w u≠cw w b:=λe=>Ih h.tw h.w0 h.sq e d f l;have c2:cw w a≠cw w u:=λe=>Ih h.tw h.w0 h.sq e c At g;have o:=Jy h.tw h.w0 (Ad c);have p:=Jy h.tw h.w0 (show u<=b by grind);have:=h.one;omega
 grind
end
section
def hZ(n d:Int):List Int->Int
 |[]=>0
 |c::p=>c*d^p.length+n*hZ n d p
variable{L k:Int}{K:Nat}
theorem PU(x:Rat):∀zs:List Int,zs≠[]->((x.den:Int):Rat)^(zs.length-1)*ev (zs.map λz:Int=>(z:Rat)) x=(hZ x.num (x.den:Int) zs:Rat):=by
 have g:((x.den:Int):Rat)*x=(x.num:Rat):=by
  have h:=Ci x;have f:((x.den:Int):Rat)≠0:=by have:=x.den_nz;exact_mod_cast this
  have e:x=(x.num:Rat)/((x.den:Int):Rat):=by rw[<-AC];exact h.symm
  have b:=Ar (a:=(x.num:Rat)) f;rw[<-e]at b;rw[Ch];exact b
 intro zs;induction zs with
 |nil=>intro h;exact absurd J h
 |cons c p d=>
  intro _;match p,d with
  |[],_=>simp[hZ,ev];grind
  |c2::p,d=>
   rw[hZ,C5,Iq];grind
theorem ri(n d:Int):∀(zs:List Int) (h:zs≠[]),∃q,hZ n d zs=d*q+zs.getLast h*n^(zs.length-1):=by
 intro zs;induction zs with
 |nil=>intro h;exact absurd J h
 |cons c p b=>
  intro a;match p,b,a with
  |[],_,_=>exact⟨0,by simp[hZ]⟩
  |c2::p,b,a=>
   have hg:(c::c2::p).getLast a=(c2::p).getLast DI:=List.getLast_cons DI;obtain⟨q,hq⟩:=b DI;refine⟨c*d^p.length+n*q,?_⟩;grind[hZ]
theorem PV{zs:List Int}(h:zs≠[]){x:Rat}(e:ev (zs.map λz:Int=>(z:Rat)) x=0):(x.den:Int)∣zs.getLast h:=by
 have a:=PU x zs h;rw[e,F2]at a;have b:hZ x.num (x.den:Int) zs=0:=by exact_mod_cast a.symm
 obtain⟨q,hq⟩:=ri x.num (x.den:Int) zs h;rw[b]at hq;have c:(x.den:Int)∣zs.getLast h*x.num^(zs.length-1):=⟨-q,by rw[Int.mul_neg];omega⟩;have d:x.den∣(zs.getLast h).natAbs*x.num.natAbs^(zs.length-1):=by
  have:=Cl.2 c;rwa[Cx,Int.natAbs_pow,AR]at this
 have f:Nat.Coprime x.den (x.num.natAbs^(zs.length-1)):=(x.reduced.symm).pow_right _;have g:=f.dvd_of_dvd_mul_right d;grind[Cl,AR]
def Wh.ints{p:Ja}(h:Wh K p):∃zs:List Int,p=zs.map (λz:Int=>(z:Rat)):=by
 induction p with
 |nil=>exact⟨[],J⟩
 |cons c p d=>
  obtain⟨zs,e⟩:=d (λi=>by obtain⟨z,b,a⟩:=h (i+1);exact⟨z,b,by rw[<-a];rfl⟩);obtain⟨z,_,a⟩:=h 0;exact⟨z::zs,by rw[C5,<-e,<-a];rfl⟩
def JZ(x:Rat)(L:Int):Int:=x.num*L/(x.den:Int)
theorem Nk{x:Rat}:k<=JZ x L↔(k:Rat)<=x*(L:Rat):=by
 have b:(0:Int)<(x.den:Int):=by have:=x.den_nz;omega
 have g:x*((x.den:Int):Rat)=(x.num:Rat):=by
  have h:=Ci x;have b:((x.den:Int):Rat)≠0:=by have:=x.den_nz;exact_mod_cast this
  have d:x=(x.num:Rat)/((x.den:Int):Rat):=by rw[<-AC];exact h.symm
  have f:=Ar (a:=(x.num:Rat)) b;rw[<-d]at f;exact f
 have c:(0:Rat)<((x.den:Int):Rat):=by exact_mod_cast b
 unfold JZ;rw[Int.le_ediv_iff_mul_le b,<-CA,AD,AD,<-g];have e:x*((x.den:Int):Rat)*(L:Rat)=x*(L:Rat)*((x.den:Int):Rat):=DH
 rw[e];constructor
 . intro h;refine CN.1 λd=>?_;have:=Ac (show 0<(k:Rat)-x*(L:Rat)by grind) c;grind
 . intro h;have:=Ah (show 0<=x*(L:Rat)-(k:Rat)by grind) (Ad c);grind
theorem rj{a b x:Rat}(e:0<L)(d:x*(L:Rat)=(k:Rat))(f:a<x)(g:x<=b)(i:JZ b L-JZ a L<=1):k=JZ b L:=by
 have c:(0:Rat)<(L:Rat):=by exact_mod_cast e
 have j:k<=JZ b L:=Nk.2 (by rw[<-d];have:=Ah (show 0<=b-x by grind) (Ad c);grind);have l:¬k<=JZ a L:=λh=>by
  have:=Nk.1 h;rw[<-d]at this;have:=Ac (show 0<x-a by grind) c;grind
 omega
theorem rm{w:Ja}(j:Wh K w)(w0:w≠[])(i:cf w (w.length-1)=(L:Rat)){x:Rat}(e:ev w x=0):∃k:Int,x*(L:Rat)=(k:Rat):=by
 obtain⟨zs,c⟩:=j.ints;have z0:zs≠[]:=λh=>w0 (by rw[c,h];rfl);have hl:zs.getLast z0=L:=by
  have d:cf w (w.length-1)=((zs.getLast z0:Int):Rat):=by
   rw[c];unfold cf;rw[CK,C3,<-List.getLast?_eq_getElem?,List.getLast?_eq_some_getLast z0];rfl
  rw[i]at d;exact_mod_cast d.symm
 have b:=PV z0 (x:=x) (by rw[<-c];exact e);rw[hl]at b;obtain⟨q,hq⟩:=b;refine⟨x.num*q,?_⟩;have l:x*((x.den:Int):Rat)=(x.num:Rat):=by
  have h:=Ci x;have b:((x.den:Int):Rat)≠0:=by have:=x.den_nz;exact_mod_cast this
  have g:x=(x.num:Rat)/((x.den:Int):Rat):=by rw[<-AC];exact h.symm
  have f:=Ar (a:=(x.num:Rat)) b;rw[<-g]at f;exact f
 rw[hq,AD,AD,<-l];grind
def Dc(a b:Rat):Rat:=(a+b)/2
theorem Hj{a b:Rat}(h:a<b):a<Dc a b/\Dc a b<b/\Dc a b-a=(b-a)/2/\b-Dc a b=(b-a)/2:=by
 unfold Dc;grind
def Dm(w:Ja):Nat->Rat->Rat->List (Rat × Rat)
 |0,a,b=>if cw w a<=cw w b then []else [(a,b)]
 |k+1,a,b=>if cw w a<=cw w b then []else if cw w a=cw w b+1 then [(a,b)]else Dm w k a (Dc a b)++Dm w k (Dc a b) b
def Ew(w:Ja)(H D:Rat):Prop:=∀x z,Wi H x->Wi H z->x<=z->cw w z+2<=cw w x->1<=D*(z-x)
theorem Y5(k:Nat):(0:Rat)<2^k:=by
 induction k with
 |zero=>grind
 |succ k a=>rw[AO];grind
theorem Wi.between{H a b x:Rat}(c:Wi H a)(hb:Wi H b)(d:a<=x)(e:x<=b):Wi H x:=⟨by have:=c.1;grind,by have:=hb.2;grind⟩
section
variable {w:Ja} {H D:Rat} (tw:Jc w=w) (w0:w≠[]) (sw:DY w) (hA:Ew w H D)
theorem aX(tw:Jc w=w)(w0:w≠[])(hA:Ew w H D):∀(k:Nat) (a b:Rat),Wi H a->Wi H b->a<b->D*(b-a)<2^k->(Dm w k a b).length=cw w a-cw w b:=by
 intro k;induction k with
 |zero=>
  intro a b c hb d f;rw[CQ]at f;rw[Dm];have m:=Jy tw w0 (Ad d);by_cases h:cw w a<=cw w b
  . grind
  . rw[BE h];by_cases e:cw w b+2<=cw w a
    . have:=hA a b c hb (Ad d) e;grind
    grind
 |succ k l=>
  intro a b c hb d f;obtain⟨g,i,n,o⟩:=Hj d;have j:=c.between hb (Ad g) (Ad i);rw[AO]at f;have c1:=Jy tw w0 (Ad g);have c2:=Jy tw w0 (Ad i);rw[Dm];by_cases h:cw w a<=cw w b
  . grind
  . rw[BE h];by_cases e:cw w a=cw w b+1
    . grind
    . rw[BE e,AM,l a _ c j g (by rw[n];grind),l _ b j hb i (by rw[o];grind)];omega
theorem Su(tw:Jc w=w)(w0:w≠[])(sw:DY w)(hA:Ew w H D):∀(k:Nat) (a b:Rat),Wi H a->Wi H b->a<b->D*(b-a)<2^k->∀s∈Dm w k a b,Spn w s.1 s.2/\a<=s.1/\s.2<=b:=by
 intro k;induction k with
 |zero=>
  intro a b e hb c f s hs;rw[CQ]at f;rw[Dm]at hs;by_cases h:cw w a<=cw w b
  . grind
  . rw[BE h,List.mem_singleton]at hs;subst hs;refine⟨⟨tw,w0,sw,c,?_⟩,At,At⟩;by_cases d:cw w b+2<=cw w a
    . have:=hA a b e hb (Ad c) d;grind
    grind
 |succ k l=>
  intro a b e hb c f s hs;obtain⟨g,i,m,n⟩:=Hj c;have j:=e.between hb (Ad g) (Ad i);rw[AO]at f;rw[Dm]at hs;by_cases h:cw w a<=cw w b
  . grind
  . rw[BE h]at hs;by_cases d:cw w a=cw w b+1
    . rw[BF d,List.mem_singleton]at hs;subst hs;exact⟨⟨tw,w0,sw,c,d⟩,At,At⟩
    grind
theorem rn(tw:Jc w=w)(w0:w≠[])(sw:DY w)(hA:Ew w H D):∀(k:Nat) (a b:Rat),Wi H a->Wi H b->a<b->D*(b-a)<2^k->(Dm w k a b).Pairwise λs t=>s.2<=t.1:=by
 intro k;induction k with
 |zero=>
  intro a b _ _ _ _;rw[Dm];split
  . exact FU
  grind
 |succ k g=>
  intro a b d hb n o;obtain⟨e,f,l,m⟩:=Hj n;have c:=d.between hb (Ad e) (Ad f);rw[AO]at o;rw[Dm];split
  . exact FU
  . split
    . grind
    . refine FX.2 ⟨g a _ d c e (by rw[l];grind),g _ b c hb f (by rw[m];grind),λs hs t p=>?_⟩;have i:=(Su tw w0 sw hA k a _ d c e (by rw[l];grind) s hs).2.2;have j:=(Su tw w0 sw hA k _ b c hb f (by rw[m];grind) t p).2.1;grind
end
def rp{K:Nat}{w:Ja}(tw:Jc w=w)(sw:DY w)(g:Wh K w)(hs:Wh K (Jb w))(hl:3<=w.length)(m:w.length<=100){H:Rat}(b:0<=H):∃u v:Ja,Wh ((K+1)*(w.length+(Jb w).length)) u/\Wh ((K+1)*(w.length+(Jb w).length)) v/\u.length<=w.length/\v.length<=w.length/\Ew w H (Gw H u*Ep H w+Gw H v*Ep H (Jb w)):=by
 have w0:w≠[]:=λe=>by rw[e]at hl;simp at hl
 have l1:=Y8 w0;have l2:2<=(Jb w).length:=by
  have h:=Jp tw w0;have e:cf (Jb w) (w.length-2)≠0:=by
   rw[XQ,show w.length-2+1=w.length-1 by omega];exact Xf h (by have:((w.length-1:Nat):Int)≠0:=(by omega);exact_mod_cast this)
  have:=R6 e;omega
 obtain⟨u,v,c,f,hv,d,n,l,e⟩:=re tw (Jv w) g hs O O l2 sw;exact⟨u,v,f,hv,O,l,λx z i k j a=>sep tw O d e b i k j a⟩
end
section
def E5(w:Ja)(a b m:Rat):Rat × Rat:=if ev w m=0\/0<ev w m*ev w b then(a,m)else(m,b)
variable{L:Int}
theorem aY{w:Ja}{a b m:Rat}(h:Spn w a b)(d:a<m)(f:m<b):Spn w (E5 w a b m).1 (E5 w a b m).2/\a<=(E5 w a b m).1/\(E5 w a b m).2<=b/\((E5 w a b m).1=a\/ev w (E5 w a b m).1≠0):=by
 unfold E5;by_cases c:ev w m=0\/0<ev w m*ev w b
 . rw[BF c];exact⟨(h.cut d f).1 c,At,Ad f,An J⟩
 . rw[BE c];have n:ev w m≠0:=λe=>c (An e);refine⟨(h.cut d f).2 n ?_,Ad d,At,Ap n⟩;grind[Xf]
theorem ru{w:Ja}{a b:Rat}(h:a<b):(E5 w a b (Dc a b)).2-(E5 w a b (Dc a b)).1=(b-a)/2:=by
 grind[Hj,E5]
def Ii(w:Ja)(L:Int):Nat->Rat->Rat->Rat × Rat
 |0,a,b=>(a,b)
 |k+1,a,b=>if 1<JZ b L-JZ a L\/ev w a=0 then Ii w L k (E5 w a b (Dc a b)).1 (E5 w a b (Dc a b)).2 else(a,b)
theorem rx{a b:Rat}(h:(L:Rat)*(b-a)<1):JZ b L-JZ a L<=1:=by
 have e:=Nk.1 (Int.le_refl (JZ b L));have c:¬JZ a L+1<=JZ a L:=O
 have f:a*(L:Rat)<((JZ a L+1:Int):Rat):=Rat.not_le.1 λh=>c (Nk.2 h);have d:((JZ b L:Int):Rat)<((JZ a L+2:Int):Rat):=by
  rw[show JZ a L+2=(JZ a L+1)+1 by omega,FC (JZ a L+1) 1]
  have:((1:Int):Rat)=1:=rfl
  grind
 have:JZ b L<JZ a L+2:=Fd.1 d
 omega
theorem ry{w:Ja}{H D a b:Rat}(hA:Ew w H D)(hD:0<=D)(h:Spn w a b)(c:ev w a=0)(f:-H<a)(hb:Wi H b):1<=D*(b-a):=by
 refine CN.1 λhn=>?_;obtain⟨k,o,p,q⟩:=IZ (show 0<a+H by grind) (show 0<(1-D*(b-a))/(D+1)from Ym DH DH);have g:=h.ab;have d:Wi H (a-k):=⟨DH,by have:=hb.2;grind⟩;have l:cw w (a-k)≠cw w a:=λe=>Ih h.tw h.w0 h.sq e (show a-k<a by grind) At c;have m:=Jy h.tw h.w0 (show a-k<=a by grind);have n:=h.one;have i:=hA (a-k) b d hb DH O;have e:(1-D*(b-a))/(D+1)*(D+1)=1-D*(b-a):=Ar DH;have j:=Ah (a:=(1-D*(b-a))/(D+1)-k) (b:=D+1) DH DH;grind
structure Stld(w:Ja)(L:Int)(a b:Rat):Prop where
 spn:Spn w a b
 one:JZ b L-JZ a L<=1
 low:ev w a≠0
theorem sC{w:Ja}{H D:Rat}(hA:Ew w H D)(hD:0<=D):∀(k:Nat) (a b:Rat),Spn w a b->-H<a->Wi H b->D*(b-a)<2^k->(L:Rat)*(b-a)<2^k->Stld w L (Ii w L k a b).1 (Ii w L k a b).2/\a<=(Ii w L k a b).1/\(Ii w L k a b).2<=b:=by
 intro k;induction k with
 |zero=>
  intro a b h g hb f c;rw[CQ]at f c;refine⟨⟨h,rx c,λe=>?_⟩,At,At⟩;have:=ry hA hD h e g hb;grind
 |succ k j=>
  intro a b h g hb f c;rw[AO]at f c;rw[Ii];by_cases d:1<JZ b L-JZ a L\/ev w a=0
  . rw[BF d];obtain⟨l,m,_,_⟩:=Hj h.ab;grind[aY,ru,Wi]
  . rw[BE d];have i:JZ b L-JZ a L<=1:=by have:=λq=>d (An q);omega
    exact⟨⟨h,i,λe=>d (Ap e)⟩,At,At⟩
theorem Stld.fin{K:Nat}{w:Ja}{a b:Rat}(h:Stld w L a b)(o:Wh K w)(n:cf w (w.length-1)=(L:Rat))(c:0<L):
 (a<yB (JZ b L) L->ev w (yB (JZ b L) L)=0->yB (JZ b L) L<=b/\∀y,a<y->y<=b->ev w y=0->y=yB (JZ b L) L)/\
 (¬(a<yB (JZ b L) L/\ev w (yB (JZ b L) L)=0)->Irr w a b):=by
 have g:(0:Rat)<(L:Rat):=by exact_mod_cast c
 obtain⟨x,d⟩:=ex (yB (JZ b L) L);have ex:x*(L:Rat)=((JZ b L:Int):Rat):=by
  rw[<-d,AC];exact Ar DH
 have f:x<=b:=by
  have:=Nk.1 (Int.le_refl (JZ b L));rw[<-ex]at this;refine CN.1 λk=>?_;have:=Ac (show 0<x-b by grind) g;grind
 rw[d];refine⟨λl m=>⟨f,h.spn.rat l f m⟩,λhn=>h.spn.irr h.low λy i j e=>?_⟩;obtain⟨k,hk⟩:=rm o h.spn.w0 n e;have p:=rj c hk i j h.one;grind[CL]
section
variable {w q p r g u:Ja} {a b x z:Rat}
theorem Eo.add_sml(h:Eo w a b q)(hs:EI w a b p):Eo w a b (XI q p):=by
 obtain⟨c,c0,d⟩:=h;refine⟨c/2,DH,(d.and (hs (c/2) DH)).mono λx z _ _ _ _ i=>?_⟩;rw[Yi,Yi];have e:=i.2.1.1;have f:=i.2.2.1;constructor<;>grind
def EI.add(h:EI w a b q)(hs:EI w a b p):EI w a b (XI q p):=λe c=>by
 refine((h (e/2) DH).and (hs (e/2) DH)).mono λx z _ _ _ _ i=>?_;rw[Yi,Yi];exact⟨(i.1.1.add i.2.1).mono DH,(i.1.2.add i.2.2).mono DH⟩
theorem Irr.add_sml(h:Irr w a b)(hs:EI w a b p):Df w a b (XI q p)=Df w a b q:=by
 rcases h.val q with⟨c,d⟩|⟨c,d⟩|⟨c,d⟩
 . rw[c];exact h.zero.2 (d.add hs)
 . rw[c];exact h.pos.2 (d.add_sml hs)
 . rw[c];refine h.minus.2 ((d.add_sml ((hs.mul [-1]).ext (p:=DN (-1) p) λx=>?_)).ext λx=>?_)
   . rw[Jo,Jd,Jq]
   grind[Jo,Yi]
def Irr.slope(h:Irr w a b)(r:Ja):Df w a b (Jb (Ji w r))=Df w a b (Jb w)*Df w a b r:=by
 rw[Tp,h.add_sml (PT.mul (Jb r)),h.mul]
def Irr.slope_ne(h:Irr w a b):Df w a b (Jb w)≠0:=h.cop h.sq
theorem Irr.times(h:Irr w a b){c:Ja}{i:Nat}(l:DQ w c)(hp:∀x,ev p x=ev w x*(ev w x^i*ev c x))(tp:Jc p=p):Df w a b (Jb p)=0↔1<=i:=by
 obtain⟨r,d⟩:∃r:Ja,∀x,ev r x=ev w x^i*ev c x:=by
  clear hp tp l;induction i with
  |zero=>exact⟨c,λx=>by grind⟩
  |succ i g=>
   obtain⟨r,d⟩:=g;exact⟨Ji w r,λx=>by rw[Jd,d,AO];grind⟩
 have e:p=Ji w r:=YM tp (Jt _ _) λx=>by rw[Jd,d,hp]
 rw[e,h.slope];constructor
 . intro k;rcases A5 i with f|f
   . exfalso
     rcases Int.mul_eq_zero.1 k with k|k
     . exact h.slope_ne k
     . refine h.cop l ((h.ext λx=>?_).symm.trans k);rw[d,f,CQ,FG]
   . exact f
 . intro k;obtain⟨j,rfl⟩:∃j,i=j+1:=⟨i-1,O⟩
   have:EI w a b r:=by
    obtain⟨s,hs⟩:∃s:Ja,∀x,ev s x=ev w x^j*ev c x:=by
     clear d hp;clear k e;induction j with
     |zero=>exact⟨c,λx=>by grind⟩
     |succ i g=>
      obtain⟨r,d⟩:=g;exact⟨Ji w r,λx=>by rw[Jd,d,AO];grind⟩
    exact(PT.mul s).ext λx=>by rw[Jd,hs,d,AO];grind
   rw[h.zero.2 this,F0]
def Sv(tg:Jc g=g)(g0:g≠[])(f:Jc u=u)(u0:u≠[])(sg:DY g)(e:DY u)(d:DQ g u)(j:a<=b):cw (Ji g u) a+(cw g b+cw u b)=cw (Ji g u) b+(cw g a+cw u a):=by
 obtain⟨A,k,hA⟩:=JI a;obtain⟨C,l,hC⟩:=JI b;have c:0<=A+C:=DH
 have s:=(((KT (Jt g u) (YX tg f g0 u0) (sg.mul e d) c).and (KT tg g0 sg c)).and (KT f u0 e c)).and (Nc d c);exact glue (B:=A+C) (F:=cw (Ji g u)) (G:=λx=>cw g x+cw u x) (s.mono λx z _ _ _ i=>by
  omega) (hA.mono DH) (hC.mono DH) j
theorem Irr.factor(h:Irr w a b)(tg:Jc g=g)(g0:g≠[])(o:Dv g w):(Df w a b g=0/\cw g a=cw g b+1)\/(Df w a b g≠0/\cw g a=cw g b):=by
 have n:=(JK tg g0 o).2;have p:Jc (Jm w g)=Jm w g:=YE _ _;have ew:w=Ji g (Jm w g):=YM h.tw (Jt _ _) λx=>by rw[Jd];exact n x
 have u0:Jm w g≠[]:=λe=>h.w0 (by rw[ew,e,YK]);have sw:DY (Ji g (Jm w g)):=by rw[<-ew];exact h.sq
 have sg:DY g:=h.sq.of_dv h.tw o;have t:DY (Jm w g):=h.sq.of_dv h.tw ⟨g,λx=>by rw[n x,Ch]⟩;have H:=sw.parts;have q:=Ad h.ab;have k:=Sv tg g0 p u0 sg t H q;rw[<-ew]at k;have K:=Jy tg g0 q;have L:=Jy p u0 q;have I:=h.one;have u:∀y,a<=y->y<=b->ev g y≠0:=λy i j e=>h.nz y i j DH;have v:∀y,a<=y->y<=b->ev (Jm w g) y≠0:=λy i j e=>h.nz y i j DH;by_cases hg:cw g a=cw g b
 . refine Ap ⟨λe=>?_,hg⟩;obtain⟨x,z,f,l,m,_,D⟩:=h.some (aW h sg tg e);have:=Lb tg g0 sg hg f (u x f DH) l m;unfold Stb at this;grind
 . have B:cw g a=cw g b+1:=O
   have A:cw (Jm w g) a=cw (Jm w g) b:=O
   refine An ⟨?_,B⟩;have hi:Irr g a b:=⟨tg,g0,sg,h.ab,u,B⟩;rcases h.val g with⟨G,_⟩|⟨_,c,c0,d,d0,o⟩|⟨_,c,c0,d,d0,o⟩
   . exact G
   . exfalso
     obtain⟨x,z,f,l,m,s,D⟩:=hi.near d0;have st:=Lb p u0 t A f (v x f DH) (Ad l) m;unfold Stb at st;have r:ev w x*ev w z<0:=by
      rw[n x,n z];have:=Ac (show 0 < -(ev g x*ev g z)by grind) st;grind
     have j:=o x z f (Ad l) m s r;have:=Ac (show 0<ev g x by have:=j.1;grind) (show 0<ev g z by have:=j.2;grind);grind
   . exfalso
     obtain⟨x,z,f,l,m,s,D⟩:=hi.near d0;have st:=Lb p u0 t A f (v x f DH) (Ad l) m;unfold Stb at st;have r:ev w x*ev w z<0:=by
      rw[n x,n z];have:=Ac (show 0 < -(ev g x*ev g z)by grind) st;grind
     have j:c<=ev (DN (-1) g) x/\c<=ev (DN (-1) g) z:=o x z f (Ad l) m s r;rw[Jo,Jo]at j;have:=Ac (show 0 < -(ev g x)by have:=j.1;grind) (show 0 < -(ev g z)by have:=j.2;grind);grind
theorem Irr.gcd(h:Irr w a b)(tq:Jc q=q):Df w a b q=0↔cw (Ju w q) a=cw (Ju w q) b+1:=by
 have tg:=JF w q;have g0:=Yf h.tw tq (An h.w0);obtain⟨d1,m,_⟩:=Ye h.tw tq;obtain⟨g,hg,d⟩:=h.sign q;have d:Nr w a b _:=d;have l:Dv g (Ju w q):=Kt h.tw tq hg.dw hg.dq;have key:Df w a b q=0↔Df w a b (Ju w q)=0:=by
  constructor
  . intro e;obtain⟨c,f⟩:=l;refine h.zero.2 (EI.ext (q:=Ji g c) (EI.mul (λk hk=>(d.and (Nr.of_sh λn=>Xq g n hk)).mono λx z _ _ _ _ i=>i.2 λo=>?_) c) λx=>by rw[Jd];exact f x);rcases i.1 with j|j|j
    . unfold Stb at o;have:=j.2;grind
    . omega
    . omega
  . intro e;obtain⟨c,f⟩:=m;exact h.zero.2 (((h.zero.1 e).mul c).ext λx=>by rw[Jd];exact f x)
 rw[key];rcases h.factor tg g0 d1 with⟨p,r⟩|⟨p,r⟩
 . omega
 omega
end
end
section
variable {w:Ja} {x z:Rat}
theorem sF(tw:Jc w=w)(w0:w≠[])(sw:DY w)(l:x<=z)(H:ev w z≠0)(j:cw w x≠cw w z):∃s t,x<=s/\s<t/\t<=z/\ev w s≠0/\ev w t≠0/\cw w s=cw w t+1:=by
 obtain⟨A,n,hA⟩:=JI x;obtain⟨C,o,hC⟩:=JI z;have i:0<=A+C:=DH
 obtain⟨d,d0,c⟩:=KT tw w0 sw i;have a:∀y,x<=y->y<=z->Wi (A+C) y:=λy q u=>⟨by have:=hA.1;have:=hC.1;grind,by have:=hC.2;grind⟩;refine A3 λhn=>j ?_;refine MJ (F:=cw w) l (show 0<d/2 by grind) λs t hs f g B=>?_;refine A3 λG=>?_;have b:cw w s=cw w t+J1 w s t:=c s t (a s hs DH) (a t DH g) f DH;have m:ev w s≠0:=λe=>by
  unfold J1 at b;grind
 have one:cw w s=cw w t+1:=by
  unfold J1 at b;split at b<;>omega
 have lt:s<t:=by
  rcases Aj.1 f with r|r
  . exact r
  . rw[r]at one;omega
 by_cases p:ev w t=0
 . have D:t<z:=by
    rcases Aj.1 g with r|r
    . exact r
    . grind
   obtain⟨k,I,K,L⟩:=IZ (show 0<d/2 by grind) (show 0<z-t by grind);have v:cw w s=cw w (t+k)+J1 w s (t+k):=c s (t+k) (a s hs DH) (a _ DH DH) DH DH;have N:=Jy tw w0 (show t<=t+k by grind);have M:J1 w s (t+k)<=1:=by unfold J1;split<;>omega
   have e:cw w t=cw w (t+k):=O
   exact hn ⟨s,t+k,hs,DH,DH,m,Ih tw w0 sw e (show t<t+k by grind) At,O⟩
 grind
theorem aZ(tw:Jc w=w)(w0:w≠[])(sw:DY w):∀(n:Nat) (x z:Rat),x<=z->ev w x≠0->ev w z≠0->cw w x=cw w z+n->(n%2=0->0<ev w x*ev w z)/\(n%2=1->ev w x*ev w z<0):=by
 intro n;induction n using Nat.strongRecOn with
 |_ n q=>
  intro x z o m p v;rcases A5 n with n0|n0
  . subst n0;have:=Lb tw w0 sw (show cw w x=cw w z by omega) At m o At;exact⟨λ_=>this,λh=>by omega⟩
  . obtain⟨s,t,k,u,l,f,g,e⟩:=sF tw w0 sw o p O;have y:=Jy tw w0 k;have A:=Jy tw w0 l;have B:=(Spn.mk tw w0 sw u e).neg f g;obtain⟨p1,r⟩:=q (cw w x-cw w s) O x s k m f O;obtain⟨q1,q2⟩:=q (cw w t-cw w z) O t z l g p O;have key:(ev w s*ev w t)*(ev w s*ev w t)*(ev w x*ev w z)=(ev w x*ev w s)*(ev w s*ev w t)*(ev w t*ev w z):=DH
    have Q:0<(ev w s*ev w t)*(ev w s*ev w t):=(YS (Xf (Xf f g) (Xf f g))).resolve_left (by have:=Xr (ev w s*ev w t);grind);generalize ev w s*ev w t=b at *;generalize ev w x*ev w s=i at *;generalize ev w t*ev w z=j at *;rcases CU (cw w x-cw w s)with r1|r1<;>rcases CU (cw w t-cw w z)with d|d
    . have a:=p1 r1;have c:=q1 d;have:=Ac (Ac a (show 0 < -b by grind)) c;exact⟨λh=>by omega,λ_=>XS Q (by rw[key];grind)⟩
    . have a:=p1 r1;have c:=q2 d;have:=Ac (Ac a (show 0 < -b by grind)) (show 0 < -j by grind);grind[YR]
    . have a:=r r1;have c:=q1 d;have:=Ac (Ac (show 0 < -i by grind) (show 0 < -b by grind)) c;grind[YR]
    . have a:=r r1;have c:=q2 d;have:=Ac (Ac (show 0 < -i by grind) (show 0 < -b by grind)) (show 0 < -j by grind);exact⟨λh=>by omega,λ_=>XS Q (by rw[key];grind)⟩
theorem ag(n:Nat):(n%2=0->(-1:Rat)^n=1)/\(n%2=1->(-1:Rat)^n=-1):=by
 induction n with
 |zero=>grind
 |succ n a=>
  grind
theorem sG(tw:Jc w=w)(w0:w≠[])(sw:DY w):DM (Em (Js w))<=DM (D7 (Js w))/\(DM (D7 (Js w))-DM (Em (Js w)))%2=(w.length-1)%2:=by
 obtain⟨B1,n,j,hD⟩:=YI (J3 tw w0);obtain⟨B2,o,g⟩:=QB tw w0;obtain⟨B3,p,i⟩:=Tv tw w0;obtain⟨X,hX⟩:=ex (B1+B2+B3);have u:=j X DH;have d:=hD (-X) DH;have b:=g X DH;have c:=i (-X) DH;have m:=Jy tw w0 (show -X<=X by grind);unfold cw at m;rw[u,d]at m;refine⟨m,?_⟩;obtain⟨_,k⟩:=JB b;obtain⟨_,l⟩:=JB c;obtain⟨p1,q⟩:=aZ tw w0 sw (DM (D7 (Js w))-DM (Em (Js w))) (-X) X DH l k (by unfold cw;rw[u,d];omega);have e:=Ac b c;have f:cf w (w.length-1)*ev w X*((-1)^(w.length-1)*cf w (w.length-1)*ev w (-X))=(cf w (w.length-1)*cf w (w.length-1))*((-1)^(w.length-1)*(ev w (-X)*ev w X)):=DH
 rw[f]at e;have a:=Xn e;rcases CU (w.length-1)with r|r
 . rw[(ag _).1 r,FG]at a;grind
 . rw[(ag _).2 r]at a;grind
end
section
def EW:List (Ja × Nat)->Ja
 |[]=>[1]
 |s::L=>Ji s.1 (EW L)
structure PtsOk(L:List (Ja × Nat)):Prop where
 all:∀s∈L,Jc s.1=s.1/\s.1≠[]/\DY s.1/\1<=s.2
 cop:L.Pairwise λa b=>DQ a.1 b.1
variable{L:List (Ja × Nat)}{T:Rat->Int}
def PtsOk.tail{s:Ja × Nat}(h:PtsOk (s::L)):PtsOk L:=⟨λt a=>h.all t (AP _ a),(CT.1 h.cop).2⟩
theorem I1(L:List (Ja × Nat)):Jc (EW L)=EW L:=by
 cases L with
 |nil=>decide +kernel
 |cons s L=>exact Jt _ _
theorem Nl(c:Ja):DQ [1] c:=⟨[1],[],λx=>by simp[ev];grind⟩
def Nm:∀(L:List (Ja × Nat)) (c:Ja),(∀s∈L,DQ s.1 c)->DQ (EW L) c:=by
 intro L c;induction L with
 |nil=>intro _;exact Nl c
 |cons s L b=>intro h;exact(h s (Au ..)).mul_left (b λt a=>h t (AP _ a))
def sH:∀(L:List (Ja × Nat)) (c:Ja),DQ (EW L) c->∀s∈L,DQ s.1 c:=by
 intro L c;induction L with
 |nil=>intro _ s hs;cases hs
 |cons s L d=>
  intro h t b;have a:DQ (Ji s.1 (EW L)) c:=h;rcases FI.1 b with r|r
  . rw[r];exact a.of_dv ((Dv.refl s.1).mul (EW L))
  . exact d (a.of_dv ((Dv.refl (EW L)).mul' s.1)) t r
def PtsOk.sqf(h:PtsOk L):DY (EW L)/\EW L≠[]:=by
 induction L with
 |nil=>exact⟨Nl _,by simp[EW]⟩
 |cons s L e=>
  obtain⟨a,b⟩:=e h.tail;obtain⟨f,g,i,_⟩:=h.all s (Au ..);have c:DQ s.1 (EW L):=(Nm L s.1 λt d=>((CT.1 h.cop).1 t d).symm).symm;exact⟨i.mul a c,YX f (I1 L) g b⟩
theorem bA{p q:Ja}(tp:Jc p=p)(p0:p≠[])(tq:Jc q=q)(q0:q≠[])(h:DQ p q):nA (Ji p q)=nA p+nA q:=by
 grind[rQ,PN,Nh]
def Hk(L:List (Ja × Nat))(f:Ja->Int):Int:=(L.map λs=>f s.1).sum
def sI(h:PtsOk L):nA (EW L)=Hk L nA:=by
 induction L with
 |nil=>exact Nh.1
 |cons s L c=>
  obtain⟨d,e,_,_⟩:=h.all s (Au ..);have a:DQ s.1 (EW L):=(Nm L s.1 λt b=>((CT.1 h.cop).1 t b).symm).symm;rw[EW,bA d e (I1 L) (h.tail.sqf).2 a,c h.tail];simp[Hk]
def sJ{p q:Ja}(tp:Jc p=p)(p0:p≠[])(tq:Jc q=q)(q0:q≠[])(h:∀c,DQ p c↔DQ q c):DL p=DL q:=by
 have a:=YQ tp p0;have b:=YQ tq q0;refine Dv.eq a.tw b.tw a.mw b.mw ?_ ?_
 . exact DY.dv b.tw a.tw a.w0 (KQ tp p0) λc k=>(XK tp p0 c).2 ((h c).2 ((XK tq q0 c).1 k))
 . exact DY.dv a.tw b.tw b.w0 (KQ tq q0) λc k=>(XK tq q0 c).2 ((h c).1 ((XK tp p0 c).1 k))
theorem bB{p q:Ja}(tp:Jc p=p)(p0:p≠[])(tq:Jc q=q)(q0:q≠[])(h:DL p=DL q):nA p=nA q:=by
 grind[qr,nA]
def sK{w c:Ja}(h:DQ w c)(i:Nat):∀r:Ja,(∀x,ev r x=ev w x^i)->DQ r c:=by
 induction i with
 |zero=>intro r a;exact(Nl c).ext (λx=>by rw[a,CQ,Jq]) λ_=>rfl
 |succ i b=>
  intro r a;obtain⟨s,hs⟩:∃s:Ja,∀x,ev s x=ev w x^i:=by
   clear b a;induction i with
   |zero=>exact⟨[1],λx=>by rw[CQ,Jq]⟩
   |succ i b=>
    obtain⟨s,hs⟩:=b;exact⟨Ji s w,λx=>by rw[Jd,hs,AO]⟩
  exact((b s hs).mul_left h).ext (λx=>by rw[Jd,hs,a,AO]) λ_=>rfl
def bC(L:List (Ja × Nat))(c:Ja)(h:∀s∈L,DQ s.1 c):∀r:Ja,(∀x,ev r x=Dk L x)->DQ r c:=by
 induction L with
 |nil=>intro r b;exact(Nl c).ext (λx=>by rw[b,Dk,Jq]) λ_=>rfl
 |cons s L a=>
  intro r b;obtain⟨u,d⟩:∃u:Ja,∀x,ev u x=ev s.1 x^s.2:=by
   induction s.2 with
   |zero=>exact⟨[1],λx=>by rw[CQ,Jq]⟩
   |succ i a=>
    obtain⟨u,hs⟩:=a;exact⟨Ji u s.1,λx=>by rw[Jd,hs,AO]⟩
  obtain⟨v,hv⟩:∃v:Ja,∀x,ev v x=Dk L x:=by
   clear a h b;induction L with
   |nil=>exact⟨[1],λx=>by rw[Dk,Jq]⟩
   |cons t L a=>
    obtain⟨v,hv⟩:=a;obtain⟨u2,f⟩:∃u:Ja,∀x,ev u x=ev t.1 x^t.2:=by
     induction t.2 with
     |zero=>exact⟨[1],λx=>by rw[CQ,Jq]⟩
     |succ i a=>
      obtain⟨u,hs⟩:=a;exact⟨Ji u t.1,λx=>by rw[Jd,hs,AO]⟩
    exact⟨Ji u2 v,λx=>by rw[Jd,f,hv,Dk]⟩
  exact((sK (h s (Au ..)) s.2 u d).mul_left (a (λt e=>h t (AP _ e)) v hv)).ext (λx=>by rw[Jd,d,hv,b,Dk]) λ_=>rfl
theorem sL{s:Ja × Nat}(hs:s∈L)(f:1<=s.2):∃c:Ja,∀x,Dk L x=ev s.1 x*ev c x:=by
 have Ox:∀(w:Ja) (i:Nat),∃u:Ja,∀x,ev u x=ev w x^i:=λw i=>by
  induction i with
  |zero=>exact⟨[1],λx=>by rw[CQ,Jq]⟩
  |succ i a=>
   obtain⟨u,hs⟩:=a;exact⟨Ji u w,λx=>by rw[Jd,hs,AO]⟩
 have d:∀M:List (Ja × Nat),∃v:Ja,∀x,ev v x=Dk M x:=λM=>by
  induction M with
  |nil=>exact⟨[1],λx=>by rw[Dk,Jq]⟩
  |cons t L a=>
   obtain⟨v,hv⟩:=a;obtain⟨u,b⟩:=Ox t.1 t.2;exact⟨Ji u v,λx=>by rw[Jd,b,hv,Dk]⟩
 induction L with
 |nil=>cases hs
 |cons t L a=>
  rcases FI.1 hs with r|r
  . subst r;obtain⟨j,g⟩:∃j,s.2=j+1:=⟨s.2-1,O⟩;obtain⟨u,b⟩:=Ox s.1 j;obtain⟨v,hv⟩:=d L;exact⟨Ji u v,λx=>by grind[Dk,Jd]⟩
  . obtain⟨c,e⟩:=a r;obtain⟨u,b⟩:=Ox t.1 t.2;exact⟨Ji u c,λx=>by rw[Dk,e,Jd,b];grind⟩
def Sw(h:PtsOk L){p:Ja}(tp:Jc p=p)(p0:p≠[])(hp:∀x,ev (Jr p) x=Dk L x):nA p=Hk L nA/\DL p=DL (EW L):=by
 obtain⟨d1,a⟩:=Sg tp p0;have e:DL p=DL (EW L):=sJ tp p0 (I1 L) h.sqf.2 λc=>by
  constructor
  . intro k;refine Nm L c λs hs=>?_;obtain⟨r,b⟩:=sL hs (h.all s hs).2.2.2;exact(k.of_dv d1).of_dv ⟨r,λx=>by rw[hp];exact b x⟩
  . intro k;exact(bC L c (sH L c k) (Jr p) hp).of_dv a
 exact⟨(bB tp p0 (I1 L) h.sqf.2 e).trans (sI h),e⟩
theorem sM{a b:Ja}(ta:Jc a=a)(tb:Jc b=b)(a0:a≠[])(b0:b≠[])(ma:Jr a=a)(mb:Jr b=b):Jr (Ji a b)=Ji a b:=by
 grind[NY,MD,YM,Yp,Jt,LW]
theorem sN{u v q:Ja}(a:Jc u=u)(u0:u≠[])(b:Jc v=v)(z:v≠[])(tq:Jc q=q)(h:DQ u v):Ju (Ji u v) q=Ji (Ju u q) (Ju v q):=by
 have tm:=Jt u v;obtain⟨c,k,d,l,p⟩:=Ye a tq;obtain⟨f,o,g,i,t⟩:=Ye b tq;obtain⟨c1,c2,_⟩:=Ye tm tq;have g0:=Yf a tq (An u0);have y:=Yf b tq (An z);have w:DQ (Ju u q) (Ju v q):=(h.of_dv c).of_dv2 f;refine Dv.eq (JF _ _) (Jt _ _) (YW tm tq) (sM (JF _ _) (JF _ _) g0 y (YW a tq) (YW b tq)) ?_ ?_
 . refine c1.comb c2 (Ji d g) (XI (Ji (Ji d u) i) (Ji l (XI (Ji g v) (Ji i q)))) λx=>?_;rw[Jd,p,t,Jd,Jd,Yi,Jd,Jd,Jd,Yi,Jd,Jd];grind
 . refine Kt tm tq ?_ ?_
   . obtain⟨r,j⟩:=c;obtain⟨s,hs⟩:=f;exact⟨Ji r s,λx=>by rw[Jd,Jd,Jd,j,hs];grind⟩
   . obtain⟨m,n,e⟩:=w;obtain⟨r,j⟩:=k;obtain⟨s,hs⟩:=o;refine⟨XI (Ji m s) (Ji n r),λx=>?_⟩;grind[Jd,Yi]
theorem sO(h:PtsOk L){q:Ja}(tq:Jc q=q):nA (Ju (EW L) q)=Hk L λw=>nA (Ju w q):=by
 induction L with
 |nil=>rw[EW,PN DK tq (Nl q)];exact Nh.1
 |cons s L e=>
  obtain⟨a,c,_,_⟩:=h.all s (Au ..);have b:DQ s.1 (EW L):=(Nm L s.1 λt d=>((CT.1 h.cop).1 t d).symm).symm;have w0:=(h.tail.sqf).2;have tw:=I1 L;rw[EW,sN a c tw w0 tq b];rw[bA (JF _ _) (Yf a tq (An c)) (JF _ _) (Yf tw tq (An w0)) ((b.of_dv (Ye a tq).1).of_dv2 (Ye tw tq).1),e h.tail];simp[Hk]
theorem sR{p r q:Ja}(tp:Jc p=p)(p0:p≠[])(tr:Jc r=r)(r0:r≠[])(tq:Jc q=q)(q0:q≠[])(h:DL p=DL r):DL (Ju p q)=DL (Ju r q):=by
 have e:∀ {p r:Ja},Jc p=p->p≠[]->Jc r=r->r≠[]->DL p=DL r->Dv (DL (Ju p q)) (DL (Ju r q)):=fun {p r} tp p0 tr r0 h=>by
  obtain⟨a,b,c,_,_,_,g,i,_,j⟩:=Si tp p0 tq q0;obtain⟨a',d,c',_,_,s,f1,f2,_,k⟩:=Si tr r0 tq q0;rw[j,k];obtain⟨m,n,t⟩:=(s.of_dv ((Dv.refl d).mul' a'):DQ d c');have d1:Dv a (Ji a' d):=by rw[<-f1,<-h,g];exact(Dv.refl a).mul b
  have f:Dv a (Ji a' c'):=by rw[<-f2,i];exact(Dv.refl a).mul c
  refine d1.comb f m n λx=>?_;grind[Jd]
 have l:=Yf tp tq (An p0);have o:=Yf tr tq (An r0);have y1:=YQ (JF p q) l;have y2:=YQ (JF r q) o;exact Dv.eq y1.tw y2.tw y1.mw y2.mw (e tp p0 tr r0 h) (e tr r0 tp p0 h.symm)
theorem sS(h:PtsOk L){p q:Ja}(tp:Jc p=p)(p0:p≠[])(hp:∀x,ev (Jr p) x=Dk L x)(tq:Jc q=q)(q0:q≠[]):nA (Ju p q)=Hk L λw=>nA (Ju w q):=by
 have e:=sR tp p0 (I1 L) h.sqf.2 tq q0 (Sw h tp p0 hp).2;grind[sO,bB,JF,Yf,I1]
structure SdOk(S:Rat->Int):Prop where
 three:∀x,S x=-1\/S x=0\/S x=1
 mono:∀x y,x<y->S x<=0->S y=-1
def D3(S T:Rat->Int):Prop:=∃x,S x<=0/\0<=T x/\S x≠T x
def D3.irr{S:Rat->Int}:¬D3 S S:=λ⟨_,_,_,h⟩=>h J
def D3.trans{S U:Rat->Int}(e:SdOk S)(hT:SdOk T)(h:D3 S T)(d:D3 T U):D3 S U:=by
 obtain⟨x,a,f,g⟩:=h;obtain⟨y,c,b,i⟩:=d;rcases JU x y with r|r
 . rcases Aj.1 r with r|r
   . have:=e.mono x y r a;exact⟨y,O,b,O⟩
   . subst r;exact⟨x,a,b,O⟩
 . rcases Aj.1 r with r|r
   . have:=hT.mono y x r c;omega
   . subst r;exact⟨y,a,b,O⟩
def D3.asymm{S:Rat->Int}(b:SdOk S)(hT:SdOk T)(h:D3 S T):¬D3 T S:=λa=>D3.irr (h.trans b hT a)
def Irr.sd{w:Ja}{a b:Rat}(h:Irr w a b):SdOk (Dj w a b) where
 three x:=by rcases h.sid_ne x with k|k<;>omega
 mono x y hxy hx:=(h.sid_mono (Ad hxy)).2 (by rcases h.sid_ne x with k|k<;>omega)
def Do(r x:Rat):Int:=if r<x then -1 else if x<r then 1 else 0
theorem Sx(r:Rat):SdOk (Do r) where
 three x:=by grind[Do]
 mono x y hxy hx:=by
  grind[Do]
def Lt.slt{w v:Ja}{a b c d:Rat}(h:Lt w a b v c d):D3 (Dj w a b) (Dj v c d):=by
 obtain⟨x,e,f⟩:=h;exact⟨x,O,O,O⟩
def Irr.differ{w v:Ja}{a b c d:Rat}(h:Irr w a b)(k:Irr v c d)(m:DQ w v):¬ ∀x,Dj w a b x=Dj v c d x:=λe=>by
 have g:Dj w a b c=1:=by rw[e];exact k.low At
 have l:Dj w a b d=-1:=by rw[e];exact k.high At
 refine h.cop m ?_;rcases h.sg3 v with s|s|s
 . exact s
 . exfalso
   obtain⟨p1,n,_,_⟩:=ord_lt h k g l;have f:=k.nz d (Ad k.ab) At;rcases YS f with q|q
   . obtain⟨x,i,j⟩:=n s q;rw[e]at i;omega
   . obtain⟨x,i,j⟩:=p1 s q;rw[e]at j;omega
 . exfalso
   obtain⟨_,_,o,p⟩:=ord_lt h k g l;have f:=k.nz d (Ad k.ab) At;rcases YS f with q|q
   . obtain⟨x,i,j⟩:=o s q;rw[e]at j;omega
   . obtain⟨x,i,j⟩:=p s q;rw[e]at i;omega
section
variable {w g q p:Ja} {a b r:Rat}
theorem Spn.factor_q(h:Spn w a b)(l:a<r)(m:r<=b)(e:ev w r=0)(tg:Jc g=g)(g0:g≠[])(f:Dv g w):(ev g r=0/\cw g a=cw g b+1)\/(ev g r≠0/\cw g a=cw g b):=by
 have d:=(JK tg g0 f).2;have i:Jc (Jm w g)=Jm w g:=YE _ _;have ew:w=Ji g (Jm w g):=YM h.tw (Jt _ _) λx=>by rw[Jd];exact d x
 have u0:Jm w g≠[]:=λe=>h.w0 (by rw[ew,e,YK]);have sw:DY (Ji g (Jm w g)):=by rw[<-ew];exact h.sq
 have sg:DY g:=h.sq.of_dv h.tw f;have j:DY (Jm w g):=h.sq.of_dv h.tw ⟨g,λx=>by rw[d x,Ch]⟩;have c:=Ad h.ab;have k:=Sv tg g0 i u0 sg j sw.parts c;rw[<-ew]at k;have o:=Jy tg g0 c;have p:=Jy i u0 c;have n:=h.one;grind[Ih]
theorem Spn.gcd_q(h:Spn w a b)(f:a<r)(g:r<=b)(e:ev w r=0)(tq:Jc q=q):(ev q r=0/\cw (Ju w q) a=cw (Ju w q) b+1)\/(ev q r≠0/\cw (Ju w q) a=cw (Ju w q) b):=by
 obtain⟨d1,d,s,t,hb⟩:=Ye h.tw tq;have key:ev (Ju w q) r=0↔ev q r=0:=by
  constructor
  . intro k;obtain⟨c,i⟩:=d;rw[i,k,Cs]
  . intro k;grind
 rcases h.factor_q f g e (JF w q) (Yf h.tw tq (An h.w0)) d1 with⟨j,l⟩|⟨j,l⟩
 . grind
 grind
theorem bD{c:Ja}(h:DQ w c)(e:ev w r=0):ev c r≠0:=λk=>by
 obtain⟨u,v,a⟩:=h;grind
theorem sT(sw:DY w)(e:ev w r=0){c:Ja}{i:Nat}(b:DQ w c)(hp:∀x,ev p x=ev w x*(ev w x^i*ev c x))(tp:Jc p=p):ev (Jb p) r=0↔1<=i:=by
 obtain⟨s,hs⟩:∃s:Ja,∀x,ev s x=ev w x^i*ev c x:=by
  clear hp tp b;induction i with
  |zero=>exact⟨c,λx=>by rw[CQ,FG]⟩
  |succ i g=>
   obtain⟨r,f⟩:=g;exact⟨Ji w r,λx=>by rw[Jd,f,AO];grind⟩
 have d:p=Ji w s:=YM tp (Jt _ _) λx=>by rw[Jd,hs,hp]
 have nw:=bD sw e;rw[d,Ys,e,Cs,Rat.add_zero,hs,e];constructor
 . intro k;rcases A5 i with a|a
   . exfalso
     rw[a,CQ,FG]at k;exact Xf nw (bD b e) k
   . exact a
 . intro k;obtain⟨j,rfl⟩:∃j,i=j+1:=⟨i-1,O⟩;grind
end
end
section
variable{K:Nat}
def sU{X:Nat}{n d:Int}(hn:Sm X n)(g:Sm X d):∀(zs:List Int),(∀z∈zs,Sm K z)->Sm (K+zs.length*(X+2)) (hZ n d zs):=by
 intro zs;induction zs with
 |nil=>intro _;exact Sm.zero _
 |cons c zs j=>
  intro h;have b:=(h c Au).mul (g.powZ zs.length);have e:=hn.mul (j λz i=>h z (AP _ i));have k:zs.length*(X+2)=zs.length*X+zs.length*2:=Fm _ _ _;have a:(zs.length+1)*(X+2)=zs.length*(X+2)+(X+2):=Id _ _;rw[hZ,Al,a];have f:=(b.mono (show K+(zs.length*X+1)<=K+zs.length*(X+2)+X+1 by omega)).add (e.mono (show X+(K+zs.length*(X+2))<=K+zs.length*(X+2)+X+1 by omega));exact f.mono O
theorem sV(n d:Int)(zs:List Int){k:Nat}(hk:k<zs.length):hZ n d (zs.drop (k+1))*n+zs[k]*d^(zs.length-(k+1))=hZ n d (zs.drop k):=by
 rw[A9 hk,hZ,Co];grind
theorem sW(x:Rat)(zs:List Int):XU (hZ x.num (x.den:Int) zs) 0=DW (ev (zs.map λz:Int=>(z:Rat)) x):=by
 by_cases e:zs=[]
 . rw[e];show XU 0 0=DW 0;decide
 . have h:=PU x zs e;have d:(0:Rat)<((x.den:Int):Rat)^(zs.length-1):=Rat.pow_pos (by have:=x.den_pos;exact_mod_cast this);obtain⟨D,hD⟩:=ex (((x.den:Int):Rat)^(zs.length-1));obtain⟨E,hE⟩:=ex (ev (zs.map λz:Int=>(z:Rat)) x);obtain⟨a,hZ⟩:=ex (hZ x.num (x.den:Int) zs);rw[hD]at h d;rw[hE]at h ⊢;rw[hZ]at h ⊢;unfold XU;rcases Yd E with⟨c,b⟩|⟨c,b⟩|⟨c,b⟩
   . have:=Ac d (show 0 < -E by grind)
     have:(a:Rat)<0:=by rw[<-h];grind
     rw[BF (by exact_mod_cast this),b]
   . have:(a:Rat)=0:=by rw[<-h,c];grind
     have:a=0:=by exact_mod_cast this
     rw[this,b];rfl
   . have:=Ac d c
     have:(0:Rat)<(a:Rat):=by rw[<-h];exact this
     have:0<a:=by exact_mod_cast this
     omega
def Wh.zs{p:Ja}(h:Wh K p):∃zs:List Int,p=zs.map (λz:Int=>(z:Rat))/\∀z∈zs,Sm K z:=by
 obtain⟨zs,e⟩:=h.ints;refine⟨zs,e,λz c=>?_⟩;obtain⟨i,hi,rfl⟩:=Fk.1 c;obtain⟨z,b,a⟩:=h i;rw[e,cf]at a
 have:((zs[i]:Int):Rat)=(z:Rat):=by simpa[List.getD,hi]using a
 have:zs[i]=z:=by exact_mod_cast this
 rw[this];exact b
section
variable {w v q:Ja} {a b c d x:Rat}
variable{k:Rat}
theorem Nr.scl{P:Rat->Rat->Prop}(hk:k≠0):Nr (DN k w) a b P↔Nr w a b P:=by
 have e:∀x z,ev (DN k w) x*ev (DN k w) z<0↔ev w x*ev w z<0:=λx z=>by
  rw[Jo,Jo];have l:ev w x*k*(ev w z*k)=(k*k)*(ev w x*ev w z):=DH
  have hp:0<k*k:=by
   rcases YS hk with h|h
   . have:=Ac (a:=-k) (b:=-k) DH DH;grind
   . exact Ac h h
  rw[l];constructor
  . intro h;exact XS hp h
  . intro h;have:=Ac hp (show 0 < -(ev w x*ev w z)by grind);grind
 constructor
 . rintro⟨d,d0,h⟩;exact⟨d,d0,λx z c f g i j=>h x z c f g i ((e x z).2 j)⟩
 . rintro⟨d,d0,h⟩;exact⟨d,d0,λx z c f g i j=>h x z c f g i ((e x z).1 j)⟩
theorem DY.scl(hk:k≠0)(h:DY w):DY (DN k w):=by
 obtain⟨u,v,a⟩:=h;refine⟨DN (1/k) u,DN (1/k) v,λx=>?_⟩;grind[Zx,Jo]
def Irr.scl{k:Rat}(h:Irr w a b)(hk:k≠0):Irr (DN k w) a b/\∀q,Df (DN k w) a b q=Df w a b q:=by
 have ts:Jc (DN k w)=DN k w:=JH _ _;have f:DN k w≠[]:=Hh hk h.tw h.w0;have l:=Nf ts f h.tw h.w0 (PR hk h.tw) (Ad h.ab);have i:Irr (DN k w) a b:=⟨ts,f,h.sq.scl hk,h.ab,λx i j=>by
  rw[Jo];intro e;rcases CL.1 e with e|e
  . exact h.nz x i j e
  . exact hk e,by have:=h.one;unfold cw at *;omega⟩
 refine⟨i,λq=>?_⟩;rcases h.val q with⟨e,d⟩|⟨e,c,c0,d⟩|⟨e,c,c0,d⟩
 . rw[e];exact i.zero.2 λe g=>(Nr.scl hk).2 (d e g)
 . rw[e];exact i.pos.2 ⟨c,c0,(Nr.scl hk).2 d⟩
 . rw[e];exact i.minus.2 ⟨c,c0,(Nr.scl hk).2 d⟩
theorem Irr.chain(h:Irr w a b):(DM (JE (Xk w (Ji (Jb w) q)) a):Int)-(DM (JE (Xk w (Ji (Jb w) q)) b):Int)=Df w a b q:=by
 obtain⟨c,c0,i⟩:=Xg h.tw;obtain⟨k,g,j⟩:=Xg (Jt (Jb w) q);have c1:c≠0:=λe=>by grind
 obtain⟨d,l⟩:=h.scl c1;have e:DN k (Ji (Jb w) q)=Ji (Jb (DN c w)) (DN (k/c) q):=YM (JH _ _) (Jt _ _) λx=>by
  grind[Zx,Jo,Jd]
 have m:Df (DN c w) a b (DN (k/c) q)=Df (DN c w) a b q:=by
  have f:Df (DN c w) a b (DN (k/c) q)=Df (DN c w) a b (Ji [k/c] q):=d.ext λx=>by rw[Jo,Jd,Jq,Ch]
  rw[f,d.mul,(d.const (k/c)).1 (Ym g c0),Int.one_mul]
 grind[Df,ER,Xk]
end
structure RtQ where
 lo:Rat
 hi:Rat
 w:Ja
 sg:Int
 tm:Nat
def RtQ.cut(r:RtQ)(x:Rat):RtQ:=if r.lo<x/\x<r.hi then(if DW (ev r.w x)=0\/DW (ev r.w x)=r.sg then⟨r.lo,x,r.w,DW (ev r.w x),r.tm⟩else⟨x,r.hi,r.w,r.sg,r.tm⟩)else r
def RtQ.mid(r:RtQ):Rat:=Dc r.lo r.hi
def RtQ.hv(r:RtQ):RtQ:=r.cut r.mid
def RtQ.side(r:RtQ)(x:Rat):Int:=Yw (r.cut x).mid x
def E9(row:List Ja)(a b:Rat):Int:=(DM (JE row a):Int)-(DM (JE row b):Int)
def RtQ.sign(r:RtQ)(q:Ja):Int:=if r.lo<r.hi then E9 (Xk r.w (Ji (Jb r.w) q)) r.lo r.hi else DW (ev q r.lo)
def RtQ.ord(r s:RtQ):Int:=if s.lo<s.hi then(if r.side s.lo<=0 then -1 else if 0<=r.side s.hi then 1 else r.sign s.w*s.sg)else r.side s.lo
structure RtQ.Ok(r:RtQ):Prop where
 tw:Jc r.w=r.w
 w0:r.w≠[]
 sq:DY r.w
 sgh:r.sg=DW (ev r.w r.hi)
 root:(r.lo=r.hi/\ev r.w r.lo=0)\/Irr r.w r.lo r.hi
def RtQ.S(r:RtQ)(x:Rat):Int:=if r.lo<r.hi then Dj r.w r.lo r.hi x else Do r.lo x
theorem XY(r x:Rat):Yw r x=Do r x:=by
 unfold Do;have a:Yw r x=-1\/Yw r x=0\/Yw r x=1:=by
  unfold Yw XU;split
  . exact An J
  . omega
 have b:=KG (p:=r) (q:=x);grind[Kl]
section
variable {r s t:RtQ} {x:Rat} {q:Ja}
theorem RtQ.Ok.irr(h:r.Ok)(hl:r.lo<r.hi):Irr r.w r.lo r.hi:=by
 rcases h.root with⟨e,_⟩|k
 . grind
 . exact k
def RtQ.Ok.rat(h:r.Ok)(hl:¬r.lo<r.hi):r.lo=r.hi/\ev r.w r.lo=0:=by
 rcases h.root with k|k
 . exact k
 . exact absurd k.ab hl
theorem RtQ.Ok.sd(h:r.Ok):SdOk r.S:=by
 unfold RtQ.S;by_cases hl:r.lo<r.hi
 . have:(λx=>if r.lo<r.hi then Dj r.w r.lo r.hi x else Do r.lo x)=Dj r.w r.lo r.hi:=funext λx=>BF hl
   show SdOk λx=>if r.lo<r.hi then Dj r.w r.lo r.hi x else Do r.lo x;rw[this];exact(h.irr hl).sd
 . have:(λx=>if r.lo<r.hi then Dj r.w r.lo r.hi x else Do r.lo x)=Do r.lo:=funext λx=>BE hl
   grind[Sx]
theorem RtQ.Ok.sideS(h:r.Ok)(x:Rat):r.side x=r.S x:=by
 unfold RtQ.side RtQ.S RtQ.cut;by_cases hl:r.lo<r.hi
 . have k:=h.irr hl;rw[BF hl];have o:=Hj hl;by_cases c:r.lo<x/\x<r.hi
   . rw[BF c];have nz:=k.nz x (Ad c.1) (Ad c.2);have nb:=k.nz r.hi (Ad hl) At;have m:=k.mid (Ad c.1) (Ad c.2);rw[h.sgh];by_cases hs:DW (ev r.w x)=0\/DW (ev r.w x)=DW (ev r.w r.hi)
     . rw[BF hs];have hp:0<ev r.w x*ev r.w r.hi:=by
        rcases hs with e|e
        . exact absurd (Xt.1 e) nz
        . rcases Yd (ev r.w x)with⟨d,j⟩|⟨d,_⟩|⟨d,j⟩
          . rw[j]at e;have:=Rq.1 e.symm;have:=Ac (a:=-(ev r.w x)) (b:=-(ev r.w r.hi)) DH DH;grind
          . exact absurd d nz
          grind[Ac,Rp]
       rw[m.2 hp];have g:=(Hj c.1).2.1;show Yw (Dc r.lo x) x=-1;rw[XY];unfold Do;rw[BF g]
     . rw[BE hs];have hn:ev r.w x*ev r.w r.hi<0:=by
        rcases Yd (ev r.w x)with⟨d,j⟩|⟨d,_⟩|⟨d,j⟩
        . rcases Yd (ev r.w r.hi)with⟨f,l⟩|⟨f,_⟩|⟨f,l⟩
          . omega
          . exact absurd f nb
          . have:=Ac (a:=-(ev r.w x)) (b:=ev r.w r.hi) DH f;grind
        . exact absurd d nz
        . rcases Yd (ev r.w r.hi)with⟨f,l⟩|⟨f,_⟩|⟨f,l⟩
          . have:=Ac (a:=ev r.w x) (b:=-(ev r.w r.hi)) d DH;grind
          . exact absurd f nb
          omega
       rw[m.1 hn];have g:=(Hj c.2).1;show Yw (Dc x r.hi) x=1;exact Kl.2 g
   . rw[BE c];show Yw (Dc r.lo r.hi) x=_;by_cases n:x<=r.lo
     . rw[k.low n];grind[Kl]
     . have g:r.hi<=x:=CN.1 λi=>c ⟨Rat.not_le.1 n,i⟩;rw[k.high g,XY];unfold Do;grind
 . have k:=h.rat hl;rw[BE hl,BE λi=>by grind];show Yw (Dc r.lo r.hi) x=_;grind[Dc,XY]
def RtQ.Ok.signI(h:r.Ok)(hl:r.lo<r.hi):r.sign q=Df r.w r.lo r.hi q:=by
 unfold RtQ.sign E9;rw[BF hl];exact(h.irr hl).chain
theorem RtQ.signR(hl:¬r.lo<r.hi):r.sign q=DW (ev q r.lo):=BE hl
def RtQ.SI(hl:r.lo<r.hi):r.S=Dj r.w r.lo r.hi:=funext λ_=>BF hl
def RtQ.SR(hl:¬r.lo<r.hi):r.S=Do r.lo:=funext λ_=>BE hl
theorem RtQ.Ok.order(h:r.Ok)(k:s.Ok):(r.ord s=-1/\D3 r.S s.S)\/(r.ord s=1/\D3 s.S r.S)\/(r.ord s=0/\∀x,r.S x=s.S x):=by
 unfold RtQ.ord;by_cases hs:s.lo<s.hi
 . have l:=k.irr hs;rw[BF hs,h.sideS,h.sideS,RtQ.SI hs];have G:=l.low (x:=s.lo) At;have H:=l.high (x:=s.hi) At;by_cases d:r.S s.lo<=0
   . rw[BF d];exact An ⟨J,s.lo,d,O,O⟩
   . rw[BE d];by_cases c:0<=r.S s.hi
     . rw[BF c];exact Ap (An ⟨J,s.hi,O,c,O⟩)
     . rw[BE c];have nb:=l.nz s.hi (Ad hs) At;have t:=h.sd.three s.lo;have u:=h.sd.three s.hi;have sg3:(s.sg=-1/\ev s.w s.hi<0)\/(s.sg=1/\0<ev s.w s.hi):=by
        rw[k.sgh];rcases Yd (ev s.w s.hi)with⟨f,n⟩|⟨f,_⟩|⟨f,n⟩
        . grind
        . exact absurd f nb
        . grind
       by_cases m:r.lo<r.hi
       . have w:=h.irr m;rw[h.signI m];rw[RtQ.SI m]at d c t u ⊢;have p:Dj r.w r.lo r.hi s.lo=1:=O
         have v:Dj r.w r.lo r.hi s.hi=-1:=O
         obtain⟨z,A,B,D⟩:=ord_lt w l p v;rcases w.sg3 s.w with e|e|e
         . grind[rh]
         . rcases sg3 with⟨g,j⟩|⟨g,j⟩
           . exact An ⟨by rw[e,g];rfl,(A e j).slt⟩
           . exact Ap (An ⟨by rw[e,g];rfl,(z e j).slt⟩)
         . rcases sg3 with⟨g,j⟩|⟨g,j⟩
           . exact Ap (An ⟨by rw[e,g];rfl,(B e j).slt⟩)
           . exact An ⟨by rw[e,g];rfl,(D e j).slt⟩
       . rw[RtQ.signR m];rw[RtQ.SR m]at d c t u ⊢;have p:Do r.lo s.lo=1:=O
         have v:Do r.lo s.hi=-1:=O
         have f:s.lo<r.lo:=Kl.1 (by rw[XY];exact p);have n:r.lo<s.hi:=KG.1 (by rw[XY];omega);have nx:=l.nz r.lo (Ad f) (Ad n);have o:=l.mid (Ad f) (Ad n);have y:Dj s.w s.lo s.hi r.lo=-1->D3 (Dj s.w s.lo s.hi) (Do r.lo):=λe=>⟨r.lo,O,by unfold Do;grind,by unfold Do;grind⟩;have q:Dj s.w s.lo s.hi r.lo=1->D3 (Do r.lo) (Dj s.w s.lo s.hi):=λe=>⟨r.lo,by unfold Do;grind,O,by unfold Do;grind⟩;rcases Yd (ev s.w r.lo)with⟨c1,c2⟩|⟨c1,_⟩|⟨c1,c2⟩
         . rcases sg3 with⟨g,j⟩|⟨g,j⟩
           . refine Ap (An ⟨by rw[c2,g];rfl,y (o.2 ?_)⟩);have:=Ac (a:=-(ev s.w r.lo)) (b:=-(ev s.w s.hi)) DH DH;grind
           . refine An ⟨by rw[c2,g];rfl,q (o.1 ?_)⟩;have:=Ac (a:=-(ev s.w r.lo)) (b:=ev s.w s.hi) DH j;grind
         . exact absurd c1 nx
         . rcases sg3 with⟨g,j⟩|⟨g,j⟩
           . refine An ⟨by rw[c2,g];rfl,q (o.1 ?_)⟩;have:=Ac (a:=ev s.w r.lo) (b:=-(ev s.w s.hi)) c1 DH;grind
           grind[Ac]
 . rw[BE hs,h.sideS,RtQ.SR hs];have I:Do s.lo s.lo=0:=by unfold Do;rw[BE Rat.lt_irrefl,BE Rat.lt_irrefl]
   rcases h.sd.three s.lo with e|e|e
   . exact An ⟨e,s.lo,O,O,O⟩
   . refine Ap (Ap ⟨e,λx=>?_⟩);rcases(show x<s.lo\/x=s.lo\/s.lo<x by grind)with j|j|j
     . have d:=h.sd.three x;have c:¬r.S x<=0:=λi=>by have:=h.sd.mono x s.lo j i;omega
       grind[Do]
     . rw[j];omega
     . have c:=h.sd.mono s.lo x j O;grind[Do]
   . exact Ap (An ⟨e,s.lo,O,O,O⟩)
theorem RtQ.Ok.ord_lt(h:r.Ok)(k:s.Ok):r.ord s<0↔D3 r.S s.S:=by
 rcases h.order k with⟨e,i⟩|⟨e,i⟩|⟨e,i⟩
 . grind
 . exact⟨λ_=>by omega,λj=>absurd j (D3.asymm k.sd h.sd i)⟩
 . refine⟨λ_=>by omega,λj=>?_⟩;rw[show r.S=s.S from funext i]at j;exact absurd j D3.irr
def RtQ.Ok.ord_self(h:r.Ok):r.ord r=0:=by
 rcases h.order h with⟨_,j⟩|⟨_,j⟩|⟨e,_⟩
 . exact absurd j D3.irr
 . exact absurd j D3.irr
 . exact e
end
end
namespace M3
def sX:Sq 1:=Sq.of (show DS 1 1 from⟨Sm.one 1 O,Sm.one 1 O⟩) O
theorem sY(M:C)(q:Rat)(w:F)(D:Jf w M q)(L:Sq q):
 Calls Tryz.prog 240 #[M] w λe w'=>∃u,e=.returned u/\Jf w' u (Yu q)/\Bl w w':=by
 obtain⟨bg,W,ay,ai,bj,ae,ap,am,rfl⟩:=Jf.form D;obtain⟨W0,P,g⟩:=Lx 50 (.rat q) D 50 (.rat 0) (XF _);have I:=Z L;clear D L;go_enter func240,ntmps240
 go_upto_region 1 with fail
 rw[P.o];obtain⟨s1,T,l1,c1,t1,b1,k1,d1,v,r1,R,S⟩:=g.o.rat (i:=0) J;obtain⟨s,j,m,r⟩:=v.cq;obtain⟨s2,U,l2,c2,t2,b2,k2,d2,a,r2,i2,j2⟩:=g.o.rat (i:=1) J;obtain⟨b,c,f,d⟩:=a.cq;obtain⟨l,k,p,o⟩:=a.fq;obtain⟨x,G,N⟩:=DZ (WW _ q W0 r1 I.o) (λ(V:F) (h:Bl W0 V)=>L3 _ _ 0 q V (XF _) (r1.below h) GF I.o) r1;obtain⟨n,hn⟩:=ex (DW q);rw[hn]at x;have H:=Z hn;clear hn r1 R S;by_cases K:n<0
 . have y:=Z (show 0-q=Yu q by
    have B:=(PF q).1 (by rw[L4,H.o];exact K);unfold Yu;rw[BF B];grind)
   rw[y.o]at G;go_wp2_with(first
    |(go_at_call 272;refine x.o.mono ?_;rintro e w1 ⟨rfl,hq⟩;clear s j m r;obtain⟨s,j,m,r⟩:=(v.below hq).cq;clear b c f d;obtain⟨b,c,f,d⟩:=(a.below hq).cq;clear l k p o;obtain⟨l,k,p,o⟩:=(a.below hq).fq)
    |(go_at_call 42;refine(G.o _ hq).mono ?_;rintro e w2 ⟨u2,rfl,t,Q⟩;obtain⟨bi,X,az,aj,bm,ah,aq,an,rfl⟩:=Jf.form t;have hq:=Bt hq Q;clear s j m r;obtain⟨s,j,m,r⟩:=(v.below hq).cq;clear b c f d;obtain⟨b,c,f,d⟩:=(a.below hq).cq;clear l k p o;obtain⟨l,k,p,o⟩:=(a.below hq).fq))
   have A:=Bt g.o.2.2 hq;have z:=g.o.ge 1 J;exact BA (by simp[results,results240,go_sem,b,c,f,d]) J ⟨_,J,t.put4 (a.below hq) J J J J _ _ _ _,Jw A z _ _ _ _⟩
 . have y:=Z (show Yu q=q by
    have B:¬q<0:=λh=>K (by rw[<-H.o,<-L4];exact(PF q).2 h);unfold Yu;rw[BE B])
   go_wp2_with(go_at_call 272;refine x.o.mono ?_;rintro e w1 ⟨rfl,hq⟩;clear s j m r;obtain⟨s,j,m,r⟩:=(v.below hq).cq;clear b c f d;obtain⟨b,c,f,d⟩:=(a.below hq).cq;clear l k p o;obtain⟨l,k,p,o⟩:=(a.below hq).fq)
   have t:=N.o.below hq;rw[<-y.o]at t;have A:=Bt g.o.2.2 hq;have z:=g.o.ge 1 J;exact BA (by simp[results,results240,go_sem,b,c,f,d]) J ⟨_,J,t.put4 (a.below hq) J J J J _ _ _ _,Jw A z _ _ _ _⟩
def sZ(X vb:C)(p q:Rat)(w:F)(K:Jf w X p)(hb:Jf w vb q)(T:Sq p)(U:Sq q):
 Calls Tryz.prog 239 #[X,vb] w λe w'=>∃u,e=.returned u/\Jf w' u (KS p q)/\Bl w w':=by
 obtain⟨s,a,l,c,t,b,k,d,rfl⟩:=Jf.form K;obtain⟨s',a',l',c',t',b',k',d',rfl⟩:=Jf.form hb;obtain⟨W0,ae,g⟩:=Ix 50 (.rat p) K 50 (.rat q) hb 50 (.rat 0) (XF _);have Qc:=Z T;have Qb:=Z U;clear K hb T U;go_enter func239,ntmps239
 go_upto_region 1 with fail
 rw[ae.o];obtain⟨s1,a1,l1,c1,t1,b1,k1,d1,L,r1,_,_⟩:=g.o.rat (i:=0) J;obtain⟨s2,a2,l2,c2,t2,b2,k2,d2,M,N,_,_⟩:=g.o.rat (i:=1) J;obtain⟨s3,a3,l3,c3,t3,b3,k3,d3,W,_,_,_⟩:=g.o.rat (i:=2) J;have D:=Z (Xd _ _ p q W0 r1 N Qc.o Qb.o);obtain⟨n,hn⟩:=ex (Yw p q);rw[hn]at D;obtain⟨Q,R,P⟩:=DZ hn (Ao r1 N) λ(V:F) (h:Bl W0 V)=>Ao (L.below h) (Ao (M.below h) (W.below h));obtain⟨y,z,A,B⟩:=L.cq;obtain⟨j,m,o,r⟩:=M.cq;clear hn r1 N L M W;by_cases S:n<0
 . have G:=Z (show KS p q=q from BF (KG.1 (by rw[Q.o];exact S)));go_upto_region 2 with(go_at_call 21;refine D.o.mono ?_;rintro e w1 ⟨rfl,hq⟩;clear y z A B j m o r;obtain⟨_,x,f⟩:=P.o _ hq;obtain⟨y,z,A,B⟩:=x.cq;obtain⟨j,m,o,r⟩:=f.cq;obtain⟨f5,f6,f7,f8⟩:=f.fq;have H:=Z f;clear x f)
   go_wp2_with fail
   have v:=R.o.2.below hq;rw[<-G.o]at v;have I:=Bt g.o.2.2 hq;exact BA (by simp[results,results239,go_sem,j,m,o,r]) J ⟨_,J,v.put4 H.o J J J J _ _ _ _,Jw I (g.o.ge 2 J) _ _ _ _⟩
 . have G:=Z (show KS p q=p from BE λh=>S (by rw[<-Q.o];exact KG.2 h));go_upto_region 3 with(go_at_call 21;refine D.o.mono ?_;rintro e w1 ⟨rfl,hq⟩;clear y z A B j m o r;obtain⟨x,_,f⟩:=P.o _ hq;obtain⟨y,z,A,B⟩:=x.cq;obtain⟨j,m,o,r⟩:=f.cq;obtain⟨f5,f6,f7,f8⟩:=f.fq;have H:=Z f;clear x f)
   go_wp2_with fail
   have v:=R.o.1.below hq;rw[<-G.o]at v;have I:=Bt g.o.2.2 hq;exact BA (by simp[results,results239,go_sem,j,m,o,r]) J ⟨_,J,v.put4 H.o J J J J _ _ _ _,Jw I (g.o.ge 2 J) _ _ _ _⟩
end M3
def Yq(W:F)(v:C)(a b:Rat):Prop:=∃x0 x1 x2 x3 y0 y1 y2 y3,v=.agg #[x0,x1,x2,x3,y0,y1,y2,y3]/\Jf W (.agg #[x0,x1,x2,x3]) a/\Jf W (.agg #[y0,y1,y2,y3]) b
def JJ(W:F)(v:C)(r:RtQ):Prop:=∃x0 x1 x2 x3 y0 y1 y2 y3 a c b,v=.agg #[x0,x1,x2,x3,y0,y1,y2,y3,E a c b,.int .i64 r.sg,.int .i64 (r.tm:Int)]/\Jf W (.agg #[x0,x1,x2,x3]) r.lo/\Jf W (.agg #[y0,y1,y2,y3]) r.hi/\Je W (.agg #[E a c b]) r.w
section
variable {V W:World} {v:Value} {a b:Rat} {r:RtQ}
def Yq.below(h:Yq V v a b)(hb:Bl V W):Yq W v a b:=by
 obtain⟨x0,x1,x2,x3,y0,y1,y2,y3,e,c,d⟩:=h;exact⟨x0,x1,x2,x3,y0,y1,y2,y3,e,c.below hb,d.below hb⟩
def JJ.below(h:JJ V v r)(hb:Bl V W):JJ W v r:=by
 obtain⟨x0,x1,x2,x3,y0,y1,y2,y3,d,g,f,e,a,b,c⟩:=h;exact⟨x0,x1,x2,x3,y0,y1,y2,y3,d,g,f,e,a.below hb,b.below hb,c.below hb⟩
structure Kp(V W:World):Prop where
 row:∀k v ds,Row k V v ds->Row k W v ds
 rowK:∀v qs,RowK true V v qs->RowK true W v qs
def Kp.rat(k:Kp V W){v:C}{q:Rat}(h:Jf V v q):Jf W v q:=EN.keep (r:=true) h k.row
def Kp.int(k:Kp V W){v:C}{z:Int}(h:Jk V v z):Jk W v z:=by
 obtain⟨a,l,c,e,b⟩:=h;exact⟨a,l,c,e,k.row _ _ _ b⟩
def Kp.poly(k:Kp V W){v:C}{p:Ja}(h:Je V v p):Je W v p:=by
 obtain⟨u,e,h⟩:=h;exact⟨u,e,k.rowK _ _ h⟩
def Kp.span(k:Kp V W)(h:Yq V v a b):Yq W v a b:=by
 obtain⟨x0,x1,x2,x3,y0,y1,y2,y3,e,c,d⟩:=h;exact⟨x0,x1,x2,x3,y0,y1,y2,y3,e,k.rat c,k.rat d⟩
def Kp.root(k:Kp V W)(h:JJ V v r):JJ W v r:=by
 obtain⟨x0,x1,x2,x3,y0,y1,y2,y3,d,g,f,e,a,b,c⟩:=h;exact⟨x0,x1,x2,x3,y0,y1,y2,y3,d,g,f,e,k.rat a,k.rat b,k.poly c⟩
def Kp.trans{U:F}(h:Kp V W)(k:Kp W U):Kp V U:=⟨λa b c d=>k.row a b c (h.row a b c d),λa b c=>k.rowK a b (h.rowK a b c)⟩
def Kp.of_below(hb:Bl V W):Kp V W:=⟨λ_ _ _ h=>Row.below h hb,λ_ _ h=>RowK.below h hb⟩
end
namespace M3
section
variable {V W:World} {B:Nat} {t:TypeId} {cs:Array Value}
variable{x0 x1 x2 x3 y0 y1 y2 y3:C}
def Bx.c(h:Bx V B t cs){i:Nat}{x:C}(e:cs[i]?=some x):V.cell? ⟨B,i,none⟩=some x:=by simp[World.cell?,show V.heap[B]?=_ from h,e]
def Bx.new(V:F)(t:TypeId)(cs:Array C):Bx (V.alloc (.cells cs t)) V.heap.size t cs:=BD V _
def Bx.alloc(h:Bx V B t cs)(o:Obj):Bx (V.alloc o) B t cs:=h.below (Ba V o)
def Bx.set(h:Bx V B t cs)(i:Nat)(x:C):Bx (V.setCell ⟨B,i,none⟩ x) B t (cs.setIfInBounds i x):=Yj h x
def Bx.r4(h:Bx V B t #[x0,x1,x2,x3]):V.cell? ⟨B,0,none⟩=some x0/\V.cell? ⟨B,1,none⟩=some x1/\V.cell? ⟨B,2,none⟩=some x2/\V.cell? ⟨B,3,none⟩=some x3:=⟨h.c J,h.c J,h.c J,h.c J⟩
def Bx.s8(h:Bx V B t #[x0,x1,x2,x3,y0,y1,y2,y3]):V.cell? ⟨B,0,none⟩=some x0/\V.cell? ⟨B,1,none⟩=some x1/\V.cell? ⟨B,2,none⟩=some x2/\V.cell? ⟨B,3,none⟩=some x3/\V.cell? ⟨B,4,none⟩=some y0/\V.cell? ⟨B,5,none⟩=some y1/\V.cell? ⟨B,6,none⟩=some y2/\V.cell? ⟨B,7,none⟩=some y3:=⟨h.c J,h.c J,h.c J,h.c J,h.c J,h.c J,h.c J,h.c J⟩
def Bx.r11{p s u:C}(h:Bx V B t #[x0,x1,x2,x3,y0,y1,y2,y3,p,s,u]):(V.cell? ⟨B,0,none⟩=some x0/\V.cell? ⟨B,1,none⟩=some x1/\V.cell? ⟨B,2,none⟩=some x2/\V.cell? ⟨B,3,none⟩=some x3)/\(V.cell? ⟨B,4,none⟩=some y0/\V.cell? ⟨B,5,none⟩=some y1/\V.cell? ⟨B,6,none⟩=some y2/\V.cell? ⟨B,7,none⟩=some y3)/\V.cell? ⟨B,8,none⟩=some p/\V.cell? ⟨B,9,none⟩=some s/\V.cell? ⟨B,10,none⟩=some u:=⟨⟨h.c J,h.c J,h.c J,h.c J⟩,⟨h.c J,h.c J,h.c J,h.c J⟩,h.c J,h.c J,h.c J⟩
def Kv(w:F)(c d:TypeId)(a b:Array C):∃W,(w.alloc (.cells a c)).alloc (.cells b d)=W/\Bx W w.heap.size c a/\Bx W (w.heap.size+1) d b/\Bl w W:=by
 have e:=Bx.new (w.alloc (.cells a c)) d b;simp only[Ax]at e;exact⟨_,J,(Bx.new w c a).alloc _,e,(Ba w _).alloc (by simp only[Ax];omega) _⟩
def bE(w:F)(d e f:TypeId)(a b c:Array C):∃W,((w.alloc (.cells a d)).alloc (.cells b e)).alloc (.cells c f)=W/\Bx W w.heap.size d a/\Bx W (w.heap.size+1) e b/\Bx W (w.heap.size+1+1) f c/\Bl w W:=by
 have g:=Bx.new (w.alloc (.cells a d)) e b;have i:=Bx.new ((w.alloc (.cells a d)).alloc (.cells b e)) f c;simp only[Ax]at g i;exact⟨_,J,((Bx.new w d a).alloc _).alloc _,g.alloc _,i,((Ba w _).alloc (by simp only[Ax];omega) _).alloc (by simp only[Ax];omega) _⟩
end
end M3
namespace M3
theorem Nn(K X:Nat)(v vx:C)(ps:Ja)(x:Rat)(w:F)(h:Je w v ps)(N:Jf w vx x)(hw:Wh K ps)(hX:DS X x)(bg:K+ps.length*(X+2)+X+K<=10000000000):
 Calls Tryz.prog 119 #[v,vx] w λe w'=>e=.returned (.int .i64 (DW (ev ps x)))/\Bl w w':=by
 obtain⟨zs,r,P⟩:=hw.zs;obtain⟨o,la,p,rfl⟩:=h.form;obtain⟨ay,ap,aq,az,_⟩:=h.row.forms;obtain⟨s,a,l,c,t,b,k,d,rfl⟩:=Jf.form N;have Qd:zs.length=ps.length:=by rw[r,CK]
 obtain⟨n,hn⟩:=ex (ps.length:Nat);have Qo:∀i,i<n->∃z,cf ps i=((z:Int):Rat)/\(cf ps i).num=z/\Sm K z/\hZ x.num (x.den:Int) (zs.drop (i+1))*x.num+z*(x.den:Int)^(n-(i+1))=hZ x.num (x.den:Int) (zs.drop i):=λi hi=>by
  have Qj:i<zs.length:=O
  have e:cf ps i=((zs[i]:Int):Rat):=by rw[r,cf];simp[Qj]
  refine⟨zs[i],e,by rw[e];exact Fq _,P _ (CX Qj),?_⟩;grind[sV]
 have Qt:=Z Qo;have H:=Z (show ∀i,Sm (K+ps.length*(X+2)) (hZ x.num (x.den:Int) (zs.drop i))from λi=>by
  have h1:=sU (K:=K) hX.1 hX.2 (zs.drop i) λz r=>P z (List.mem_of_mem_drop r);refine h1.mono ?_;have h2:(zs.drop i).length*(X+2)<=ps.length*(X+2):=Af _ (by rw[Co];omega);omega)
 have D:=Z (show ∀i,i<=n->Sm (K+ps.length*(X+2)+1) ((x.den:Int)^i)from λi hi=>by
  refine(Sm.powZ hX.2 i).mono ?_;have h2:i*X<=ps.length*(X+2):=CE O O;omega)
 obtain⟨A,Qp,HP,Qn⟩:=Dx hX (show XU (hZ x.num (x.den:Int) zs) 0=DW (ev ps x)by rw[sW,<-r]) (λ(V:F) (I:Bl w V)=>h.below I) λ(V:F) (I:Bl w V)=>Yo (.agg #[E o la p]) ps V (h.below I);rw[hn]at Qn H D bg;obtain⟨W0,R,U⟩:=Ix 25 (.cell 25 (E o la p)) EO 50 (.rat x) N 48 (.int 0) (EX _);have bz:n<=1099511627776:=O
 have Qy:=Z (show hZ x.num (x.den:Int) (zs.drop n)=0 by rw[Cc O];rfl);have Ql:=Z λ(V:F)=>GW 1 O O V;clear h N hw hX ay ap aq az Qo r P Qd hn;go_enter func119,ntmps119
 go_upto_region 2 with fail
 rw[R.o];clear R;go_upto_region 3 with(go_at_call 107;refine(Ql.o _).mono ?_;clear Ql;rintro e w2 ⟨u2,rfl,ah,an⟩;obtain⟨s9,a9,l9,c9,rfl⟩:=Jk.form2 ah)
 obtain⟨V1,M⟩:=ex (w2.alloc (.cells #[.bool s9,E a9 l9 c9] 48));obtain⟨B1,L⟩:=ex (w2.heap.size);have g:DJ w (w2.alloc (.cells #[.bool s9,E a9 l9 c9] 48)) [some (w.heap.size,.cell 25 (E o la p)),some (w.heap.size+1,.rat x),some (w.heap.size+1+1,.int 0),some (w2.heap.size,.int 1)]:=DJ.push (U.o.below an) (.int 1) ah;rw[M,L]at g;rw[M];rw[L];have m:Hid (DJ w V1 [some (w.heap.size,.cell 25 (E o la p)),some (w.heap.size+1,.rat x),some (w.heap.size+1+1,.int 0),some (B1,.int 1)]):=Z (g);clear U;clear g M L;have c0:=(m.o.cell (i:=0) J).1.cell;go_upto_region 4 with(go_at_call 75;refine(Qn.o _ m.o.2.2).mono ?_;rintro e w3 ⟨rfl,ae⟩)
 have W:Hid (DJ w w3 [some (w.heap.size,.cell 25 (E o la p)),some (w.heap.size+1,.rat x),some (w.heap.size+1+1,.int (hZ x.num (x.den:Int) (zs.drop n))),some (B1,.int ((x.den:Int)^(n-n)))]):=Z (by rw[Qy.o,Cz,F9];exact m.o.below ae);clear c0 ae m;go_loopw [7] (λQ wr=>∃k:Nat,k<=n/\Q=.int .i64 ((k:Int)-1)/\Hid (DJ w wr [some (w.heap.size,.cell 25 (E o la p)),some (w.heap.size+1,.rat x),some (w.heap.size+1+1,.int (hZ x.num (x.den:Int) (zs.drop k))),some (B1,.int ((x.den:Int)^(n-k)))])) λQ _=>(intOf Q+1).toNat
 case atStart=>exact⟨n,Aa _,J,W⟩
 case round=>
  obtain⟨k,hk,rfl,m⟩:=hrel;clear W;by_cases bu:0<k
  . obtain⟨i,rfl⟩:∃i,k=i+1:=⟨k-1,O⟩;obtain⟨z,bi,ai,aj,am⟩:=Qt.o i O;obtain⟨Qv,Qi,G⟩:=DZ ai aj am;clear bi ai aj am;have Qg:(x.den:Int)^(n-(i+1))*(x.den:Int)=(x.den:Int)^(n-i):=by rw[<-C6,show(n-(i+1)).succ=n-i by omega]
    have Qh:=Z Qg;clear Qg;have Qw:((i+1:Nat):Int)-1=(i:Int):=O
    rw[Qw];have bn:0<=(i:Int):=O
    obtain⟨Ua,Qq,Qf,Qs⟩:=Dx (λ(j:Nat)=>(H.o j).words) (λ(j:Nat) (hj:j<=n)=>(D.o j hj).words) (Ao A.o.1.words A.o.2.words) Qi.o.words;obtain⟨S,u⟩:=ex (hZ x.num (x.den:Int) (zs.drop (i+1)));obtain⟨T,hT⟩:=ex ((x.den:Int)^(n-(i+1)));obtain⟨Qu,Qm,Qr,Qx⟩:=Dx (show(Jh Y S.natAbs).length<=K+n*(X+2)by rw[<-u];exact Ua.o _) (show(Jh Y T.natAbs).length<=K+n*(X+2)+1 by rw[<-hT];exact Qq.o _ O) (show Sm (K+n*(X+2)) S by rw[<-u];exact H.o _) (show Sm (K+n*(X+2)+1) T by rw[<-hT];exact D.o _ O);rw[u]at m G;rw[hT]at m G Qh;clear u hT;have Qk:=Z (show(Jh Y (S*x.num).natAbs).length<1099511627776/\(Jh Y (z*T).natAbs).length<1099511627776 from⟨by have:=(Qr.o.mul A.o.1).words;omega,by have:=(Qi.o.mul Qx.o).words;omega⟩);have Qz:=Z λ(V:F) (y:C) (hy:Jf V y x)=>GL y x V hy;go_upto_region 6 with fail
    refine YD Di [[],[],[1],[0,2,2],[],[],[4,5,3],[6,6],[],[7,8,7],[3,9,9],[10,10,0,1,2,3,4,5,6,7,8,9,10]] [.int S,.rat x,.int (x.num),.int (S*x.num),.eq (.agg #[E o la p]),.eq (Value.int IntKind.i64 ↑i),.rat (cf ps i),.int z,.int T,.int (z*T),.int (hZ x.num (x.den:Int) (zs.drop i)),.eq undef] [11] (λb _ V=>DJ w V [some (w.heap.size,.cell 25 (E o la p)),some (w.heap.size+1,.rat x),some (w.heap.size+1+1,if b.getD 0 false then .int (hZ x.num (x.den:Int) (zs.drop i))else .int S),some (B1,.int T)]) m.o.drew (SR (.vl J λ_ j=>GD 2 j)<|SR (.vl J λ_ j=>Ej 1 j)<|SR (.cl λh _=>NF _ x _ (h.g 1))<|SR (.cl λh _=>YY _ _ S x.num _ (h.g 0) (h.g 2) (by have:=Qu.o;have:=Qf.o.1;omega))<|SR (.vl J λ_ j=>GE 0 j)<|SR (.vl J λ_ _=>mv)<|SR (.cl λh j=>c2 (h.e 4) (h.e 5) (by have q:=IA _ ps (i:Int) _ (HP.o _ j.2.2);rw[Iz]at q;exact q))<|SR (.cl λh _=>Qv.o ▸ NF _ (cf ps i) _ (h.g 6))<|SR (.vl J λ_ j=>GD 3 j)<|SR (.cl λh _=>YY _ _ z T _ (h.g 7) (h.g 8) (by have:=Qm.o;have:=Qs.o;omega))<|SR (.cl λh _=>G.o ▸ OX _ _ (S*x.num) (z*T) _ (h.g 3) (h.g 9) (Qk.o.1) (Qk.o.2))<|SR (.wr J λh j=>E0 2 j (h.g 10)) Stp.end_)
     λf V3 hF g=>?_
    refine DP ?_;rw[hF.e 4,hF.e 5];have g:=Dw g;have M3:=Z g;clear g hF;clear m;go_upto_region 7 with fail
    refine YD Di [[],[],[1],[0,2,2],[3,3,0,1,2,3]] [.int T,.rat x,.int ((x.den:Int)),.int ((x.den:Int)^(n-i)),.eq undef] [4] (λb _ V=>DJ w V [some (w.heap.size,.cell 25 (E o la p)),some (w.heap.size+1,.rat x),some (w.heap.size+1+1,.int (hZ x.num (x.den:Int) (zs.drop i))),some (B1,if b.getD 0 false then .int ((x.den:Int)^(n-i))else .int T)]) M3.o.drew (SR (.vl J λ_ j=>GD 3 j)<|SR (.vl J λ_ j=>Ej 1 j)<|SR (.cl λh _=>Qz.o _ _ (h.g 1))<|SR (.cl λh _=>Qh.o ▸ YY _ _ T (x.den:Int) _ (h.g 0) (h.g 2) (by have:=Qm.o;have:=Qf.o.2;omega))<|SR (.wr J λh j=>E0 3 j (h.g 3)) Stp.end_)
     λf V5 hF g=>?_
    refine DP ?_;have g:=Dw g;have M4:=Z g;clear g hF;clear M3;go_wp2_with fail
    go_roundw
    case rel=>exact⟨i,O,by go_num,M4⟩
    case measure=>simp[intOf]
  . obtain rfl:k=0:=O
    rw[show zs.drop 0=zs from J]at m;obtain⟨s6,a6,l6,c6,n6,i6⟩:=m.o.int (i:=2) J;obtain⟨bj,bm⟩:=n6.cp;have B:=Z (KC _ _ (hZ x.num (x.den:Int) zs) 0 wr i6 (EX _));rw[Qp.o]at B;go_wp2_with(go_at_call 47;refine B.o.mono ?_;clear B;rintro e w6 ⟨rfl,hq⟩)
    go_ret;exact⟨J,Bt m.o.2.2 hq⟩
