import Derived.Test.YthnpdhlepglmlaaGreatDoorW38
set_option linter.all false
open Go renaming Value->C,World->F
open Go.Value renaming slice->E
set_option maxRecDepth 99999
set_option maxHeartbeats 0
namespace Go.Proofs.YthnpdhlepglmlaaGreatDoor
open Proofs.Tryz
open Go.RowKit Go.Shelf
attribute [local go_sem] Oper.semAt_some
theorem qI{a b c:Rat}(h:0<a*b):c*a<0↔c*b<0:=by
 by_cases c0:c=0
 . subst c0;simp
 . obtain⟨a0,b0⟩:=JB h;rw[Rt c0 a0,Rt c0 b0]
   have:¬(a*b<0):=DG
   rw[Rt a0 b0]at this;grind
def Gi:List Rat->Rat
 |[]=>0
 |c::t=>if c=0 then Gi t else c
theorem ZU(t:List Rat):∀(a v:Rat),0<v*Gi t->Xv a t=(if a*v<0 then 1 else 0)+Xv v t:=by
 induction t with
 |nil=>intro a v h;simp[Gi]at h
 |cons c t b=>
  intro a v h;grind[Gi,Xv,qI]
def I0:Rat->List Rat->Rat
 |a,[]=>a
 |a,b::l=>if b=0 then I0 a l else I0 b l
theorem qJ(l:List Rat):∀a b:Rat,Xv a (l++[b])=Xv a l+(if I0 a l*b<0 then 1 else 0):=by
 induction l with
 |nil=>
  intro a b;rw[Al,I0];by_cases b0:b=0
  . subst b0;simp[Xv]
  . rw[Gt b0];simp[Xv]
 |cons c l d=>
  intro a b;grind[I0,Xv]
theorem qK(l:List Rat):∀a b:Rat,I0 a (l++[b])=if b=0 then I0 a l else b:=by
 induction l with
 |nil=>intro a b;rfl
 |cons c l d=>
  intro a b;grind[I0]
def qL(l:List Rat):I0 0 l.reverse=Gi l:=by
 induction l with
 |nil=>rfl
 |cons c t a=>rw[List.reverse_cons,qK,a,Gi]
theorem ZV(l:List Rat):Gi l=0->∀a,Xv a l=0:=by
 induction l with
 |nil=>intro _ a;rfl
 |cons c t b=>
  intro h a;grind[Gi,Xv]
theorem qM(l:List Rat):DL l.reverse=DL l:=by
 induction l with
 |nil=>rfl
 |cons c t a=>
  rw[List.reverse_cons];show Xv 0 (t.reverse++[c])=Xv 0 (c::t);rw[qJ,qL];have a:Xv 0 t.reverse=Xv 0 t:=a;rw[a];by_cases c0:c=0
  . subst c0;grind[Xv]
  . rw[Gt c0,AZ,BD (show ¬(0:Rat)<0 by decide)];by_cases f0:Gi t=0
    . rw[f0,AZ,BD (show ¬(0:Rat)<0 by decide),ZV t f0,ZV t f0]
    . have ff:0<Gi t*Gi t:=by
       have:=XK (f:=[Gi t]) f0 (λx=>Jq _ x) 0 0;unfold Stb at this;rwa[Jq]at this
      have b:=ZU t 0 (Gi t) ff;grind[ZU]
def I1(a b:Rat):Rat:=if a<b then b else a
def EG(p:List Rat):Nat->Rat
 |0=>0
 |n+1=>I1 (EG p n) (Yv (cf p n/cf p (p.length-1)))
def J9(p:List Rat):Rat:=EG p (p.length-1)+1
theorem ZW(p:List Rat)(n:Nat):0<=EG p n:=by
 induction n with
 |zero=>exact Rat.le_refl
 |succ n a=>
  rw[EG,I1];grind
theorem qN(p:List Rat)(n:Nat):∀i,i<n->Yv (cf p i/cf p (p.length-1))<=EG p n:=by
 induction n with
 |zero=>intro i h;omega
 |succ n a=>
  intro i h;grind[EG,I1]
theorem qO{p:List Rat}(tp:Jc p=p)(p0:p≠[])(i:Nat)(h:i+1<p.length):Wi (EG p (p.length-1)*(cf p (p.length-1)*cf p (p.length-1))) (cf p (p.length-1)*cf p i):=by
 have d:=qN p (p.length-1) i O;have g:=Js tp p0;generalize EG p (p.length-1)=M at *;generalize cf p (p.length-1)=k at *;generalize cf p i=c at *;have e:c=c/k*k:=(Ak g).symm;obtain⟨r,f⟩:=ex (c/k);rw[f]at d e;have j:-M<=r/\r<=M:=by
  unfold Yv at d;grind
 have kk:=Xi k;have l:=Rat.mul_nonneg (a:=M-r) (b:=k*k) DG kk;have m:=Rat.mul_nonneg (a:=M+r) (b:=k*k) DG kk;rw[e];constructor<;>grind
theorem Lo(p:List Rat):0<J9 p:=by
 grind[ZW,J9]
theorem qP{k v:Rat}(c:k≠0)(h:k*k<=k*v):k*k<=v*v:=by
 have kk:0<k*k:=by
  have:=XK (f:=[k]) c (λx=>Jq _ x) 0 0;unfold Stb at this;rwa[Jq]at this
 have d:=Rat.mul_nonneg (a:=k*v-k*k) (b:=k*v+k*k) DG DG;rcases JV (k*k) (v*v)with h|h
 . exact h
 . rcases Rat.le_iff_lt_or_eq.1 h with h|h
   . have:=Rat.mul_pos (a:=k*k) (b:=k*k-v*v) kk DG;grind
   . grind
theorem sq_pow{s:Rat}(hs:s*s=1)(n:Nat):s^n*s^n=1:=by
 induction n with
 |zero=>grind
 |succ n a=>rw[Rat.pow_succ];grind
theorem ZX{p:List Rat}(tp:Jc p=p)(p0:p≠[]){s:Rat}(hs:s*s=1){x:Rat}(b:J9 p<=x):cf p (p.length-1)*cf p (p.length-1)<=ev p (s*x)*ev p (s*x):=by
 have c:=Js tp p0;have h:=p6 hs (ZW p (p.length-1)) p tp p0 _ J (qO tp p0) x (by unfold J9 at b;grind);have e:=sq_pow hs (p.length-1);generalize s^(p.length-1)=r at *;generalize cf p (p.length-1)=k at *;generalize ev p (s*x)=v at *;have:=qP (k:=k) (v:=r*v) c DG;have a:r*v*(r*v)=(r*r)*(v*v):=DG
 rw[a,e,Fg]at this;exact this
def ZY{p:List Rat}(tp:Jc p=p)(p0:p≠[]):0<cf p (p.length-1)*cf p (p.length-1):=by
 have:=XK (f:=[cf p (p.length-1)]) (Js tp p0) (λx=>Jq _ x) 0 0;unfold Stb at this;rwa[Jq]at this
theorem ZZ{p:List Rat}(tp:Jc p=p)(p0:p≠[]):DL (JF (Ju p) (J9 p))=DL (El (Ju p)):=by
 obtain⟨B,e,c,_⟩:=YJ (J4 tp p0);have b0:=Lo p;have:=ZS tp p0 (ZY tp p0) (a:=J9 p) (b:=J9 p+B) (by clear c;grind) (λx d _=>by
  have:=ZX tp p0 (s:=1) DG d;grind)
 grind
theorem Zc{p:List Rat}(tp:Jc p=p)(p0:p≠[]):DL (JF (Ju p) (-(J9 p)))=DL (D5 (Ju p)):=by
 obtain⟨B,d,_,c⟩:=YJ (J4 tp p0);have b0:=Lo p;have:=ZS tp p0 (ZY tp p0) (a:=-(J9 p+B)) (b:=-(J9 p)) (by clear c;grind) (λx _ e=>by
  have:=ZX tp p0 (s:=-1) DG (x:=-x) (by clear c;grind);rwa[show(-1:Rat)*-x=x by clear c;grind]at this)
 grind
def nA(p:List Rat):Int:=(DL (D5 (Ju p)):Int)-(DL (El (Ju p)):Int)
def nB(p:List Rat)(x:Rat):Int:=(DL (D5 (Ju p)):Int)-(DL (JF (Ju p) x):Int)
def Zd(p:Prop)[Decidable p]:Int:=if p then 1 else 0
section
variable {p q:List Rat} (tp:Jc p=p) (p0:p≠[]) (tq:Jc q=q) (q0:q≠[])
theorem Ze(tp:Jc p=p)(p0:p≠[])(tq:Jc q=q)(q0:q≠[]):nA (Ji p q)=nA p+nA q-nA (Jt p q):=by
 grind[pu,nA]
theorem Zf(tp:Jc p=p)(p0:p≠[])(tq:Jc q=q)(q0:q≠[])(x:Rat):nB (Ji p q) x=nB p x+nB q x-nB (Jt p q) x:=by
 grind[ZP,nB]
end
theorem Zg{p:List Rat}(tp:Jc p=p)(p0:p≠[]){F:Rat->Nat}(h:∀ {B:Rat},0<=B->Sh B λx z=>F x+J2 (DK p) x z=F z){u d:Nat}{X:Rat}(r:∀x,X<=x->F x=u)(q:∀x,x<=-X->F x=d):nA p=(u:Int)-(d:Int)/\∀x,nB p x=(F x:Int)-(d:Int):=by
 have g:∀a b,a<=b->DL (JF (Ju p) a)+F a=DL (JF (Ju p) b)+F b:=λa b j=>by
  obtain⟨A,k,hA⟩:=JI a;obtain⟨C,m,hC⟩:=JI b;have f:0<=A+C:=DG
  exact ZT (P:=λx z=>DL (JF (Ju p) x)+F x=DL (JF (Ju p) z)+F z) (λ_=>rfl) (λ_ _ _ c e=>c.trans e)
   (((Rs tp p0 f).and (h f)).mono λx z _ _ _ ⟨c,e⟩=>by show _=_;omega) (hA.mono DG) (hC.mono DG) j
 obtain⟨B,l,c,e⟩:=YJ (J4 tp p0);obtain⟨n,o,i⟩:=JI X;have y1:=i.1;grind[nA,nB]
theorem Ru(r:Rat):Jc [-r,1]=[-r,1]/\Jr [-r,1]=[-r,1]/\DK [-r,1]=[-r,1]:=by
 have t:Jc [-r,1]=[-r,1]:=NO (Or.inr (by show(1:Rat)≠0;decide));have m:Jr [-r,1]=[-r,1]:=YL (Yf _) t λx=>by
  rw[Kx];show _*(1/(1:Rat))=_;grind
 refine⟨t,m,pv t DH m ⟨[],[1],λx=>?_⟩⟩;grind[X6,ev,dv]
theorem qQ(r:Rat):nA [-r,1]=1/\∀x,nB [-r,1] x=Zd (r<=x):=by
 obtain⟨t,m,f⟩:=Ru r;obtain⟨b,e,a⟩:=JI r;have y1:=a.1;have y2:=a.2;obtain⟨g,i⟩:=Zg t DH (F:=λx=>if r<=x then 1 else 0) (λj=>Sh.all λx z _ _ k=>by
  grind[py]) (u:=1) (d:=0) (X:=b+1) (λx c=>BE DG) (λx c=>BD DG)
 grind[Zd]
theorem Mz:nA [1]=0/\∀x,nB [1] x=0:=by
 have t:Jc [(1:Rat)]=[1]:=DJ
 refine Zg t DH (F:=λ_=>0) (λb=>Sh.all λx z _ _ _=>?_) (u:=0) (d:=0) (X:=0) (λ_ _=>rfl) (λ_ _=>rfl) |> λh=>⟨by rw[h.1];rfl,λx=>by rw[h.2 x];rfl⟩
 show 0+J2 (DK [1]) x z=0;have a:=YR t DH;have:=(a.dv.len a.tw a.tR a.R0).1;rw[X2 t]at this;rw[X8 (RU a.tw a.w0 (by simpa using this) x z)]
theorem qR{p:List Rat}(tp:Jc p=p)(r:Rat):Jt p [-r,1]=if ev p r=0 then [-r,1]else [1]:=by
 obtain⟨t,m,_⟩:=Ru r;have e:=NP p r;have a:∀x,ev [-r,1] x=x-r:=λx=>by simp only[ev];grind
 by_cases h:ev p r=0
 . rw[BE h];have d:Dv [-r,1] p:=⟨Hj p r,λx=>by rw[e x,h,a];grind⟩;grind[Yc,Dv.eq,JE,YI,Iv,Dv.refl]
 . rw[BD h];refine Oi tp t ⟨[1/ev p r],DM (-(1/ev p r)) (Hj p r),λx=>?_⟩;grind[Jp,ev]
structure Made(p:List Rat)(R:List Rat):Prop where
 tp:Jc p=p
 p0:p≠[]
 all:nA p=(R.length:Int)
 bel:∀x,nB p x=((R.filter λr=>decide (r<=x)).length:Int)
 rt:∀r,ev p r=0↔r∈R
section
variable{k:Rat}
theorem Zh{w:List Rat}(h:DX w){B:Rat}(a:0<=B):Sh B λx z=>¬Stb w x z->x<z->0<ev (Jb w) x*(ev w z-ev w x):=by
 obtain⟨u,v,f⟩:=h;obtain⟨U,b,e⟩:=XU u a;have d:U*(1/4/U)=1/4:=by rw[A2,Ak DG]
 refine rise_of (y:=v) (k:=3/4) a DG ((Xo w a (Yo Hk b)).mono λx z g i _ c hn=>?_);grind[LJ]
theorem qS{g:List Rat}:∀(n:Nat) (a b:List Rat),b.length<=n->Jc b=b->Dv g a->Dv g b->∀p∈ES a b,Dv g p:=by
 intro n;induction n with
 |zero=>
  intro a b hn _ d _ p hp;grind[Ky]
 |succ n e=>
  intro a b hn tb d hb p hp;by_cases b0:b=[]
  . grind
  . rw[XN tb b0]at hp;rcases Fj.1 hp with hp|hp
    . rw[hp];exact d
    . have hl:=Xs (a:=a) tb b0;obtain⟨q,c,c0,f⟩:=Rk (a:=a) tb b0;refine e b (XW a b) O (Iu _ _) hb (d.comb hb [-(Ej a b/c)] (Ji [1/c] q) λx=>?_) p hp;grind[Jd,ev]
theorem qT(hk:k≠0):∀(l:List Rat) (a:Rat),Xv (k*a) (l.map λx=>k*x)=Xv a l:=by
 intro l;induction l with
 |nil=>intro a;rfl
 |cons b l c=>
  intro a;rw[List.map_cons];by_cases b0:b=0
  . grind[Xv]
  . have kb:k*b≠0:=λe=>by grind
    rw[Gt kb,Gt b0,c];have e:k*a*(k*b)=(k*k)*(a*b):=DG
    have d:0<k*k:=by
     rcases Rat.le_iff_lt_or_eq.1 (Xi k)with h|h
     . exact h
     . grind
    by_cases hn:a*b<0
    . rw[BE hn,BE (by rw[e];have:=Rat.mul_pos d (show 0 < -(a*b)by grind);grind)]
    . rw[BD hn,BD (by rw[e];have:=Rat.mul_nonneg (a:=k*k) (b:=a*b) DG DG;grind)]
def Zi(hk:k≠0)(l:List Rat):DL (l.map λx=>k*x)=DL l:=by
 have:=qT hk l 0;rwa[Fk]at this
theorem YS{a b:Rat}(h:0<a)(c:0<a*b):0<b:=by
 rcases JV b 0 with q|q
 . have:=Rat.mul_nonneg (a:=a) (b:=-b) DG DG;grind
 . rcases Rat.le_iff_lt_or_eq.1 q with q|q
   . exact q
   . rw[<-q]at c;grind
theorem XO{a b:Rat}(h:0<a)(c:a*b<0):b<0:=by
 have:=YS (a:=a) (b:=-b) h DG;grind
def Zj{a b:Rat}(h:a<0)(c:a*b<0):0<b:=YS (a:=-a) (b:=b) DG DG
theorem qU{A C d:Rat}(h:0<d*(C-A))(c:A*C<0):A*d<0:=by
 have e:=Rat.mul_pos h (show 0<A*A-A*C by have:=Xi A;grind);have f:=Xl (a:=C-A) (b:=-(A*d)) DG;grind
def EQ(w q:List Rat):List (List Rat):=ES w (Ji (Jb w) q)
structure TkG(w q g:List Rat):Prop where
 tg:Jc g=g
 g0:g≠[]
 dw:Dv g w
 dq:Dv g q
 all:∀d,Dv d w->Dv d q->Dv d g
 cop:DP (Jm w g) q
 stay:∀ {B:Rat},0<=B->Sh B λx z=>Stb w x z->DL (JF (EQ w q) x)=DL (JF (EQ w q) z)
 step:∀ {B:Rat},0<=B->Sh B λx z=>ev w x*ev w z<0->(ev g x*ev g z<0/\DL (JF (EQ w q) x)=DL (JF (EQ w q) z))\/
  (Stb g x z/\Stb q x z/\((0<ev q x/\DL (JF (EQ w q) x)=DL (JF (EQ w q) z)+1)\/(ev q x<0/\DL (JF (EQ w q) x)+1=DL (JF (EQ w q) z))))
theorem Zk{w q:List Rat}(tw:Jc w=w)(w0:w≠[])(hs:DX w):∃g,TkG w q g:=by
 have tb:=Jn (Jb w) q;obtain⟨g,_,tg,g0,l,D,h4,hD⟩:=Mt _ w (Ji (Jb w) q) (Aa _) tw tb w0;have j:=(JK tg g0 l).2;have H:=(JK tg g0 D).2;have U:∀p∈EQ w q,∀x,ev p x=ev g x*ev (Jm p g) x:=λp hp x=>(JK tg g0 (qS _ w _ (Aa _) tb l D p hp)).2 x;have hv:∀x,ev g x≠0->DL (JF (EQ w q) x)=DL (JF ((EQ w q).map λp=>Jm p g) x):=λx k=>by
  rw[<-Zi k (JF ((EQ w q).map λp=>Jm p g) x)];congr 1;unfold JF;rw[Fl,Fl];exact A3 λp hp=>U p hp x
 have X:w=Ji g (Jm w g):=YL tw (Jn _ _) λx=>by rw[Jd];exact j x
 have I:DP (Jm w g) g:=(DX.parts (a:=g) (b:=Jm w g) (by rw[<-X];exact hs)).symm;have dq:Dv g q:=by
  have c1:DP g (Jb w):=DP.of_dv hs l;exact c1.dv D
 obtain⟨t,s⟩:=chnL_head w (Ji (Jb w) q);have i:StC (Jm w g::t.map λp=>Jm p g):=by
  have:=hD;rw[s,List.map_cons]at this;exact this
 have n:(EQ w q).map (λp=>Jm p g)=Jm w g::t.map λp=>Jm p g:=by
  unfold EQ;rw[s,List.map_cons]
 have es:∀m t',t=m::t'->m=Ji (Jb w) q:=λm t' e=>by
  rw[e]at s;have b0:Ji (Jb w) q≠[]:=λe=>by
   rw[e,Ky]at s;cases s
  rw[XN tb b0]at s;obtain⟨t2,ai⟩:=chnL_head (Ji (Jb w) q) (XW w (Ji (Jb w) q));grind
 have G:DP (Jm w g) q:=by
  match t,i,es with
  |[],i,_=>
   obtain⟨⟨c,c0,y⟩⟩:=i;refine⟨[1/c],[],λx=>?_⟩;grind[ev]
  |m::t',i,es=>
   obtain rfl:=es m t' J;have W:DP (Jm w g) (Jm (Ji (Jb w) q) g):=i.cop;exact DP.right (b:=Jb w) ((I.mul W).ext (λ_=>rfl) λx=>by rw[Jd g,H x])
 refine⟨g,tg,g0,l,dq,λd d1 d2=>h4 d d1 (d2.mul' (Jb w)),G,fun {B} r=>?_,fun {B} r=>?_⟩
 . refine((i.gd r).and (My I r)).mono λx z _ _ _ hh f=>?_;have hg:=hh.1;have A:=hh.2;have e:ev w x*ev w z=(ev g x*ev g z)*(ev (Jm w g) x*ev (Jm w g) z):=by rw[j x,j z];grind
   unfold Stb at f A;rw[e]at f;obtain⟨u,n2⟩:=JB f;have su:Stb (Jm w g) x z:=by
    unfold Stb;rcases A with h|h
    . exact h
    . exact YS h f
   have k:ev g x≠0:=λe=>u (by rw[e,AZ]);have v:ev g z≠0:=λe=>u (by rw[e,Fk]);rw[hv x k,hv z v,n];exact hg.stay su
 . match t,i,n,es with
   |[],i,n,_=>
    obtain⟨⟨c,c0,y⟩⟩:=i;refine(Sh.all λx z _ _ _ f=>Or.inl ?_);have e:ev w x*ev w z=(ev g x*ev g z)*(c*c):=by rw[j x,j z,y,y];grind
    rw[e]at f;have c2:0<c*c:=by
     rcases Rat.le_iff_lt_or_eq.1 (Xi c)with h|h
     . exact h
     . grind
    have o:ev g x*ev g z<0:=XO c2 DG;obtain⟨k,v⟩:=PO o;refine⟨o,?_⟩;rw[hv x k,hv z v,n];show DL [ev (Jm w g) x]=DL [ev (Jm w g) z];rw[y,y]
   |m::t',i,n,es=>
    obtain rfl:=es m t' J;refine(((i.gd r).and (My G r)).and (Zh hs r)).mono λx z _ _ ae hh f=>?_;have hg:=hh.1.1;have A:=hh.1.2;have hr:=hh.2;have e:ev w x*ev w z=(ev g x*ev g z)*(ev (Jm w g) x*ev (Jm w g) z):=by rw[j x,j z];grind
    have V:x<z:=by
     rcases Rat.le_iff_lt_or_eq.1 ae with h|h
     . exact h
     . rw[<-h]at f;have:=Xi (ev w x);grind
    have ah:=qU (hr (λh=>by unfold Stb at h;grind) V) f;rw[e]at f;obtain⟨u,n2⟩:=PO f;have k:ev g x≠0:=λe=>u (by rw[e,AZ]);have v:ev g z≠0:=λe=>u (by rw[e,Fk]);rw[hv x k,hv z v,n];by_cases o:ev g x*ev g z<0
    . exact Or.inl ⟨o,hg.stay (Zj o f)⟩
    . have N:0<ev g x*ev g z:=by
       rcases Rat.le_iff_lt_or_eq.1 (Rat.not_lt.1 o)with h|h
       . exact h
       . exact absurd h.symm u
      have un:=XO N f;have R:¬Stb (Jm w g) x z:=λh=>by unfold Stb at h;grind
      have ss:=(hg.adj).resolve_left R;have sq:=A.resolve_left R;refine Or.inr ⟨N,sq,?_⟩;obtain⟨s1,s2⟩:=JB ss;rw[JX,List.map_cons,JX,JX,JX,I8 s1,I8 s2,hg.tail.same _ _ _ (Aa _) ss];have K:(ev g x*ev g x)*(ev (Jm w g) x*ev (Jm (Ji (Jb w) q) g) x)=(ev w x*ev (Jb w) x)*ev q x:=by
       have h1:=j x;have l:=H x;rw[Jd]at l;rw[Rat.mul_assoc (ev w x),l,h1];grind
      have M:0<ev g x*ev g x:=by
       rcases Rat.le_iff_lt_or_eq.1 (Xi (ev g x))with h|h
       . exact h
       . grind
      have e2:(ev (Jm w g) x*ev (Jm (Ji (Jb w) q) g) x)*(ev (Jm w g) z*ev (Jm (Ji (Jb w) q) g) z)=(ev (Jm w g) x*ev (Jm w g) z)*(ev (Jm (Ji (Jb w) q) g) x*ev (Jm (Ji (Jb w) q) g) z):=DG
      have L:(ev (Jm w g) x*ev (Jm w g) z)*(ev (Jm (Ji (Jb w) q) g) x*ev (Jm (Ji (Jb w) q) g) z)<0:=by
       have:=Rat.mul_pos (show 0 < -(ev (Jm w g) x*ev (Jm w g) z)by grind) ss;grind
      rw[<-e2]at L;generalize ev (Jm w g) x*ev (Jm (Ji (Jb w) q) g) x=P at *;generalize ev (Jm w g) z*ev (Jm (Ji (Jb w) q) g) z=Q at *;generalize Xv (ev (Jm (Ji (Jb w) q) g) z) _=T at *;obtain⟨S,_⟩:=JB sq;rcases JV (ev q x) 0 with h|h
      . have q1:ev q x<0:=by
         rcases Rat.le_iff_lt_or_eq.1 h with h|h
         . exact h
         . exact absurd h S
        have p1:0<P:=YS M (by rw[K];have:=Rat.mul_pos (show 0 < -(ev w x*ev (Jb w) x)by grind) (show 0 < -(ev q x)by grind);grind);grind[XO]
      . have q1:0<ev q x:=by
         rcases Rat.le_iff_lt_or_eq.1 h with h|h
         . exact h
         . exact absurd h.symm S
        have p1:P<0:=XO M (by rw[K];have:=Rat.mul_pos (show 0 < -(ev w x*ev (Jb w) x)by grind) q1;grind);have q2:0<Q:=Zj p1 L;grind
def cw(w:List Rat)(x:Rat):Nat:=DL (JF (Ju w) x)
theorem qV{w:List Rat}(tw:Jc w=w)(w0:w≠[])(hs:DX w):∃k:Rat,k≠0/\w=DM k (DK w):=by
 have a:=YR tw w0;exact Dv.anti a.tw tw (Hz tw w0) (DX.dv a.tw tw w0 hs λc h=>(XG tw w0 c).1 h)
theorem I2{w:List Rat}(tw:Jc w=w)(w0:w≠[])(hs:DX w){B:Rat}(a:0<=B):Sh B λx z=>cw w x=cw w z+J2 w x z:=by
 grind[qV,Xf,K0,p9,cw]
def Jy{w:List Rat}(tw:Jc w=w)(w0:w≠[]){a b:Rat}(h:a<=b):cw w b<=cw w a:=Rm tw w0 h
def I3(a b x:Rat):Rat:=if x<a then a else if b<x then b else x
theorem qW{a b x:Rat}(c:a<=x)(d:x<=b):I3 a b x=x:=by
 grind[I3]
theorem qX{a b:Rat}(h:a<=b){x z:Rat}(c:x<=z):I3 a b x<=I3 a b z/\I3 a b z-I3 a b x<=z-x:=by
 grind[I3]
theorem Lp{F:Rat->Nat}{a b d:Rat}(c:a<=b)(e:0<d)(h:∀x z,a<=x->x<=z->z<=b->z-x<=d->F x=F z):F a=F b:=by
 obtain⟨A,g,hA⟩:=JI a;obtain⟨C,i,hC⟩:=JI b;have:=glue (B:=A+C) (F:=λx=>F (I3 a b x)) (G:=λ_=>0) (a:=a) (b:=b) ⟨d,e,λx y _ _ f hs=>by
  obtain⟨j,k⟩:=qX c f;grind[Rat.le_trans,I3]⟩ (hA.mono DG) (hC.mono DG) c
 grind[qW]
structure Irr(w:List Rat)(a b:Rat):Prop where
 tw:Jc w=w
 w0:w≠[]
 sq:DX w
 ab:a<b
 nz:∀x,a<=x->x<=b->ev w x≠0
 one:cw w a=cw w b+1
theorem YT{p:Rat}(h:p≠0):p<0\/0<p:=by
 grind
section
variable {w:List Rat} {a b:Rat}
theorem Irr.still(h:Irr w a b){F:Rat->Nat}(hF:∀ {B:Rat},0<=B->Sh B λx z=>Stb w x z->F x=F z){x z:Rat}(p:a<=x)(q:x<=z)(u:z<=b)(e:cw w x=cw w z):F x=F z:=by
 obtain⟨A,v,hA⟩:=JI a;obtain⟨C,D,hC⟩:=JI b;have j:0<=A+C:=DG
 obtain⟨d,d0,m⟩:=(I2 h.tw h.w0 h.sq j).and (hF j);have l:∀y,a<=y->y<=b->Wi (A+C) y:=λy c f=>⟨by have:=hA.1;have:=hC.1;grind,by have:=hC.2;grind⟩;refine Lp q d0 λs t hs o k n=>?_;have c:a<=s:=Rat.le_trans p hs;have f:t<=b:=Rat.le_trans k u;have i:=m s t (l s c DG) (l t DG f) o n;have G:=Jy h.tw h.w0 hs;have H:=Jy h.tw h.w0 k;have g:J2 w s t=0:=by have:=i.1;omega
 refine i.2 ?_;unfold J2 at g;unfold Stb;rcases YT (Xc (h.nz s c DG) (h.nz t DG f))with r|r
 . rw[BE ⟨h.nz s c DG,DG⟩]at g;cases g
 . exact r
def K1(w:List Rat)(x:Rat):Nat:=if 0<ev w x then 1 else 0
theorem Zl{w:List Rat}{x z:Rat}(h:Stb w x z):K1 w x=K1 w z:=by
 grind[K1,Stb,YS]
theorem Irr.same(h:Irr w a b){x z:Rat}(c:a<=x)(g:x<=z)(d:z<=b)(e:cw w x=cw w z):Stb w x z:=by
 have f:=h.still (F:=K1 w) (λi=>Sh.all λs t _ _ _ hs=>Zl hs) c g d e;unfold K1 at f;unfold Stb;rcases YT (h.nz x c DG)with p|p<;>rcases YT (h.nz z DG d)with q|q
 . have:=Rat.mul_pos (show 0 < -(ev w x)by grind) (show 0 < -(ev w z)by grind);grind
 . grind
 . grind
 . exact Rat.mul_pos p q
theorem Irr.neg(h:Irr w a b){x z:Rat}(c:a<=x)(d:x<=z)(f:z<=b)(e:ev w x*ev w z<0):cw w a=cw w x/\cw w x=cw w z+1/\cw w z=cw w b:=by
 have g:=Jy h.tw h.w0 c;have i:=Jy h.tw h.w0 d;have j:=Jy h.tw h.w0 f;have:=h.one;have n:cw w x≠cw w z:=λq=>by have:=h.same c d f q;unfold Stb at this;grind
 omega
theorem Irr.near(h:Irr w a b){d:Rat}(l:0<d):∃x z,a<=x/\x<z/\z<=b/\z-x<=d/\ev w x*ev w z<0:=by
 refine Classical.byContradiction λhn=>?_;have D:cw w a=cw w b:=by
  obtain⟨A,p,hA⟩:=JI a;obtain⟨C,u,hC⟩:=JI b;have k:0<=A+C:=DG
  obtain⟨e,i,m⟩:=I2 h.tw h.w0 h.sq k;obtain⟨f,f0,f1,f2⟩:=Hx l i;have g:∀y,a<=y->y<=b->Wi (A+C) y:=λy v B=>⟨by have:=hA.1;have:=hC.1;grind,by have:=hC.2;grind⟩;refine Lp (Rat.le_of_lt h.ab) f0 λs t hs o c G=>?_;have j:=m s t (g s hs DG) (g t DG c) o DG;rw[j];unfold J2;rw[BD,Ca];intro q;have n:=Xc (h.nz s hs DG) (h.nz t DG c);rcases YT n with r|r
  . refine hn ⟨s,t,hs,?_,c,DG,r⟩;grind[Xi]
  . have:=q.2;grind
 have:=h.one;omega
end
def De(w:List Rat)(a b:Rat)(q:List Rat):Int:=(DL (JF (EQ w q) a):Int)-(DL (JF (EQ w q) b):Int)
theorem Irr.sign{w:List Rat}{a b:Rat}(h:Irr w a b)(q:List Rat):∃g,TkG w q g/\∃d,0<d/\∀x z,a<=x->x<=z->z<=b->z-x<=d->ev w x*ev w z<0->
 (De w a b q=0/\ev g x*ev g z<0)\/(De w a b q=1/\Stb g x z/\0<ev q x/\0<ev q z)\/(De w a b q=-1/\Stb g x z/\ev q x<0/\ev q z<0):=by
 obtain⟨g,hg⟩:=Zk (q:=q) h.tw h.w0 h.sq;obtain⟨A,s,hA⟩:=JI a;obtain⟨C,t,hC⟩:=JI b;have e:0<=A+C:=DG
 have n:∀y,a<=y->y<=b->Wi (A+C) y:=λy u v=>⟨by have:=hA.1;have:=hC.1;grind,by have:=hC.2;grind⟩;obtain⟨d,d0,p⟩:=hg.step e;refine⟨g,hg,d,d0,λx z f o i hs hn=>?_⟩;obtain⟨c1,c2,c3⟩:=h.neg f o i hn;have l:=h.still (F:=λy=>DL (JF (EQ w q) y)) (λe=>hg.stay e) Rat.le_refl f DG c1;have m:=h.still (F:=λy=>DL (JF (EQ w q) y)) (λe=>hg.stay e) (show a<=z by grind) i Rat.le_refl c3;have l:DL (JF (EQ w q) a)=DL (JF (EQ w q) x):=l;have m:DL (JF (EQ w q) z)=DL (JF (EQ w q) b):=m;unfold De;rcases p x z (n x f DG) (n z DG i) o hs hn with⟨j,k⟩|⟨j,k,c⟩
 . grind
 . rcases c with⟨c,r⟩|⟨c,r⟩
   . exact Or.inr (Or.inl ⟨O,j,c,YS c k⟩)
   . refine Or.inr (Or.inr ⟨O,j,c,?_⟩);have:=YS (a:=-(ev q x)) (b:=-(ev q z)) DG (by unfold Stb at k;grind);grind
end
def Nr(w:List Rat)(a b:Rat)(P:Rat->Rat->Prop):Prop:=∃d,0<d/\∀x z,a<=x->x<=z->z<=b->z-x<=d->ev w x*ev w z<0->P x z
section
variable {w q p:List Rat} {a b:Rat} {P Q:Rat->Rat->Prop}
def Nr.and(h:Nr w a b P)(c:Nr w a b Q):Nr w a b λx z=>P x z/\Q x z:=by
 obtain⟨d,d0,h⟩:=h;obtain⟨e,m,c⟩:=c;obtain⟨f,f0,f1,f2⟩:=Hx d0 m;exact⟨f,f0,λx z g i j k l=>⟨h x z g i j (Rat.le_trans k f1) l,c x z g i j (Rat.le_trans k f2) l⟩⟩
def Nr.mono(h:Nr w a b P)(hi:∀x z,a<=x->x<=z->z<=b->ev w x*ev w z<0->P x z->Q x z):Nr w a b Q:=by
 obtain⟨d,d0,h⟩:=h;exact⟨d,d0,λx z c e f i g=>hi x z c e f g (h x z c e f i g)⟩
theorem Irr.some(h:Irr w a b)(c:Nr w a b P):∃x z,a<=x/\x<=z/\z<=b/\ev w x*ev w z<0/\P x z:=by
 obtain⟨d,d0,c⟩:=c;obtain⟨x,z,e,f,g,i,j⟩:=h.near d0;grind
theorem Nr.of_sh(h:∀ {B:Rat},0<=B->Sh B P):Nr w a b P:=by
 obtain⟨A,l,hA⟩:=JI a;obtain⟨C,m,hC⟩:=JI b;have j:0<=A+C:=DG
 obtain⟨d,d0,k⟩:=h j;have g:∀y,a<=y->y<=b->Wi (A+C) y:=λy n o=>⟨by have:=hA.1;have:=hC.1;grind,by have:=hC.2;grind⟩;exact⟨d,d0,λx z e c f i _=>k x z (g x e (Rat.le_trans c f)) (g z (Rat.le_trans e c) f) c i⟩
theorem Oo(p:List Rat)(a b:Rat):∃K,0<K/\∀x,a<=x->x<=b->Wi K (ev p x):=by
 obtain⟨A,e,hA⟩:=JI a;obtain⟨C,f,hC⟩:=JI b;obtain⟨K,c,d⟩:=XU p (show 0<=A+C by grind);exact⟨K,c,λx g i=>d x ⟨by have:=hA.1;have:=hC.1;grind,by have:=hC.2;grind⟩⟩
def EH(w:List Rat)(a b:Rat)(q:List Rat):Prop:=∀e,0<e->Nr w a b λx z=>Wi e (ev q x)/\Wi e (ev q z)
def Em(w:List Rat)(a b:Rat)(q:List Rat):Prop:=∃c,0<c/\Nr w a b λx z=>c<=ev q x/\c<=ev q z
def EH.mul(h:EH w a b q)(p:List Rat):EH w a b (Ji q p):=λe l=>by
 obtain⟨K,k,j⟩:=Oo p a b;refine(h (e/K) (Yo l k)).mono λx z c f g _ i=>?_;have d:e/K*K=e:=Ak DG;rw[Jd,Jd];exact⟨((i.1.mul (j x c (Rat.le_trans f g))).mono DG),((i.2.mul (j z (Rat.le_trans c f) g)).mono DG)⟩
def EH.ext(h:EH w a b q)(e:∀x,ev p x=ev q x):EH w a b p:=λk hk=>(h k hk).mono λx z _ _ _ _ c=>by rw[e,e];exact c
def Em.ext(h:Em w a b q)(e:∀x,ev p x=ev q x):Em w a b p:=by
 obtain⟨c,c0,h⟩:=h;exact⟨c,c0,h.mono λx z _ _ _ _ d=>by rw[e,e];exact d⟩
theorem Em.mul(h:Em w a b q)(d:Em w a b p):Em w a b (Ji q p):=by
 obtain⟨c,c0,h⟩:=h;obtain⟨k,e,d⟩:=d;refine⟨c*k,Rat.mul_pos c0 e,(h.and d).mono λx z _ _ _ _ g=>?_⟩;rw[Jd,Jd];have m:∀ {s t:Rat},c<=s->k<=t->c*k<=s*t:=fun {s t} i j=>by
  have f:=Rat.mul_nonneg (a:=s-c) (b:=t) DG DG;have d:=Rat.mul_nonneg (a:=c) (b:=t-k) DG DG;grind
 grind
theorem EH.not_abv(h:Irr w a b)(hs:EH w a b q):¬Em w a b q:=λ⟨c,c0,f⟩=>by
 obtain⟨x,z,_,_,_,_,d,e⟩:=h.some ((hs (c/2) DG).and f);have:=d.1.2;have:=e.1;grind
theorem Em.not_neg(h:Irr w a b)(hs:Em w a b q)(d:Em w a b (DM (-1) q)):False:=by
 obtain⟨c,c0,e⟩:=hs;obtain⟨k,g,hb⟩:=d;obtain⟨x,z,_,_,_,_,f,d⟩:=h.some (e.and hb);grind[Jp]
theorem Irr.val(h:Irr w a b)(q:List Rat):(De w a b q=0/\EH w a b q)\/(De w a b q=1/\Em w a b q)\/(De w a b q=-1/\Em w a b (DM (-1) q)):=by
 obtain⟨g,hg,f⟩:=h.sign q;have f:Nr w a b _:=f;obtain⟨_,_,_,_,_,_,j⟩:=h.some f;rcases j with⟨y,_⟩|j
 . refine Or.inl ⟨y,?_⟩;obtain⟨k,hk⟩:=hg.dq;have hs:EH w a b g:=λe D=>(f.and (Nr.of_sh λi=>Xo g i D)).mono λx z _ _ _ _ d=>by
    refine d.2 λp=>?_;grind[Stb]
   exact(hs.mul k).ext λx=>by rw[Jd];exact hk x
 . refine Or.inr ?_;obtain⟨u,v,H⟩:=hg.cop;obtain⟨U,I,A⟩:=Oo u a b;obtain⟨V,P,B⟩:=Oo v a b;have n:=(JK hg.tg hg.g0 hg.dw).2;have M:U*(1/4/U)=1/4:=by rw[A2,Ak DG]
   have K:∀x,a<=x->x<=b->Wi (1/4/U) (ev (Jm w g) x)->1/(2*V)<=ev q x\/ev q x<=-(1/(2*V)):=λx c o G=>by
    have r:=LJ (H x) (A x c o) G DG;have l:=B x c o;have L:1/(2*V)*(2*V)=1:=Ak DG;generalize 1/(2*V)=k at *;have m:0<k:=YS (a:=2*V) DG DG;refine Classical.byContradiction λhn=>?_;have s:=(l.mul (show Wi k (ev q x)from⟨DG,DG⟩)).2;grind
   have t:Nr w a b λx z=>Stb g x z->Wi (1/4/U) (ev (Jm w g) x)/\Wi (1/4/U) (ev (Jm w g) z):=(Nr.of_sh λi=>Xo (Jm w g) i (Yo Hk I)).mono λx z _ _ _ N d p=>by
    refine d λhs=>?_;have e:ev w x*ev w z=(ev g x*ev g z)*(ev (Jm w g) x*ev (Jm w g) z):=by rw[n x,n z];grind
    have:=Rat.mul_pos p hs;grind
   have m:0<1/(2*V):=Yo DJ DG;have all:=(f.and t);rcases j with⟨c,_⟩|⟨c,_⟩
   . refine Or.inl ⟨c,1/(2*V),m,all.mono λx z r l s _ d=>?_⟩;grind[Rat.le_trans]
   . refine Or.inr ⟨c,1/(2*V),m,all.mono λx z r l s _ d=>?_⟩;grind[Rat.le_trans,Jp]
theorem Irr.zero(h:Irr w a b):De w a b q=0↔EH w a b q:=by
 rcases h.val q with⟨d,c⟩|⟨d,c⟩|⟨d,c⟩
 . grind
 . grind[EH.not_abv]
 . refine⟨λe=>by omega,λe=>absurd c (EH.not_abv h ((e.mul [-1]).ext λx=>?_))⟩;rw[Jp,Jd,Jq]
theorem Irr.pos(h:Irr w a b):De w a b q=1↔Em w a b q:=by
 rcases h.val q with⟨c,d⟩|⟨c,d⟩|⟨c,d⟩
 . grind[EH.not_abv]
 . grind
 grind[Em.not_neg]
theorem Irr.minus(h:Irr w a b):De w a b q=-1↔Em w a b (DM (-1) q):=by
 rcases h.val q with⟨d,c⟩|⟨d,c⟩|⟨d,c⟩
 . refine⟨λe=>by omega,λe=>absurd e (EH.not_abv h ((c.mul [-1]).ext λx=>?_))⟩;rw[Jp,Jd,Jq]
 . grind[Em.not_neg]
 grind
theorem Irr.mul(h:Irr w a b)(q p:List Rat):De w a b (Ji q p)=De w a b q*De w a b p:=by
 rcases h.val q with⟨e,f⟩|⟨e,f⟩|⟨e,f⟩
 . rw[e,Int.zero_mul];exact h.zero.2 (f.mul p)
 . rcases h.val p with⟨c,d⟩|⟨c,d⟩|⟨c,d⟩
   . rw[c,Fx];exact h.zero.2 ((d.mul q).ext λx=>by rw[Jd,Jd,A2])
   . rw[e,c];exact h.pos.2 (f.mul d)
   . rw[e,c];exact h.minus.2 ((f.mul d).ext λx=>by rw[Jp,Jd,Jd,Jp];grind)
 . rcases h.val p with⟨c,d⟩|⟨c,d⟩|⟨c,d⟩
   . rw[c,Fx];exact h.zero.2 ((d.mul q).ext λx=>by rw[Jd,Jd,A2])
   . rw[e,c];exact h.minus.2 ((f.mul d).ext λx=>by rw[Jp,Jd,Jd,Jp];grind)
   . rw[e,c];exact h.pos.2 ((f.mul d).ext λx=>by rw[Jd,Jd,Jp,Jp];grind)
def Irr.ext(h:Irr w a b)(e:∀x,ev p x=ev q x):De w a b p=De w a b q:=by
 rcases h.val q with⟨c,d⟩|⟨c,d⟩|⟨c,d⟩
 . rw[c];exact h.zero.2 (d.ext e)
 . rw[c];exact h.pos.2 (d.ext e)
 . rw[c];exact h.minus.2 (d.ext λx=>by rw[Jp,Jp,e])
theorem Oq:EH w a b w:=λe f=>(Nr.of_sh λd=>Xo w d f).mono λx z _ _ _ i c=>c λg=>by unfold Stb at g;grind
def Irr.dvd(h:Irr w a b)(e:Dv w p):De w a b p=0:=by
 obtain⟨c,d⟩:=e;exact h.zero.2 ((Oq.mul c).ext λx=>by rw[Jd];exact d x)
theorem Irr.cop(h:Irr w a b)(i:DP w p):De w a b p≠0:=λe=>by
 obtain⟨u,v,j⟩:=i;have c:=((Oq (w:=w) (a:=a) (b:=b)).mul u).ext (p:=Ji u w) λx=>by rw[Jd,Jd,A2]
 have d:=((h.zero.1 e).mul v).ext (p:=Ji v p) λx=>by rw[Jd,Jd,A2]
 obtain⟨x,z,_,_,_,_,f,g⟩:=h.some ((c (1/4) Hk).and (d (1/4) Hk));have k:=f.1.2;have l:=g.1.2;rw[Jd]at k l;have:=j x;grind
theorem Irr.const(h:Irr w a b)(c:Rat):(0<c->De w a b [c]=1)/\(c<0->De w a b [c]=-1):=by
 refine⟨λd=>h.pos.2 ⟨c,d,1,DJ,λx z _ _ _ _ _=>?_⟩,λd=>h.minus.2 ⟨-c,DG,1,DJ,λx z _ _ _ _ _=>?_⟩⟩
 . show c<=ev [c] x/\c<=ev [c] z;grind[Jq]
 . show -c<=ev (DM (-1) [c]) x∧-c<=ev (DM (-1) [c]) z;grind[Jp,Jq]
end
section
def Wh(K:Nat)(p:List Rat):Prop:=∀i,∃z:Int,Sm K z/\cf p i=(z:Rat)
variable{K:Nat}
theorem Wh.one{p:List Rat}(h:Wh K p):∀i,∃z:Int,Sm K z/\cf p i*1=(z:Rat):=λi=>by
 obtain⟨z,a,b⟩:=h i;grind
theorem qY{p q:List Rat}(hp:Jc p=p)(hq:Jc q=q)(f:Wh K p)(g:Wh K q)(hl:p.length+q.length<=1000000000)(hle:q.length<=p.length)(r:2<=q.length)(j:DP p q):
 ∃(u v:List Rat) (c:Int),Wh ((K+1)*(p.length+q.length)) u/\Wh ((K+1)*(p.length+q.length)) v/\c≠0/\u.length<=q.length/\v.length<=p.length/\∀x,ev u x*ev p x+ev v x*ev q x=(c:Rat):=by
 obtain⟨u,v,H,t,D,G,B,b,hT,s,hv⟩:=WX hp hq (cp:=1) (cq:=1) DJ DJ f.one g.one hl hle (m:=2) O r;have p0:p≠[]:=λe=>by grind
 obtain⟨c,_,l⟩:=hT 0;have a:∀x,ev u x*ev p x+ev v x*ev q x=(c:Rat):=λx=>by
  rw[<-Jd,<-Jd,<-Yg,<-l];match A:YK (Ji u p) (Ji v q),b with
  |[],_=>rfl
  |[k],_=>rw[Jq];rfl
  |_::_::_,b=>grind
 refine⟨u,v,c,λi=>?_,λi=>?_,λe=>?_,O,O,a⟩
 . obtain⟨z,w,y⟩:=s i;grind
 . obtain⟨z,w,y⟩:=hv i;grind
 . have d:∀x,ev u x*ev p x+ev v x*ev q x=0:=λx=>by rw[a,e];rfl
   have o:Dv p v:=j.dv (c:=v) ⟨DM (-1) u,λx=>by rw[Jd,Jp];have:=d x;grind⟩;have I:v=[]:=Classical.byContradiction λn=>by
    have:=(o.len hp t n).1;omega
   grind[Yu,YL,Jn,Jd,ev]
theorem Rv(c:Rat):Wi (Yv c) c/\0<=Yv c:=by
 unfold Yv;unfold Wi;split<;>grind
def GW(H:Rat):List Rat->Rat
 |[]=>0
 |c::p=>Yv c+H*GW H p
def Eo(H:Rat):List Rat->Rat
 |[]=>0
 |_::p=>GW H p+H*Eo H p
section
variable {H:Rat}
theorem NA(a:0<=H)(p:List Rat):0<=GW H p:=by
 induction p with
 |nil=>exact Rat.le_refl
 |cons c p b=>rw[GW];have:=(Rv c).2;have:=Rat.mul_nonneg a b;grind
theorem NB(a:0<=H)(p:List Rat):0<=Eo H p:=by
 induction p with
 |nil=>exact Rat.le_refl
 |cons c p b=>rw[Eo];have:=NA a p;have:=Rat.mul_nonneg a b;grind
def Rw(p:List Rat){x:Rat}(a:Wi H x):Wi (GW H p) (ev p x):=by
 induction p with
 |nil=>exact⟨by simp[GW,ev],by simp[GW,ev]⟩
 |cons c p b=>rw[GW,IF];exact(Rv c).1.add (a.mul b)
theorem Rx(p:List Rat){x y:Rat}(d:Wi H x)(f:Wi H y)(h:x<=y):Wi (Eo H p*(y-x)) (ev p x-ev p y):=by
 induction p with
 |nil=>exact⟨by simp[Eo,ev];grind,by simp[Eo,ev];grind⟩
 |cons c p g=>
  rw[Eo,IF,IF];have a:=(show Wi (y-x) (x-y)from⟨DG,DG⟩).mul (Rw p d);have b:=f.mul g;have e:c+x*ev p x-(c+y*ev p y)=(x-y)*ev p x+y*(ev p x-ev p y):=DG
  rw[e];exact(a.add b).mono DG
end
variable{f:List Rat}
theorem qZ(tf:Jc f=f)(f0:f≠[]){B:Rat}(a:0<=B):Sh B λx z=>cw f x=cw f z+J2 (DK f) x z:=by
 grind[Xf,K0,cw]
theorem qe(tf:Jc f=f)(f0:f≠[]){a b:Rat}(n:a<=b)(hl:cw f b<cw f a){e:Rat}(r:0<e):∃x,a<=x/\x<=b/\Wi e (ev f x):=by
 refine Classical.byContradiction λhn=>?_;obtain⟨A,w,hA⟩:=JI a;obtain⟨C,z,hC⟩:=JI b;have g:0<=A+C:=DG
 obtain⟨k,hk⟩:=Hz tf f0;obtain⟨K,j,m⟩:=Oo k a b;obtain⟨d,d0,o⟩:=(qZ tf f0 g).and (Xo (DK f) g (Yo r j));have i:∀y,a<=y->y<=b->Wi (A+C) y:=λy B D=>⟨by have:=hA.1;have:=hC.1;grind,by have:=hC.2;grind⟩;have:=Lp (F:=cw f) n d0 λs t hs u v p=>by
  have c:=o s t (i s hs DG) (i t DG v) u p;rw[c.1];unfold J2;rw[BD,Ca];intro q;refine hn ⟨s,hs,DG,?_⟩;have l:=(c.2 λh=>by unfold Stb at h;have:=q.2;grind).1;rw[hk];exact(l.mul (m s hs DG)).mono (by grind[])
 omega
theorem Zm(tf:Jc f=f)(f0:f≠[]){H a b:Rat}(j:0<=H)(d:Wi H a)(hb:Wi H b)(k:a<=b)(hl:cw f b<cw f a):Wi (Eo H f*(b-a)) (ev f a):=by
 have key:∀e,0<e->Wi (Eo H f*(b-a)+e) (ev f a):=λe l=>by
  obtain⟨x,g,n,i⟩:=qe tf f0 k hl l;have m:Wi H x:=⟨by have:=d.1;grind,by have:=hb.2;grind⟩;have c:=(Rx f d m g).add i;have o:=Rat.mul_nonneg (NB j f) (show 0<=b-x by grind);rw[show ev f a-ev f x+ev f x=ev f a by grind]at c;exact c.mono DG
 constructor
 . refine Rat.not_lt.1 λh=>?_;have:=(key ((-(Eo H f*(b-a))-ev f a)/2) DG).1;grind
 . refine Rat.not_lt.1 λh=>?_;have:=(key ((ev f a-Eo H f*(b-a))/2) DG).2;grind
theorem sep{w u v:List Rat}{c:Int}(tw:Jc w=w)(hl:1<w.length)(l:c≠0)(m:∀x,ev u x*ev w x+ev v x*ev (Jb w) x=(c:Rat)){H a b:Rat}(i:0<=H)(d:Wi H a)(hb:Wi H b)(g:a<=b)(s:cw w b+2<=cw w a):
 1<=(GW H u*Eo H w+GW H v*Eo H (Jb w))*(b-a):=by
 have w0:w≠[]:=λe=>by rw[e]at hl;simp at hl
 have r:Jb w≠[]:=λe=>by have:=Mk tw e;omega
 have t:=qH tw hl g;have n:=Zm tw w0 i d hb g O;have o:=Zm (Jv w) r i d hb g (by unfold cw at *;omega);have p:=(Rw u d).mul n;have q:=(Rw v d).mul o;have j:=p.add q;rw[m]at j;have k:(1:Rat)<=(c:Rat)\/(c:Rat)<=-1:=by
  rcases Int.lt_or_gt_of_ne l with h|h
  . have f:(c:Rat)<=((-1:Int):Rat):=Rat.intCast_le_intCast.2 O;exact Or.inr f
  . have f:((1:Int):Rat)<=(c:Rat):=Rat.intCast_le_intCast.2 O;exact Or.inl f
 have:=j.1;have:=j.2;grind
end
theorem Zn{A X B S T:Rat}(c:0<A*X)(d:0<X*B)(e:0<A*S)(f:0<T*B)(g:S*T<0):False:=by
 have a:=Rat.mul_pos (Rat.mul_pos c d) (Rat.mul_pos e f);have b:(A*X)*(X*B)*((A*S)*(T*B))=((A*X*B)*(A*X*B))*(S*T):=DG
 rw[b]at a;have:=Xl a;grind
section
variable {w v q:List Rat} {a b c d x y:Rat}
theorem Irr.nn(h:Irr w a b)(hq:Nr w a b λx z=>0<=ev q x\/0<=ev q z):De w a b q≠-1:=λe=>by
 obtain⟨k,f,hk⟩:=h.minus.1 e;obtain⟨x,z,_,_,_,_,c,d⟩:=h.some (hq.and hk);grind[Jp]
theorem Irr.np(h:Irr w a b)(hq:Nr w a b λx z=>ev q x<=0\/ev q z<=0):De w a b q≠1:=λe=>by
 obtain⟨k,f,hk⟩:=h.pos.1 e;obtain⟨x,z,_,_,_,_,c,d⟩:=h.some (hq.and hk);grind
theorem Xt(y x:Rat):ev [-y,1] x=x-y:=by simp only[ev];grind
def Di(w:List Rat)(a b x:Rat):Int:=De w a b [-x,1]
def Irr.sg3(h:Irr w a b)(q:List Rat):De w a b q=0\/De w a b q=1\/De w a b q=-1:=by
 rcases h.val q with⟨c,_⟩|⟨c,_⟩|⟨c,_⟩
 . exact Or.inl c
 . exact Or.inr (Or.inl c)
 omega
theorem Ry(a:ev w x≠0):DP w [-x,1]:=by
 obtain⟨s,hs⟩:∃s:List Rat,∀y,ev w y=ev w x+(y-x)*ev s y:=⟨Hj w x,λy=>NP w x y⟩;refine⟨[1/ev w x],DM (-(1/ev w x)) s,λy=>?_⟩;grind[Jp,ev]
theorem Irr.low(h:Irr w a b)(c:x<=a):Di w a b x=1:=by
 have n:Di w a b x≠-1:=h.nn ⟨1,DJ,λs t d _ _ _ _=>Or.inl (by show 0<=ev [-x,1] s;rw[Xt];grind)⟩;rcases h.sg3 [-x,1]with e|e|e
 . exfalso
   rcases Rat.le_iff_lt_or_eq.1 c with c|c
   . refine EH.not_abv h (h.zero.1 e) ⟨a-x,DG,1,DJ,λs t d f _ _ _=>?_⟩;show a-x<=ev [-x,1] s/\a-x<=ev [-x,1] t;rw[Xt,Xt];constructor<;>grind
   . exact h.cop (Ry (h.nz x DG (by have:=h.ab;grind))) e
 . exact e
 . exact absurd e n
theorem Irr.high(h:Irr w a b)(c:b<=x):Di w a b x=-1:=by
 have n:Di w a b x≠1:=h.np ⟨1,DJ,λs t _ _ d _ _=>Or.inr (by show ev [-x,1] t<=0;rw[Xt];grind)⟩;rcases h.sg3 [-x,1]with e|e|e
 . exfalso
   rcases Rat.le_iff_lt_or_eq.1 c with c|c
   . refine EH.not_abv h (((h.zero.1 e).mul [-1]).ext (p:=DM (-1) [-x,1]) λy=>by rw[Jp,Jd,Jq]) ⟨x-b,DG,1,DJ,λs t _ f g _ _=>?_⟩;show x-b<=ev (DM (-1) [-x,1]) s/\x-b<=ev (DM (-1) [-x,1]) t;grind[Jp,Xt]
   . exact h.cop (Ry (h.nz x (by have:=h.ab;grind) DG)) e
 . exact absurd e n
 . exact e
theorem Irr.cside(h:Irr w a b)(i:a<=x)(j:x<=b):(cw w x=cw w b+1->Di w a b x=1)/\(cw w x=cw w b->Di w a b x=-1):=by
 have nz:Di w a b x≠0:=h.cop (Ry (h.nz x i j));constructor
 . intro c1;have n:Di w a b x≠-1:=h.nn ⟨1,DJ,λs t c d f _ g=>Or.inr (by
    show 0<=ev [-x,1] t;rw[Xt];obtain⟨k,l,m⟩:=h.neg c d f g;rcases JV x t with r|r
    . grind
    . have:=Jy h.tw h.w0 r;omega)⟩
   rcases h.sg3 [-x,1]with e|e|e
   . exact absurd e nz
   . exact e
   . exact absurd e n
 . intro o;have n:Di w a b x≠1:=h.np ⟨1,DJ,λs t c d f _ g=>Or.inl (by
    show ev [-x,1] s<=0;rw[Xt];obtain⟨k,l,m⟩:=h.neg c d f g;rcases JV s x with r|r
    . grind
    . have:=Jy h.tw h.w0 r;omega)⟩
   rcases h.sg3 [-x,1]with e|e|e
   . exact absurd e nz
   . exact absurd e n
   . exact e
theorem Irr.ends(h:Irr w a b):ev w a*ev w b<0:=by
 obtain⟨s,t,c,f,e,_,g⟩:=h.near (d:=1) DJ;obtain⟨i,k,j⟩:=h.neg c (Rat.le_of_lt f) e g;have p1:=h.same Rat.le_refl c DG i;have l:=h.same (show a<=t by grind) e Rat.le_refl j;grind[YT,Xc,Stb,JB,Zn]
theorem Irr.mid(h:Irr w a b)(c:a<=x)(d:x<=b):(ev w x*ev w b<0->Di w a b x=1)/\(0<ev w x*ev w b->Di w a b x=-1):=by
 refine⟨λe=>?_,λe=>?_⟩
 . obtain⟨c1,c2,c3⟩:=h.neg c d Rat.le_refl e;exact(h.cside c d).1 c2
 . refine(h.cside c d).2 ?_;have k:=Jy h.tw h.w0 c;have l:=Jy h.tw h.w0 d;have:=h.one;by_cases i:cw w x=cw w b
   . exact i
   . exfalso
     have hs:=h.same Rat.le_refl c d O;have j:=h.ends;unfold Stb at hs;have f:=Rat.mul_pos hs e;have g:ev w a*ev w x*(ev w x*ev w b)=(ev w x*ev w x)*(ev w a*ev w b):=DG
     rw[g]at f;have:=Xl f;grind
def Irr.sid_ne(h:Irr w a b)(x:Rat):Di w a b x=1\/Di w a b x=-1:=by
 rcases JV x a with r|r
 . exact Or.inl (h.low r)
 . rcases JV b x with k|k
   . exact Or.inr (h.high k)
   . rcases YT (Xc (h.nz x r k) (h.nz b (Rat.le_of_lt h.ab) Rat.le_refl))with e|e
     . exact Or.inl ((h.mid r k).1 e)
     . exact Or.inr ((h.mid r k).2 e)
theorem Irr.sid_mono(h:Irr w a b)(f:x<=y):(Di w a b y=1->Di w a b x=1)/\(Di w a b x=-1->Di w a b y=-1):=by
 have key:Di w a b y=1->Di w a b x=1:=λe=>by
  obtain⟨c,c0,d⟩:=h.pos.1 e;refine h.pos.2 ⟨c,c0,d.mono λs t _ _ _ _ k=>?_⟩;grind[Xt]
 refine⟨key,λe=>?_⟩;rcases h.sid_ne y with k|k
 . have:=key k;omega
 . exact k
theorem Irr.sub(h:Irr w a b)(k:a<=c)(l:c<d)(m:d<=b)(e:ev w c*ev w d<0):Irr w c d/\∀q,De w c d q=De w a b q:=by
 obtain⟨n,o,p⟩:=h.neg k (Rat.le_of_lt l) m e;refine⟨⟨h.tw,h.w0,h.sq,l,λx i j=>h.nz x DG DG,o⟩,λq=>?_⟩;obtain⟨g,hg⟩:=Zk (q:=q) h.tw h.w0 h.sq;have r:=h.still (F:=λy=>DL (JF (EQ w q) y)) (λf=>hg.stay f) Rat.le_refl k DG n;have s:=h.still (F:=λy=>DL (JF (EQ w q) y)) (λf=>hg.stay f) (show a<=d by grind) m Rat.le_refl p;grind[De]
def Lt(w:List Rat)(a b:Rat)(v:List Rat)(c d:Rat):Prop:=∃x,Di w a b x=-1/\Di v c d x=1
theorem Irr.within(h:Irr w a b)(e:Di w a b c=1)(f:Di w a b d=-1):Nr w a b λx z=>c<=x/\z<=d:=by
 obtain⟨k,g,hk⟩:=h.pos.1 e;obtain⟨l,j,hl⟩:=h.minus.1 f;refine(hk.and hl).mono λx z _ _ _ _ i=>?_;grind[Xt,Jp]
def Irr.near_sid(h:Irr w a b){z:Rat}(c:a<=x)(d:x<=z)(f:z<=b)(e:ev w x*ev w z<0):Di w a b x=1/\Di w a b z=-1:=by
 obtain⟨i,j,g⟩:=h.neg c d f e;exact⟨(h.cside c (Rat.le_trans d f)).1 O,(h.cside (Rat.le_trans c d) f).2 g⟩
theorem ord_lt(h:Irr w a b)(k:Irr v c d)(u:Di w a b c=1)(y:Di w a b d=-1):(De w a b v=1->0<ev v d->Lt v c d w a b)/\(De w a b v=1->ev v d<0->Lt w a b v c d)/\(De w a b v=-1->ev v d<0->Lt v c d w a b)/\(De w a b v=-1->0<ev v d->Lt w a b v c d):=by
 have s:=h.within u y;refine⟨λe n=>?_,λe n=>?_,λe n=>?_,λe n=>?_⟩
 . obtain⟨m,t,f⟩:=h.pos.1 e;obtain⟨x,z,g,i,j,l,⟨o,p⟩,q,r⟩:=h.some (s.and f);exact⟨x,(k.mid o DG).2 (Rat.mul_pos DG n),(h.near_sid g i j l).1⟩
 . obtain⟨m,t,f⟩:=h.pos.1 e;obtain⟨x,z,g,i,j,l,⟨o,p⟩,q,r⟩:=h.some (s.and f);exact⟨z,(h.near_sid g i j l).2,(k.mid DG p).1 (by have:=Rat.mul_pos (show 0<ev v z by grind) (show 0 < -(ev v d)by grind);grind)⟩
 . obtain⟨m,t,f⟩:=h.minus.1 e;obtain⟨x,z,g,i,j,l,⟨o,p⟩,q,r⟩:=h.some (s.and f);rw[Jp]at q r;exact⟨x,(k.mid o DG).2 (by have:=Rat.mul_pos (show 0 < -(ev v x)by grind) (show 0 < -(ev v d)by grind);grind),(h.near_sid g i j l).1⟩
 . obtain⟨m,t,f⟩:=h.minus.1 e;obtain⟨x,z,g,i,j,l,⟨o,p⟩,q,r⟩:=h.some (s.and f);rw[Jp]at q r;exact⟨z,(h.near_sid g i j l).2,(k.mid DG p).1 (by have:=Rat.mul_pos (show 0 < -(ev v z)by grind) n;grind)⟩
theorem Zo(h:Irr w a b)(m:DX v)(n:Jc v=v)(e:De w a b v=0):Nr w a b λx z=>ev v x*ev v z<0:=by
 obtain⟨g,hg,d⟩:=h.sign v;have d:Nr w a b _:=d;have c:=(JK hg.tg hg.g0 hg.dq).2;have f:v=Ji g (Jm v g):=YL n (Jn _ _) λx=>by rw[Jd];exact c x
 have k:DP g (Jm v g):=DX.parts (by rw[<-f];exact m);refine(d.and (Nr.of_sh λl=>My k l)).mono λx z _ _ _ _ i=>?_;rcases i.1 with j|j|j
 . have st:=i.2.resolve_left λs=>by unfold Stb at s;have:=j.2;grind
   unfold Stb at st;have:=Rat.mul_pos (show 0 < -(ev g x*ev g z)by have:=j.2;grind) st;rw[c x,c z];grind
 . omega
 . omega
theorem qf(h:Irr w a b)(k:Irr v c d)(q:Di w a b c=1)(r:Di w a b d=-1)(e:De w a b v=0):∀x,Di w a b x=Di v c d x:=by
 have n:=(Zo h k.sq k.tw e).and (h.within q r);intro y;rcases h.sid_ne y with s|s
 . obtain⟨m,B,f⟩:=h.pos.1 s;obtain⟨x,z,t,g,u,A,⟨i,j,l⟩,o,p⟩:=h.some (n.and f);rw[Xt]at o;rw[s];exact((k.sid_mono DG).1 (k.near_sid j g l i).1).symm
 . obtain⟨m,B,f⟩:=h.minus.1 s;obtain⟨x,z,t,g,u,A,⟨i,j,l⟩,o,p⟩:=h.some (n.and f);rw[Jp,Xt]at p;rw[s];exact((k.sid_mono DG).2 (k.near_sid j g l i).2).symm
end
section
variable {w:List Rat} {a b x z s t m:Rat}
theorem IA(tw:Jc w=w)(w0:w≠[])(sw:DX w)(e:cw w x=cw w z)(i:x<t)(b:t<=z):ev w t≠0:=λa=>by
 obtain⟨A,p,hA⟩:=JI x;obtain⟨C,q,hC⟩:=JI z;have f:0<=A+C:=DG
 obtain⟨d,d0,m⟩:=(I2 tw w0 sw f).and (Zh sw f);have g:∀y,x<=y->y<=z->Wi (A+C) y:=λy i b=>⟨by have:=hA.1;have:=hC.1;grind,by have:=hC.2;grind⟩;obtain⟨k,r,s,u⟩:=Hx d0 (show 0<t-x by grind);have c:=m (t-k) t (g _ DG DG) (g t DG b) DG DG;have n:¬Stb w (t-k) t:=λh=>by unfold Stb at h;rw[a]at h;grind
 have l:=c.2 n DG;have o:ev w (t-k)≠0:=λe=>by rw[a,e]at l;grind
 have j:J2 w (t-k) t=1:=by
  unfold J2;rw[BE ⟨o,by rw[a];grind⟩]
 have v:=Jy tw w0 (show x<=t-k by grind);have B:=Jy tw w0 b;have:=c.1;omega
theorem K3(tw:Jc w=w)(w0:w≠[])(sw:DX w)(e:cw w x=cw w z)(f:x<=s)(hs:ev w s≠0)(a:s<=t)(u:t<=z):Stb w s t:=by
 obtain⟨A,o,hA⟩:=JI s;obtain⟨C,r,hC⟩:=JI t;have g:0<=A+C:=DG
 obtain⟨d,d0,k⟩:=I2 tw w0 sw g;have b:∀y,s<=y->y<=t->Wi (A+C) y:=λy f a=>⟨by have:=hA.1;have:=hC.1;grind,by have:=hC.2;grind⟩;have nz:∀y,s<=y->y<=t->ev w y≠0:=λy i j=>by
  grind[IA]
 have key:=Lp (F:=K1 w) a d0 λp q l c m n=>by
  have v:=k p q (b p l DG) (b q DG m) c n;have B:=Jy tw w0 (show x<=p by grind);have D:=Jy tw w0 c;have G:=Jy tw w0 (show q<=z by grind);grind[J2,Zl,Stb]
 unfold K1 at key;unfold Stb;rcases YT (nz s Rat.le_refl a)with p|p<;>rcases YT (nz t a Rat.le_refl)with q|q
 . have:=Rat.mul_pos (show 0 < -(ev w s)by grind) (show 0 < -(ev w t)by grind);grind
 . grind
 . grind
 . exact Rat.mul_pos p q
structure Spn(w:List Rat)(a b:Rat):Prop where
 tw:Jc w=w
 w0:w≠[]
 sq:DX w
 ab:a<b
 one:cw w a=cw w b+1
theorem Spn.neg(h:Spn w a b)(i:ev w a≠0)(hb:ev w b≠0):ev w a*ev w b<0:=by
 obtain⟨A,G,hA⟩:=JI a;obtain⟨C,H,hC⟩:=JI b;have v:0<=A+C:=DG
 obtain⟨d,d0,x⟩:=I2 h.tw h.w0 h.sq v;have m:∀y,a<=y->y<=b->Wi (A+C) y:=λy u K=>⟨by have:=hA.1;have:=hC.1;grind,by have:=hC.2;grind⟩;refine Classical.byContradiction λhn=>?_;have hp:0<ev w a*ev w b:=(YT (Xc i hb)).resolve_left hn;have:=Lp (F:=cw w) (Rat.le_of_lt h.ab) (show 0<d/2 by grind) λs t hs z l M=>by
  refine Classical.byContradiction λN=>?_;have S:=Jy h.tw h.w0 hs;have T:=Jy h.tw h.w0 z;have U:=Jy h.tw h.w0 l;have u:=h.one;have cs:cw w a=cw w s:=O
  have n:cw w t=cw w b:=O
  obtain⟨c,o,f,p,g⟩:∃c,t<=c/\c<=b/\c-s<=d/\ev w c≠0:=by
   by_cases I:ev w t=0
   . have e:t<b:=by
      rcases Rat.le_iff_lt_or_eq.1 l with r|r
      . exact r
      . grind
     obtain⟨k,P,Q,R⟩:=Hx (show 0<d/2 by grind) (show 0<b-t by grind);exact⟨t+k,DG,DG,DG,IA h.tw h.w0 h.sq n (show t<t+k by grind) DG⟩
   grind
  have c2:cw w c=cw w b:=by
   have:=Jy h.tw h.w0 o;have:=Jy h.tw h.w0 f;omega
  have L:=x s c (m s hs DG) (m c DG f) DG p;have p1:=K3 h.tw h.w0 h.sq cs Rat.le_refl i hs Rat.le_refl;have D:=K3 h.tw h.w0 h.sq c2 Rat.le_refl g f Rat.le_refl;obtain⟨_,B⟩:=JB p1;have j:J2 w s c=1:=O
  unfold J2 at j;have hle:ev w s*ev w c<=0:=by
   refine Rat.not_lt.1 λe=>?_;rw[BD λq=>by have:=q.2;grind]at j;cases j
  have e:ev w s*ev w c<0:=(YT (Xc B g)).resolve_right DG;have q1:0<ev w b*ev w b:=(YT (Xc hb hb)).resolve_left (by have:=Xi (ev w b);grind);exact Zn hp q1 p1 D e
 have:=h.one;omega
theorem Spn.cut(h:Spn w a b)(d:a<m)(c:m<b):((ev w m=0\/0<ev w m*ev w b)->Spn w a m)/\(ev w m≠0->(ev w b=0\/ev w m*ev w b<0)->Spn w m b):=by
 have i:=Jy h.tw h.w0 (Rat.le_of_lt d);have j:=Jy h.tw h.w0 (Rat.le_of_lt c);have g:=h.one;by_cases e:cw w m=cw w b
 . refine⟨λ_=>⟨h.tw,h.w0,h.sq,d,O⟩,λn k=>?_⟩;exfalso
   have nb:=IA h.tw h.w0 h.sq e c Rat.le_refl;have:=K3 h.tw h.w0 h.sq e Rat.le_refl n (Rat.le_of_lt c) Rat.le_refl;grind[Stb]
 . have f:cw w a=cw w m:=O
   have n:=IA h.tw h.w0 h.sq f d Rat.le_refl;have hs:Spn w m b:=⟨h.tw,h.w0,h.sq,c,O⟩;refine⟨λk=>?_,λ_ _=>hs⟩;exfalso
   rcases k with k|k
   . exact n k
   . obtain⟨_,nb⟩:=JB k;have:=hs.neg n nb;grind
theorem Spn.irr(h:Spn w a b)(c:ev w a≠0)(hn:∀x,a<x->x<=b->ev w x≠0):Irr w a b:=⟨h.tw,h.w0,h.sq,h.ab,λx i j=>by
 grind,h.one⟩
theorem Spn.rat(h:Spn w a b)(m:a<x)(n:x<=b)(e:ev w x=0):∀y,a<y->y<=b->ev w y=0->y=x:=λy i j k=>by
 have key:∀u v,a<u->u<v->v<=b->ev w u=0->ev w v=0->False:=λu v c d f g l=>by
  have c1:cw w u≠cw w b:=λe=>IA h.tw h.w0 h.sq e d f l;have c2:cw w a≠cw w u:=λe=>IA h.tw h.w0 h.sq e c Rat.le_refl g;have o:=Jy h.tw h.w0 (Rat.le_of_lt c);have p:=Jy h.tw h.w0 (show u<=b by grind);have:=h.one;omega
 grind
end
section
def hZ(n d:Int):List Int->Int
 |[]=>0
 |c::p=>c*d^p.length+n*hZ n d p
variable{L k:Int}{K:Nat}
theorem Rz(x:Rat):∀zs:List Int,zs≠[]->((x.den:Int):Rat)^(zs.length-1)*ev (zs.map λz:Int=>(z:Rat)) x=(hZ x.num (x.den:Int) zs:Rat):=by
 have g:((x.den:Int):Rat)*x=(x.num:Rat):=by
  have h:=Ci x;have f:((x.den:Int):Rat)≠0:=by have:=x.den_nz;exact_mod_cast this
  have e:x=(x.num:Rat)/((x.den:Int):Rat):=by rw[<-An];exact h.symm
  have b:=Ak (a:=(x.num:Rat)) f;rw[<-e]at b;rw[A2];exact b
 intro zs;induction zs with
 |nil=>intro h;exact absurd J h
 |cons c p d=>
  intro _;match p,d with
  |[],_=>simp[hZ,ev];grind
  |c2::p,d=>
   rw[hZ,List.map_cons,IF];grind
theorem qg(n d:Int):∀(zs:List Int) (h:zs≠[]),∃q,hZ n d zs=d*q+zs.getLast h*n^(zs.length-1):=by
 intro zs;induction zs with
 |nil=>intro h;exact absurd J h
 |cons c p b=>
  intro a;match p,b,a with
  |[],_,_=>exact⟨0,by simp[hZ]⟩
  |c2::p,b,a=>
   have hg:(c::c2::p).getLast a=(c2::p).getLast DH:=List.getLast_cons DH;obtain⟨q,hq⟩:=b DH;refine⟨c*d^p.length+n*q,?_⟩;grind[hZ]
theorem R1{zs:List Int}(h:zs≠[]){x:Rat}(e:ev (zs.map λz:Int=>(z:Rat)) x=0):(x.den:Int)∣zs.getLast h:=by
 have a:=Rz x zs h;rw[e,Fk]at a;have b:hZ x.num (x.den:Int) zs=0:=by exact_mod_cast a.symm
 obtain⟨q,hq⟩:=qg x.num (x.den:Int) zs h;rw[b]at hq;have c:(x.den:Int)∣zs.getLast h*x.num^(zs.length-1):=⟨-q,by rw[Int.mul_neg];omega⟩;have d:x.den∣(zs.getLast h).natAbs*x.num.natAbs^(zs.length-1):=by
  have:=Cu.2 c;rwa[Co,Int.natAbs_pow,AF]at this
 have f:Nat.Coprime x.den (x.num.natAbs^(zs.length-1)):=(x.reduced.symm).pow_right _;have g:=f.dvd_of_dvd_mul_right d;grind[Cu,AF]
def Wh.ints{p:List Rat}(h:Wh K p):∃zs:List Int,p=zs.map (λz:Int=>(z:Rat)):=by
 induction p with
 |nil=>exact⟨[],J⟩
 |cons c p d=>
  obtain⟨zs,e⟩:=d (λi=>by obtain⟨z,b,a⟩:=h (i+1);exact⟨z,b,by rw[<-a];rfl⟩);obtain⟨z,_,a⟩:=h 0;exact⟨z::zs,by rw[List.map_cons,<-e,<-a];rfl⟩
def J0(x:Rat)(L:Int):Int:=x.num*L/(x.den:Int)
theorem NC{x:Rat}:k<=J0 x L↔(k:Rat)<=x*(L:Rat):=by
 have b:(0:Int)<(x.den:Int):=by have:=x.den_nz;omega
 have g:x*((x.den:Int):Rat)=(x.num:Rat):=by
  have h:=Ci x;have b:((x.den:Int):Rat)≠0:=by have:=x.den_nz;exact_mod_cast this
  have d:x=(x.num:Rat)/((x.den:Int):Rat):=by rw[<-An];exact h.symm
  have f:=Ak (a:=(x.num:Rat)) b;rw[<-d]at f;exact f
 have c:(0:Rat)<((x.den:Int):Rat):=by exact_mod_cast b
 unfold J0;rw[Int.le_ediv_iff_mul_le b,<-Rat.intCast_le_intCast,At,At,<-g];have e:x*((x.den:Int):Rat)*(L:Rat)=x*(L:Rat)*((x.den:Int):Rat):=DG
 rw[e];constructor
 . intro h;refine Rat.not_lt.1 λd=>?_;have:=Rat.mul_pos (show 0<(k:Rat)-x*(L:Rat)by grind) c;grind
 . intro h;have:=Rat.mul_nonneg (show 0<=x*(L:Rat)-(k:Rat)by grind) (Rat.le_of_lt c);grind
theorem qh{a b x:Rat}(e:0<L)(d:x*(L:Rat)=(k:Rat))(f:a<x)(g:x<=b)(i:J0 b L-J0 a L<=1):k=J0 b L:=by
 have c:(0:Rat)<(L:Rat):=by exact_mod_cast e
 have j:k<=J0 b L:=NC.2 (by rw[<-d];have:=Rat.mul_nonneg (show 0<=b-x by grind) (Rat.le_of_lt c);grind);have l:¬k<=J0 a L:=λh=>by
  have:=NC.1 h;rw[<-d]at this;have:=Rat.mul_pos (show 0<x-a by grind) c;grind
 omega
theorem qi{w:List Rat}(j:Wh K w)(w0:w≠[])(i:cf w (w.length-1)=(L:Rat)){x:Rat}(e:ev w x=0):∃k:Int,x*(L:Rat)=(k:Rat):=by
 obtain⟨zs,c⟩:=j.ints;have z0:zs≠[]:=λh=>w0 (by rw[c,h];rfl);have hl:zs.getLast z0=L:=by
  have d:cf w (w.length-1)=((zs.getLast z0:Int):Rat):=by
   rw[c];unfold cf;rw[Cw,CW,<-List.getLast?_eq_getElem?,List.getLast?_eq_some_getLast z0];rfl
  rw[i]at d;exact_mod_cast d.symm
 have b:=R1 z0 (x:=x) (by rw[<-c];exact e);rw[hl]at b;obtain⟨q,hq⟩:=b;refine⟨x.num*q,?_⟩;have l:x*((x.den:Int):Rat)=(x.num:Rat):=by
  have h:=Ci x;have b:((x.den:Int):Rat)≠0:=by have:=x.den_nz;exact_mod_cast this
  have g:x=(x.num:Rat)/((x.den:Int):Rat):=by rw[<-An];exact h.symm
  have f:=Ak (a:=(x.num:Rat)) b;rw[<-g]at f;exact f
 rw[hq,At,At,<-l];grind
def Db(a b:Rat):Rat:=(a+b)/2
theorem Gj{a b:Rat}(h:a<b):a<Db a b/\Db a b<b/\Db a b-a=(b-a)/2/\b-Db a b=(b-a)/2:=by
 unfold Db;grind
def Dl(w:List Rat):Nat->Rat->Rat->List (Rat × Rat)
 |0,a,b=>if cw w a<=cw w b then []else [(a,b)]
 |k+1,a,b=>if cw w a<=cw w b then []else if cw w a=cw w b+1 then [(a,b)]else Dl w k a (Db a b)++Dl w k (Db a b) b
def Et(w:List Rat)(H D:Rat):Prop:=∀x z,Wi H x->Wi H z->x<=z->cw w z+2<=cw w x->1<=D*(z-x)
theorem Y3(k:Nat):(0:Rat)<2^k:=by
 induction k with
 |zero=>grind
 |succ k a=>rw[Rat.pow_succ];grind
theorem Wi.between{H a b x:Rat}(c:Wi H a)(hb:Wi H b)(d:a<=x)(e:x<=b):Wi H x:=⟨by have:=c.1;grind,by have:=hb.2;grind⟩
section
variable {w:List Rat} {H D:Rat} (tw:Jc w=w) (w0:w≠[]) (sw:DX w) (hA:Et w H D)
theorem Zp(tw:Jc w=w)(w0:w≠[])(hA:Et w H D):∀(k:Nat) (a b:Rat),Wi H a->Wi H b->a<b->D*(b-a)<2^k->(Dl w k a b).length=cw w a-cw w b:=by
 intro k;induction k with
 |zero=>
  intro a b c hb d f;rw[Rat.pow_zero]at f;rw[Dl];have m:=Jy tw w0 (Rat.le_of_lt d);by_cases h:cw w a<=cw w b
  . grind
  . rw[BD h];by_cases e:cw w b+2<=cw w a
    . have:=hA a b c hb (Rat.le_of_lt d) e;grind
    grind
 |succ k l=>
  intro a b c hb d f;obtain⟨g,i,n,o⟩:=Gj d;have j:=c.between hb (Rat.le_of_lt g) (Rat.le_of_lt i);rw[Rat.pow_succ]at f;have c1:=Jy tw w0 (Rat.le_of_lt g);have c2:=Jy tw w0 (Rat.le_of_lt i);rw[Dl];by_cases h:cw w a<=cw w b
  . grind
  . rw[BD h];by_cases e:cw w a=cw w b+1
    . grind
    . rw[BD e,AD,l a _ c j g (by rw[n];grind),l _ b j hb i (by rw[o];grind)];omega
theorem R2(tw:Jc w=w)(w0:w≠[])(sw:DX w)(hA:Et w H D):∀(k:Nat) (a b:Rat),Wi H a->Wi H b->a<b->D*(b-a)<2^k->∀s∈Dl w k a b,Spn w s.1 s.2/\a<=s.1/\s.2<=b:=by
 intro k;induction k with
 |zero=>
  intro a b e hb c f s hs;rw[Rat.pow_zero]at f;rw[Dl]at hs;by_cases h:cw w a<=cw w b
  . grind
  . rw[BD h,List.mem_singleton]at hs;subst hs;refine⟨⟨tw,w0,sw,c,?_⟩,Rat.le_refl,Rat.le_refl⟩;by_cases d:cw w b+2<=cw w a
    . have:=hA a b e hb (Rat.le_of_lt c) d;grind
    grind
 |succ k l=>
  intro a b e hb c f s hs;obtain⟨g,i,m,n⟩:=Gj c;have j:=e.between hb (Rat.le_of_lt g) (Rat.le_of_lt i);rw[Rat.pow_succ]at f;rw[Dl]at hs;by_cases h:cw w a<=cw w b
  . grind
  . rw[BD h]at hs;by_cases d:cw w a=cw w b+1
    . rw[BE d,List.mem_singleton]at hs;subst hs;exact⟨⟨tw,w0,sw,c,d⟩,Rat.le_refl,Rat.le_refl⟩
    grind
theorem qj(tw:Jc w=w)(w0:w≠[])(sw:DX w)(hA:Et w H D):∀(k:Nat) (a b:Rat),Wi H a->Wi H b->a<b->D*(b-a)<2^k->(Dl w k a b).Pairwise λs t=>s.2<=t.1:=by
 intro k;induction k with
 |zero=>
  intro a b _ _ _ _;rw[Dl];split
  . exact List.Pairwise.nil
  grind
 |succ k g=>
  intro a b d hb n o;obtain⟨e,f,l,m⟩:=Gj n;have c:=d.between hb (Rat.le_of_lt e) (Rat.le_of_lt f);rw[Rat.pow_succ]at o;rw[Dl];split
  . exact List.Pairwise.nil
  . split
    . grind
    . refine List.pairwise_append.2 ⟨g a _ d c e (by rw[l];grind),g _ b c hb f (by rw[m];grind),λs hs t p=>?_⟩;have i:=(R2 tw w0 sw hA k a _ d c e (by rw[l];grind) s hs).2.2;have j:=(R2 tw w0 sw hA k _ b c hb f (by rw[m];grind) t p).2.1;grind
end
def qm{K:Nat}{w:List Rat}(tw:Jc w=w)(sw:DX w)(g:Wh K w)(hs:Wh K (Jb w))(hl:3<=w.length)(m:w.length<=100){H:Rat}(b:0<=H):∃u v:List Rat,Wh ((K+1)*(w.length+(Jb w).length)) u/\Wh ((K+1)*(w.length+(Jb w).length)) v/\u.length<=w.length/\v.length<=w.length/\Et w H (GW H u*Eo H w+GW H v*Eo H (Jb w)):=by
 have w0:w≠[]:=λe=>by rw[e]at hl;simp at hl
 have l1:=Y6 w0;have l2:2<=(Jb w).length:=by
  have h:=Js tw w0;have e:cf (Jb w) (w.length-2)≠0:=by
   rw[XM,show w.length-2+1=w.length-1 by omega];exact Xc h (by have:((w.length-1:Nat):Int)≠0:=(by omega);exact_mod_cast this)
  have:=RG e;omega
 obtain⟨u,v,c,f,hv,d,n,l,e⟩:=qY tw (Jv w) g hs O O l2 sw;exact⟨u,v,f,hv,O,l,λx z i k j a=>sep tw O d e b i k j a⟩
end
section
def Ez(w:List Rat)(a b m:Rat):Rat × Rat:=if ev w m=0\/0<ev w m*ev w b then(a,m)else(m,b)
variable{L:Int}
theorem Zq{w:List Rat}{a b m:Rat}(h:Spn w a b)(d:a<m)(f:m<b):Spn w (Ez w a b m).1 (Ez w a b m).2/\a<=(Ez w a b m).1/\(Ez w a b m).2<=b/\((Ez w a b m).1=a\/ev w (Ez w a b m).1≠0):=by
 unfold Ez;by_cases c:ev w m=0\/0<ev w m*ev w b
 . rw[BE c];exact⟨(h.cut d f).1 c,Rat.le_refl,Rat.le_of_lt f,Or.inl J⟩
 . rw[BD c];have n:ev w m≠0:=λe=>c (Or.inl e);refine⟨(h.cut d f).2 n ?_,Rat.le_of_lt d,Rat.le_refl,Or.inr n⟩;grind[Xc]
theorem qn{w:List Rat}{a b:Rat}(h:a<b):(Ez w a b (Db a b)).2-(Ez w a b (Db a b)).1=(b-a)/2:=by
 grind[Gj,Ez]
def IB(w:List Rat)(L:Int):Nat->Rat->Rat->Rat × Rat
 |0,a,b=>(a,b)
 |k+1,a,b=>if 1<J0 b L-J0 a L\/ev w a=0 then IB w L k (Ez w a b (Db a b)).1 (Ez w a b (Db a b)).2 else(a,b)
theorem qo{a b:Rat}(h:(L:Rat)*(b-a)<1):J0 b L-J0 a L<=1:=by
 have e:=NC.1 (Int.le_refl (J0 b L));have c:¬J0 a L+1<=J0 a L:=O
 have f:a*(L:Rat)<((J0 a L+1:Int):Rat):=Rat.not_le.1 λh=>c (NC.2 h);have d:((J0 b L:Int):Rat)<((J0 a L+2:Int):Rat):=by
  rw[show J0 a L+2=(J0 a L+1)+1 by omega,CY (J0 a L+1) 1]
  have:((1:Int):Rat)=1:=rfl
  grind
 have:J0 b L<J0 a L+2:=Rat.intCast_lt_intCast.1 d
 omega
theorem qp{w:List Rat}{H D a b:Rat}(hA:Et w H D)(hD:0<=D)(h:Spn w a b)(c:ev w a=0)(f:-H<a)(hb:Wi H b):1<=D*(b-a):=by
 refine Rat.not_lt.1 λhn=>?_;obtain⟨k,o,p,q⟩:=Hx (show 0<a+H by grind) (show 0<(1-D*(b-a))/(D+1)from Yo DG DG);have g:=h.ab;have d:Wi H (a-k):=⟨DG,by have:=hb.2;grind⟩;have l:cw w (a-k)≠cw w a:=λe=>IA h.tw h.w0 h.sq e (show a-k<a by grind) Rat.le_refl c;have m:=Jy h.tw h.w0 (show a-k<=a by grind);have n:=h.one;have i:=hA (a-k) b d hb DG O;have e:(1-D*(b-a))/(D+1)*(D+1)=1-D*(b-a):=Ak DG;have j:=Rat.mul_nonneg (a:=(1-D*(b-a))/(D+1)-k) (b:=D+1) DG DG;grind
structure Stld(w:List Rat)(L:Int)(a b:Rat):Prop where
 spn:Spn w a b
 one:J0 b L-J0 a L<=1
 low:ev w a≠0
theorem qq{w:List Rat}{H D:Rat}(hA:Et w H D)(hD:0<=D):∀(k:Nat) (a b:Rat),Spn w a b->-H<a->Wi H b->D*(b-a)<2^k->(L:Rat)*(b-a)<2^k->Stld w L (IB w L k a b).1 (IB w L k a b).2/\a<=(IB w L k a b).1/\(IB w L k a b).2<=b:=by
 intro k;induction k with
 |zero=>
  intro a b h g hb f c;rw[Rat.pow_zero]at f c;refine⟨⟨h,qo c,λe=>?_⟩,Rat.le_refl,Rat.le_refl⟩;have:=qp hA hD h e g hb;grind
 |succ k j=>
  intro a b h g hb f c;rw[Rat.pow_succ]at f c;rw[IB];by_cases d:1<J0 b L-J0 a L\/ev w a=0
  . rw[BE d];obtain⟨l,m,_,_⟩:=Gj h.ab;grind[Zq,qn,Wi]
  . rw[BD d];have i:J0 b L-J0 a L<=1:=by have:=λq=>d (Or.inl q);omega
    exact⟨⟨h,i,λe=>d (Or.inr e)⟩,Rat.le_refl,Rat.le_refl⟩
theorem Stld.fin{K:Nat}{w:List Rat}{a b:Rat}(h:Stld w L a b)(o:Wh K w)(n:cf w (w.length-1)=(L:Rat))(c:0<L):
 (a<Rat.divInt (J0 b L) L->ev w (Rat.divInt (J0 b L) L)=0->Rat.divInt (J0 b L) L<=b/\∀y,a<y->y<=b->ev w y=0->y=Rat.divInt (J0 b L) L)/\
 (¬(a<Rat.divInt (J0 b L) L/\ev w (Rat.divInt (J0 b L) L)=0)->Irr w a b):=by
 have g:(0:Rat)<(L:Rat):=by exact_mod_cast c
 obtain⟨x,d⟩:=ex (Rat.divInt (J0 b L) L);have ex:x*(L:Rat)=((J0 b L:Int):Rat):=by
  rw[<-d,An];exact Ak DG
 have f:x<=b:=by
  have:=NC.1 (Int.le_refl (J0 b L));rw[<-ex]at this;refine Rat.not_lt.1 λk=>?_;have:=Rat.mul_pos (show 0<x-b by grind) g;grind
 rw[d];refine⟨λl m=>⟨f,h.spn.rat l f m⟩,λhn=>h.spn.irr h.low λy i j e=>?_⟩;obtain⟨k,hk⟩:=qi o h.spn.w0 n e;have p:=qh c hk i j h.one;grind[Cx]
section
variable {w q p r g u:List Rat} {a b x z:Rat}
theorem Em.add_sml(h:Em w a b q)(hs:EH w a b p):Em w a b (YK q p):=by
 obtain⟨c,c0,d⟩:=h;refine⟨c/2,DG,(d.and (hs (c/2) DG)).mono λx z _ _ _ _ i=>?_⟩;rw[Yg,Yg];have e:=i.2.1.1;have f:=i.2.2.1;constructor<;>grind
def EH.add(h:EH w a b q)(hs:EH w a b p):EH w a b (YK q p):=λe c=>by
 refine((h (e/2) DG).and (hs (e/2) DG)).mono λx z _ _ _ _ i=>?_;rw[Yg,Yg];exact⟨(i.1.1.add i.2.1).mono DG,(i.1.2.add i.2.2).mono DG⟩
theorem Irr.add_sml(h:Irr w a b)(hs:EH w a b p):De w a b (YK q p)=De w a b q:=by
 rcases h.val q with⟨c,d⟩|⟨c,d⟩|⟨c,d⟩
 . rw[c];exact h.zero.2 (d.add hs)
 . rw[c];exact h.pos.2 (d.add_sml hs)
 . rw[c];refine h.minus.2 ((d.add_sml ((hs.mul [-1]).ext (p:=DM (-1) p) λx=>?_)).ext λx=>?_)
   . rw[Jp,Jd,Jq]
   grind[Jp,Yg]
def Irr.slope(h:Irr w a b)(r:List Rat):De w a b (Jb (Ji w r))=De w a b (Jb w)*De w a b r:=by
 rw[TB,h.add_sml (Oq.mul (Jb r)),h.mul]
def Irr.slope_ne(h:Irr w a b):De w a b (Jb w)≠0:=h.cop h.sq
theorem Irr.times(h:Irr w a b){c:List Rat}{i:Nat}(l:DP w c)(hp:∀x,ev p x=ev w x*(ev w x^i*ev c x))(tp:Jc p=p):De w a b (Jb p)=0↔1<=i:=by
 obtain⟨r,d⟩:∃r:List Rat,∀x,ev r x=ev w x^i*ev c x:=by
  clear hp tp l;induction i with
  |zero=>exact⟨c,λx=>by grind⟩
  |succ i g=>
   obtain⟨r,d⟩:=g;exact⟨Ji w r,λx=>by rw[Jd,d,Rat.pow_succ];grind⟩
 have e:p=Ji w r:=YL tp (Jn _ _) λx=>by rw[Jd,d,hp]
 rw[e,h.slope];constructor
 . intro k;rcases AN i with f|f
   . exfalso
     rcases Int.mul_eq_zero.1 k with k|k
     . exact h.slope_ne k
     . refine h.cop l ((h.ext λx=>?_).symm.trans k);rw[d,f,Rat.pow_zero,Fg]
   . exact f
 . intro k;obtain⟨j,rfl⟩:∃j,i=j+1:=⟨i-1,O⟩
   have:EH w a b r:=by
    obtain⟨s,hs⟩:∃s:List Rat,∀x,ev s x=ev w x^j*ev c x:=by
     clear d hp;clear k e;induction j with
     |zero=>exact⟨c,λx=>by grind⟩
     |succ i g=>
      obtain⟨r,d⟩:=g;exact⟨Ji w r,λx=>by rw[Jd,d,Rat.pow_succ];grind⟩
    exact(Oq.mul s).ext λx=>by rw[Jd,hs,d,Rat.pow_succ];grind
   rw[h.zero.2 this,Fx]
def R3(tg:Jc g=g)(g0:g≠[])(f:Jc u=u)(u0:u≠[])(sg:DX g)(e:DX u)(d:DP g u)(j:a<=b):cw (Ji g u) a+(cw g b+cw u b)=cw (Ji g u) b+(cw g a+cw u a):=by
 obtain⟨A,k,hA⟩:=JI a;obtain⟨C,l,hC⟩:=JI b;have c:0<=A+C:=DG
 have s:=(((I2 (Jn g u) (Yu tg f g0 u0) (sg.mul e d) c).and (I2 tg g0 sg c)).and (I2 f u0 e c)).and (Mw d c);exact glue (B:=A+C) (F:=cw (Ji g u)) (G:=λx=>cw g x+cw u x) (s.mono λx z _ _ _ i=>by
  omega) (hA.mono DG) (hC.mono DG) j
theorem Irr.factor(h:Irr w a b)(tg:Jc g=g)(g0:g≠[])(o:Dv g w):(De w a b g=0/\cw g a=cw g b+1)\/(De w a b g≠0/\cw g a=cw g b):=by
 have n:=(JK tg g0 o).2;have p:Jc (Jm w g)=Jm w g:=YG _ _;have ew:w=Ji g (Jm w g):=YL h.tw (Jn _ _) λx=>by rw[Jd];exact n x
 have u0:Jm w g≠[]:=λe=>h.w0 (by rw[ew,e,YM]);have sw:DX (Ji g (Jm w g)):=by rw[<-ew];exact h.sq
 have sg:DX g:=h.sq.of_dv h.tw o;have t:DX (Jm w g):=h.sq.of_dv h.tw ⟨g,λx=>by rw[n x,A2]⟩;have H:=sw.parts;have q:=Rat.le_of_lt h.ab;have k:=R3 tg g0 p u0 sg t H q;rw[<-ew]at k;have K:=Jy tg g0 q;have L:=Jy p u0 q;have I:=h.one;have u:∀y,a<=y->y<=b->ev g y≠0:=λy i j e=>h.nz y i j DG;have v:∀y,a<=y->y<=b->ev (Jm w g) y≠0:=λy i j e=>h.nz y i j DG;by_cases hg:cw g a=cw g b
 . refine Or.inr ⟨λe=>?_,hg⟩;obtain⟨x,z,f,l,m,_,D⟩:=h.some (Zo h sg tg e);have:=K3 tg g0 sg hg f (u x f DG) l m;unfold Stb at this;grind
 . have B:cw g a=cw g b+1:=O
   have A:cw (Jm w g) a=cw (Jm w g) b:=O
   refine Or.inl ⟨?_,B⟩;have hi:Irr g a b:=⟨tg,g0,sg,h.ab,u,B⟩;rcases h.val g with⟨G,_⟩|⟨_,c,c0,d,d0,o⟩|⟨_,c,c0,d,d0,o⟩
   . exact G
   . exfalso
     obtain⟨x,z,f,l,m,s,D⟩:=hi.near d0;have st:=K3 p u0 t A f (v x f DG) (Rat.le_of_lt l) m;unfold Stb at st;have r:ev w x*ev w z<0:=by
      rw[n x,n z];have:=Rat.mul_pos (show 0 < -(ev g x*ev g z)by grind) st;grind
     have j:=o x z f (Rat.le_of_lt l) m s r;have:=Rat.mul_pos (show 0<ev g x by have:=j.1;grind) (show 0<ev g z by have:=j.2;grind);grind
   . exfalso
     obtain⟨x,z,f,l,m,s,D⟩:=hi.near d0;have st:=K3 p u0 t A f (v x f DG) (Rat.le_of_lt l) m;unfold Stb at st;have r:ev w x*ev w z<0:=by
      rw[n x,n z];have:=Rat.mul_pos (show 0 < -(ev g x*ev g z)by grind) st;grind
     have j:c<=ev (DM (-1) g) x/\c<=ev (DM (-1) g) z:=o x z f (Rat.le_of_lt l) m s r;rw[Jp,Jp]at j;have:=Rat.mul_pos (show 0 < -(ev g x)by have:=j.1;grind) (show 0 < -(ev g z)by have:=j.2;grind);grind
theorem Irr.gcd(h:Irr w a b)(tq:Jc q=q):De w a b q=0↔cw (Jt w q) a=cw (Jt w q) b+1:=by
 have tg:=JE w q;have g0:=Yd h.tw tq (Or.inl h.w0);obtain⟨d1,m,_⟩:=Yc h.tw tq;obtain⟨g,hg,d⟩:=h.sign q;have d:Nr w a b _:=d;have l:Dv g (Jt w q):=Iv h.tw tq hg.dw hg.dq;have key:De w a b q=0↔De w a b (Jt w q)=0:=by
  constructor
  . intro e;obtain⟨c,f⟩:=l;refine h.zero.2 (EH.ext (q:=Ji g c) (EH.mul (λk hk=>(d.and (Nr.of_sh λn=>Xo g n hk)).mono λx z _ _ _ _ i=>i.2 λo=>?_) c) λx=>by rw[Jd];exact f x);rcases i.1 with j|j|j
    . unfold Stb at o;have:=j.2;grind
    . omega
    . omega
  . intro e;obtain⟨c,f⟩:=m;exact h.zero.2 (((h.zero.1 e).mul c).ext λx=>by rw[Jd];exact f x)
 rw[key];rcases h.factor tg g0 d1 with⟨p,r⟩|⟨p,r⟩
 . omega
 omega
end
end
section
variable {w:List Rat} {x z:Rat}
theorem qr(tw:Jc w=w)(w0:w≠[])(sw:DX w)(l:x<=z)(H:ev w z≠0)(j:cw w x≠cw w z):∃s t,x<=s/\s<t/\t<=z/\ev w s≠0/\ev w t≠0/\cw w s=cw w t+1:=by
 obtain⟨A,n,hA⟩:=JI x;obtain⟨C,o,hC⟩:=JI z;have i:0<=A+C:=DG
 obtain⟨d,d0,c⟩:=I2 tw w0 sw i;have a:∀y,x<=y->y<=z->Wi (A+C) y:=λy q u=>⟨by have:=hA.1;have:=hC.1;grind,by have:=hC.2;grind⟩;refine Classical.byContradiction λhn=>j ?_;refine Lp (F:=cw w) l (show 0<d/2 by grind) λs t hs f g B=>?_;refine Classical.byContradiction λG=>?_;have b:cw w s=cw w t+J2 w s t:=c s t (a s hs DG) (a t DG g) f DG;have m:ev w s≠0:=λe=>by
  unfold J2 at b;grind
 have one:cw w s=cw w t+1:=by
  unfold J2 at b;split at b<;>omega
 have lt:s<t:=by
  rcases Rat.le_iff_lt_or_eq.1 f with r|r
  . exact r
  . rw[r]at one;omega
 by_cases p:ev w t=0
 . have D:t<z:=by
    rcases Rat.le_iff_lt_or_eq.1 g with r|r
    . exact r
    . grind
   obtain⟨k,I,K,L⟩:=Hx (show 0<d/2 by grind) (show 0<z-t by grind);have v:cw w s=cw w (t+k)+J2 w s (t+k):=c s (t+k) (a s hs DG) (a _ DG DG) DG DG;have N:=Jy tw w0 (show t<=t+k by grind);have M:J2 w s (t+k)<=1:=by unfold J2;split<;>omega
   have e:cw w t=cw w (t+k):=O
   exact hn ⟨s,t+k,hs,DG,DG,m,IA tw w0 sw e (show t<t+k by grind) Rat.le_refl,O⟩
 grind
theorem Zs(tw:Jc w=w)(w0:w≠[])(sw:DX w):∀(n:Nat) (x z:Rat),x<=z->ev w x≠0->ev w z≠0->cw w x=cw w z+n->(n%2=0->0<ev w x*ev w z)/\(n%2=1->ev w x*ev w z<0):=by
 intro n;induction n using Nat.strongRecOn with
 |_ n q=>
  intro x z o m p y;rcases AN n with r|r
  . subst r;have:=K3 tw w0 sw (show cw w x=cw w z by omega) Rat.le_refl m o Rat.le_refl;exact⟨λ_=>this,λh=>by omega⟩
  . obtain⟨s,t,k,v,l,f,g,e⟩:=qr tw w0 sw o p O;have A:=Jy tw w0 k;have D:=Jy tw w0 l;have B:=(Spn.mk tw w0 sw v e).neg f g;obtain⟨p1,u⟩:=q (cw w x-cw w s) O x s k m f O;obtain⟨q1,q2⟩:=q (cw w t-cw w z) O t z l g p O;have key:(ev w s*ev w t)*(ev w s*ev w t)*(ev w x*ev w z)=(ev w x*ev w s)*(ev w s*ev w t)*(ev w t*ev w z):=DG
    have Q:0<(ev w s*ev w t)*(ev w s*ev w t):=(YT (Xc (Xc f g) (Xc f g))).resolve_left (by have:=Xi (ev w s*ev w t);grind);generalize ev w s*ev w t=b at *;generalize ev w x*ev w s=i at *;generalize ev w t*ev w z=j at *;rcases Nat.mod_two_eq_zero_or_one (cw w x-cw w s)with r1|r1<;>rcases Nat.mod_two_eq_zero_or_one (cw w t-cw w z)with d|d
    . have a:=p1 r1;have c:=q1 d;have:=Rat.mul_pos (Rat.mul_pos a (show 0 < -b by grind)) c;exact⟨λh=>by omega,λ_=>XO Q (by rw[key];grind)⟩
    . have a:=p1 r1;have c:=q2 d;have:=Rat.mul_pos (Rat.mul_pos a (show 0 < -b by grind)) (show 0 < -j by grind);grind[YS]
    . have a:=u r1;have c:=q1 d;have:=Rat.mul_pos (Rat.mul_pos (show 0 < -i by grind) (show 0 < -b by grind)) c;grind[YS]
    . have a:=u r1;have c:=q2 d;have:=Rat.mul_pos (Rat.mul_pos (show 0 < -i by grind) (show 0 < -b by grind)) (show 0 < -j by grind);exact⟨λh=>by omega,λ_=>XO Q (by rw[key];grind)⟩
theorem Zt(n:Nat):(n%2=0->(-1:Rat)^n=1)/\(n%2=1->(-1:Rat)^n=-1):=by
 induction n with
 |zero=>grind
 |succ n a=>
  grind
theorem qu(tw:Jc w=w)(w0:w≠[])(sw:DX w):DL (El (Ju w))<=DL (D5 (Ju w))/\(DL (D5 (Ju w))-DL (El (Ju w)))%2=(w.length-1)%2:=by
 obtain⟨B1,n,j,hD⟩:=YJ (J4 tw w0);obtain⟨B2,o,g⟩:=PQ tw w0;obtain⟨B3,p,i⟩:=TH tw w0;obtain⟨X,hX⟩:=ex (B1+B2+B3);have u:=j X DG;have d:=hD (-X) DG;have b:=g X DG;have c:=i (-X) DG;have m:=Jy tw w0 (show -X<=X by grind);unfold cw at m;rw[u,d]at m;refine⟨m,?_⟩;obtain⟨_,k⟩:=JB b;obtain⟨_,l⟩:=JB c;obtain⟨p1,q⟩:=Zs tw w0 sw (DL (D5 (Ju w))-DL (El (Ju w))) (-X) X DG l k (by unfold cw;rw[u,d];omega);have e:=Rat.mul_pos b c;have f:cf w (w.length-1)*ev w X*((-1)^(w.length-1)*cf w (w.length-1)*ev w (-X))=(cf w (w.length-1)*cf w (w.length-1))*((-1)^(w.length-1)*(ev w (-X)*ev w X)):=DG
 rw[f]at e;have a:=Xl e;rcases Nat.mod_two_eq_zero_or_one (w.length-1)with r|r
 . rw[(Zt _).1 r,Fg]at a;grind
 . rw[(Zt _).2 r]at a;grind
end
section
def EU:List (List Rat × Nat)->List Rat
 |[]=>[1]
 |s::L=>Ji s.1 (EU L)
structure PtsOk(L:List (List Rat × Nat)):Prop where
 all:∀s∈L,Jc s.1=s.1/\s.1≠[]/\DX s.1/\1<=s.2
 cop:L.Pairwise λa b=>DP a.1 b.1
variable{L:List (List Rat × Nat)}{T:Rat->Int}
def PtsOk.tail{s:List Rat × Nat}(h:PtsOk (s::L)):PtsOk L:=⟨λt a=>h.all t (AA _ a),(List.pairwise_cons.1 h.cop).2⟩
theorem IQ(L:List (List Rat × Nat)):Jc (EU L)=EU L:=by
 cases L with
 |nil=>decide +kernel
 |cons s L=>exact Jn _ _
theorem ND(c:List Rat):DP [1] c:=⟨[1],[],λx=>by simp[ev];grind⟩
def NE:∀(L:List (List Rat × Nat)) (c:List Rat),(∀s∈L,DP s.1 c)->DP (EU L) c:=by
 intro L c;induction L with
 |nil=>intro _;exact ND c
 |cons s L b=>intro h;exact(h s (Ao ..)).mul_left (b λt a=>h t (AA _ a))
def qx:∀(L:List (List Rat × Nat)) (c:List Rat),DP (EU L) c->∀s∈L,DP s.1 c:=by
 intro L c;induction L with
 |nil=>intro _ s hs;cases hs
 |cons s L d=>
  intro h t b;have a:DP (Ji s.1 (EU L)) c:=h;rcases Fj.1 b with r|r
  . rw[r];exact a.of_dv ((Dv.refl s.1).mul (EU L))
  . exact d (a.of_dv ((Dv.refl (EU L)).mul' s.1)) t r
def PtsOk.sqf(h:PtsOk L):DX (EU L)/\EU L≠[]:=by
 induction L with
 |nil=>exact⟨ND _,by simp[EU]⟩
 |cons s L e=>
  obtain⟨a,b⟩:=e h.tail;obtain⟨f,g,i,_⟩:=h.all s (Ao ..);have c:DP s.1 (EU L):=(NE L s.1 λt d=>((List.pairwise_cons.1 h.cop).1 t d).symm).symm;exact⟨i.mul a c,Yu f (IQ L) g b⟩
theorem Zu{p q:List Rat}(tp:Jc p=p)(p0:p≠[])(tq:Jc q=q)(q0:q≠[])(h:DP p q):nA (Ji p q)=nA p+nA q:=by
 grind[Ze,Oi,Mz]
def Gk(L:List (List Rat × Nat))(f:List Rat->Int):Int:=(L.map λs=>f s.1).sum
def qy(h:PtsOk L):nA (EU L)=Gk L nA:=by
 induction L with
 |nil=>exact Mz.1
 |cons s L c=>
  obtain⟨d,e,_,_⟩:=h.all s (Ao ..);have a:DP s.1 (EU L):=(NE L s.1 λt b=>((List.pairwise_cons.1 h.cop).1 t b).symm).symm;rw[EU,Zu d e (IQ L) (h.tail.sqf).2 a,c h.tail];simp[Gk]
def Zv{p q:List Rat}(tp:Jc p=p)(p0:p≠[])(tq:Jc q=q)(q0:q≠[])(h:∀c,DP p c↔DP q c):DK p=DK q:=by
 have a:=YR tp p0;have b:=YR tq q0;refine Dv.eq a.tw b.tw a.mw b.mw ?_ ?_
 . exact DX.dv b.tw a.tw a.w0 (Iz tp p0) λc k=>(XG tp p0 c).2 ((h c).2 ((XG tq q0 c).1 k))
 . exact DX.dv a.tw b.tw b.w0 (Iz tq q0) λc k=>(XG tq q0 c).2 ((h c).1 ((XG tp p0 c).1 k))
theorem NF{p q:List Rat}(tp:Jc p=p)(p0:p≠[])(tq:Jc q=q)(q0:q≠[])(h:DK p=DK q):nA p=nA q:=by
 grind[px,nA]
def q6{w c:List Rat}(h:DP w c)(i:Nat):∀r:List Rat,(∀x,ev r x=ev w x^i)->DP r c:=by
 induction i with
 |zero=>intro r a;exact(ND c).ext (λx=>by rw[a,Rat.pow_zero,Jq]) λ_=>rfl
 |succ i b=>
  intro r a;obtain⟨s,hs⟩:∃s:List Rat,∀x,ev s x=ev w x^i:=by
   clear b a;induction i with
   |zero=>exact⟨[1],λx=>by rw[Rat.pow_zero,Jq]⟩
   |succ i b=>
    obtain⟨s,hs⟩:=b;exact⟨Ji s w,λx=>by rw[Jd,hs,Rat.pow_succ]⟩
  exact((b s hs).mul_left h).ext (λx=>by rw[Jd,hs,a,Rat.pow_succ]) λ_=>rfl
def Zw(L:List (List Rat × Nat))(c:List Rat)(h:∀s∈L,DP s.1 c):∀r:List Rat,(∀x,ev r x=Dj L x)->DP r c:=by
 induction L with
 |nil=>intro r b;exact(ND c).ext (λx=>by rw[b,Dj,Jq]) λ_=>rfl
 |cons s L a=>
  intro r b;obtain⟨u,d⟩:∃u:List Rat,∀x,ev u x=ev s.1 x^s.2:=by
   induction s.2 with
   |zero=>exact⟨[1],λx=>by rw[Rat.pow_zero,Jq]⟩
   |succ i a=>
    obtain⟨u,hs⟩:=a;exact⟨Ji u s.1,λx=>by rw[Jd,hs,Rat.pow_succ]⟩
  obtain⟨v,hv⟩:∃v:List Rat,∀x,ev v x=Dj L x:=by
   clear a h b;induction L with
   |nil=>exact⟨[1],λx=>by rw[Dj,Jq]⟩
   |cons t L a=>
    obtain⟨v,hv⟩:=a;obtain⟨u2,f⟩:∃u:List Rat,∀x,ev u x=ev t.1 x^t.2:=by
     induction t.2 with
     |zero=>exact⟨[1],λx=>by rw[Rat.pow_zero,Jq]⟩
     |succ i a=>
      obtain⟨u,hs⟩:=a;exact⟨Ji u t.1,λx=>by rw[Jd,hs,Rat.pow_succ]⟩
    exact⟨Ji u2 v,λx=>by rw[Jd,f,hv,Dj]⟩
  exact((q6 (h s (Ao ..)) s.2 u d).mul_left (a (λt e=>h t (AA _ e)) v hv)).ext (λx=>by rw[Jd,d,hv,b,Dj]) λ_=>rfl
theorem q7{s:List Rat × Nat}(hs:s∈L)(f:1<=s.2):∃c:List Rat,∀x,Dj L x=ev s.1 x*ev c x:=by
 have OM:∀(w:List Rat) (i:Nat),∃u:List Rat,∀x,ev u x=ev w x^i:=λw i=>by
  induction i with
  |zero=>exact⟨[1],λx=>by rw[Rat.pow_zero,Jq]⟩
  |succ i a=>
   obtain⟨u,hs⟩:=a;exact⟨Ji u w,λx=>by rw[Jd,hs,Rat.pow_succ]⟩
 have d:∀M:List (List Rat × Nat),∃v:List Rat,∀x,ev v x=Dj M x:=λM=>by
  induction M with
  |nil=>exact⟨[1],λx=>by rw[Dj,Jq]⟩
  |cons t L a=>
   obtain⟨v,hv⟩:=a;obtain⟨u,b⟩:=OM t.1 t.2;exact⟨Ji u v,λx=>by rw[Jd,b,hv,Dj]⟩
 induction L with
 |nil=>cases hs
 |cons t L a=>
  rcases Fj.1 hs with r|r
  . subst r;obtain⟨j,g⟩:∃j,s.2=j+1:=⟨s.2-1,O⟩;obtain⟨u,b⟩:=OM s.1 j;obtain⟨v,hv⟩:=d L;exact⟨Ji u v,λx=>by grind[Dj,Jd]⟩
  . obtain⟨c,e⟩:=a r;obtain⟨u,b⟩:=OM t.1 t.2;exact⟨Ji u c,λx=>by rw[Dj,e,Jd,b];grind⟩
def R4(h:PtsOk L){p:List Rat}(tp:Jc p=p)(p0:p≠[])(hp:∀x,ev (Jr p) x=Dj L x):nA p=Gk L nA/\DK p=DK (EU L):=by
 obtain⟨d1,a⟩:=Om tp p0;have e:DK p=DK (EU L):=Zv tp p0 (IQ L) h.sqf.2 λc=>by
  constructor
  . intro k;refine NE L c λs hs=>?_;obtain⟨r,b⟩:=q7 hs (h.all s hs).2.2.2;exact(k.of_dv d1).of_dv ⟨r,λx=>by rw[hp];exact b x⟩
  . intro k;exact(Zw L c (qx L c k) (Jr p) hp).of_dv a
 exact⟨(NF tp p0 (IQ L) h.sqf.2 e).trans (qy h),e⟩
theorem q8{a b:List Rat}(ta:Jc a=a)(tb:Jc b=b)(a0:a≠[])(b0:b≠[])(ma:Jr a=a)(mb:Jr b=b):Jr (Ji a b)=Ji a b:=by
 grind[Ms,Lh,YL,Yf,Jn,Kx]
theorem rA{u v q:List Rat}(a:Jc u=u)(u0:u≠[])(b:Jc v=v)(z:v≠[])(tq:Jc q=q)(h:DP u v):Jt (Ji u v) q=Ji (Jt u q) (Jt v q):=by
 have tm:=Jn u v;obtain⟨c,k,d,l,p⟩:=Yc a tq;obtain⟨f,o,g,i,t⟩:=Yc b tq;obtain⟨c1,c2,_⟩:=Yc tm tq;have g0:=Yd a tq (Or.inl u0);have y:=Yd b tq (Or.inl z);have w:DP (Jt u q) (Jt v q):=(h.of_dv c).of_dv2 f;refine Dv.eq (JE _ _) (Jn _ _) (YI tm tq) (q8 (JE _ _) (JE _ _) g0 y (YI a tq) (YI b tq)) ?_ ?_
 . refine c1.comb c2 (Ji d g) (YK (Ji (Ji d u) i) (Ji l (YK (Ji g v) (Ji i q)))) λx=>?_;rw[Jd,p,t,Jd,Jd,Yg,Jd,Jd,Jd,Yg,Jd,Jd];grind
 . refine Iv tm tq ?_ ?_
   . obtain⟨r,j⟩:=c;obtain⟨s,hs⟩:=f;exact⟨Ji r s,λx=>by rw[Jd,Jd,Jd,j,hs];grind⟩
   . obtain⟨m,n,e⟩:=w;obtain⟨r,j⟩:=k;obtain⟨s,hs⟩:=o;refine⟨YK (Ji m s) (Ji n r),λx=>?_⟩;grind[Jd,Yg]
theorem rB(h:PtsOk L){q:List Rat}(tq:Jc q=q):nA (Jt (EU L) q)=Gk L λw=>nA (Jt w q):=by
 induction L with
 |nil=>rw[EU,Oi DJ tq (ND q)];exact Mz.1
 |cons s L e=>
  obtain⟨a,c,_,_⟩:=h.all s (Ao ..);have b:DP s.1 (EU L):=(NE L s.1 λt d=>((List.pairwise_cons.1 h.cop).1 t d).symm).symm;have w0:=(h.tail.sqf).2;have tw:=IQ L;rw[EU,rA a c tw w0 tq b];rw[Zu (JE _ _) (Yd a tq (Or.inl c)) (JE _ _) (Yd tw tq (Or.inl w0)) ((b.of_dv (Yc a tq).1).of_dv2 (Yc tw tq).1),e h.tail];simp[Gk]
theorem rC{p r q:List Rat}(tp:Jc p=p)(p0:p≠[])(tr:Jc r=r)(r0:r≠[])(tq:Jc q=q)(q0:q≠[])(h:DK p=DK r):DK (Jt p q)=DK (Jt r q):=by
 have e:∀ {p r:List Rat},Jc p=p->p≠[]->Jc r=r->r≠[]->DK p=DK r->Dv (DK (Jt p q)) (DK (Jt r q)):=fun {p r} tp p0 tr r0 h=>by
  obtain⟨a,b,c,_,_,_,g,i,_,j⟩:=Rp tp p0 tq q0;obtain⟨a',d,c',_,_,s,f1,f2,_,k⟩:=Rp tr r0 tq q0;rw[j,k];obtain⟨m,n,t⟩:=(s.of_dv ((Dv.refl d).mul' a'):DP d c');have d1:Dv a (Ji a' d):=by rw[<-f1,<-h,g];exact(Dv.refl a).mul b
  have f:Dv a (Ji a' c'):=by rw[<-f2,i];exact(Dv.refl a).mul c
  refine d1.comb f m n λx=>?_;grind[Jd]
 have l:=Yd tp tq (Or.inl p0);have o:=Yd tr tq (Or.inl r0);have y1:=YR (JE p q) l;have y2:=YR (JE r q) o;exact Dv.eq y1.tw y2.tw y1.mw y2.mw (e tp p0 tr r0 h) (e tr r0 tp p0 h.symm)
theorem rD(h:PtsOk L){p q:List Rat}(tp:Jc p=p)(p0:p≠[])(hp:∀x,ev (Jr p) x=Dj L x)(tq:Jc q=q)(q0:q≠[]):nA (Jt p q)=Gk L λw=>nA (Jt w q):=by
 have e:=rC tp p0 (IQ L) h.sqf.2 tq q0 (R4 h tp p0 hp).2;grind[rB,NF,JE,Yd,IQ]
structure SdOk(S:Rat->Int):Prop where
 three:∀x,S x=-1\/S x=0\/S x=1
 mono:∀x y,x<y->S x<=0->S y=-1
def Dx(S T:Rat->Int):Prop:=∃x,S x<=0/\0<=T x/\S x≠T x
def Dx.irr{S:Rat->Int}:¬Dx S S:=λ⟨_,_,_,h⟩=>h J
def Dx.trans{S U:Rat->Int}(e:SdOk S)(hT:SdOk T)(h:Dx S T)(d:Dx T U):Dx S U:=by
 obtain⟨x,a,f,g⟩:=h;obtain⟨y,c,b,i⟩:=d;rcases JV x y with r|r
 . rcases Rat.le_iff_lt_or_eq.1 r with r|r
   . have:=e.mono x y r a;exact⟨y,O,b,O⟩
   . subst r;exact⟨x,a,b,O⟩
 . rcases Rat.le_iff_lt_or_eq.1 r with r|r
   . have:=hT.mono y x r c;omega
   . subst r;exact⟨y,a,b,O⟩
def Dx.asymm{S:Rat->Int}(b:SdOk S)(hT:SdOk T)(h:Dx S T):¬Dx T S:=λa=>Dx.irr (h.trans b hT a)
def Irr.sd{w:List Rat}{a b:Rat}(h:Irr w a b):SdOk (Di w a b) where
 three x:=by rcases h.sid_ne x with k|k<;>omega
 mono x y hxy hx:=(h.sid_mono (Rat.le_of_lt hxy)).2 (by rcases h.sid_ne x with k|k<;>omega)
def Dm(r x:Rat):Int:=if r<x then -1 else if x<r then 1 else 0
theorem Zx(r:Rat):SdOk (Dm r) where
 three x:=by grind[Dm]
 mono x y hxy hx:=by
  grind[Dm]
def Lt.slt{w v:List Rat}{a b c d:Rat}(h:Lt w a b v c d):Dx (Di w a b) (Di v c d):=by
 obtain⟨x,e,f⟩:=h;exact⟨x,O,O,O⟩
def Irr.differ{w v:List Rat}{a b c d:Rat}(h:Irr w a b)(k:Irr v c d)(m:DP w v):¬ ∀x,Di w a b x=Di v c d x:=λe=>by
 have g:Di w a b c=1:=by rw[e];exact k.low Rat.le_refl
 have l:Di w a b d=-1:=by rw[e];exact k.high Rat.le_refl
 refine h.cop m ?_;rcases h.sg3 v with s|s|s
 . exact s
 . exfalso
   obtain⟨p1,n,_,_⟩:=ord_lt h k g l;have f:=k.nz d (Rat.le_of_lt k.ab) Rat.le_refl;rcases YT f with q|q
   . obtain⟨x,i,j⟩:=n s q;rw[e]at i;omega
   . obtain⟨x,i,j⟩:=p1 s q;rw[e]at j;omega
 . exfalso
   obtain⟨_,_,o,p⟩:=ord_lt h k g l;have f:=k.nz d (Rat.le_of_lt k.ab) Rat.le_refl;rcases YT f with q|q
   . obtain⟨x,i,j⟩:=o s q;rw[e]at j;omega
   . obtain⟨x,i,j⟩:=p s q;rw[e]at i;omega
section
variable {w g q p:List Rat} {a b r:Rat}
theorem Spn.factor_q(h:Spn w a b)(l:a<r)(m:r<=b)(e:ev w r=0)(tg:Jc g=g)(g0:g≠[])(f:Dv g w):(ev g r=0/\cw g a=cw g b+1)\/(ev g r≠0/\cw g a=cw g b):=by
 have d:=(JK tg g0 f).2;have i:Jc (Jm w g)=Jm w g:=YG _ _;have ew:w=Ji g (Jm w g):=YL h.tw (Jn _ _) λx=>by rw[Jd];exact d x
 have u0:Jm w g≠[]:=λe=>h.w0 (by rw[ew,e,YM]);have sw:DX (Ji g (Jm w g)):=by rw[<-ew];exact h.sq
 have sg:DX g:=h.sq.of_dv h.tw f;have j:DX (Jm w g):=h.sq.of_dv h.tw ⟨g,λx=>by rw[d x,A2]⟩;have c:=Rat.le_of_lt h.ab;have k:=R3 tg g0 i u0 sg j sw.parts c;rw[<-ew]at k;have o:=Jy tg g0 c;have p:=Jy i u0 c;have n:=h.one;grind[IA]
theorem Spn.gcd_q(h:Spn w a b)(f:a<r)(g:r<=b)(e:ev w r=0)(tq:Jc q=q):(ev q r=0/\cw (Jt w q) a=cw (Jt w q) b+1)\/(ev q r≠0/\cw (Jt w q) a=cw (Jt w q) b):=by
 obtain⟨d1,d,s,t,hb⟩:=Yc h.tw tq;have key:ev (Jt w q) r=0↔ev q r=0:=by
  constructor
  . intro k;obtain⟨c,i⟩:=d;rw[i,k,AZ]
  . intro k;grind
 rcases h.factor_q f g e (JE w q) (Yd h.tw tq (Or.inl h.w0)) d1 with⟨j,l⟩|⟨j,l⟩
 . grind
 grind
theorem Zy{c:List Rat}(h:DP w c)(e:ev w r=0):ev c r≠0:=λk=>by
 obtain⟨u,v,a⟩:=h;grind
theorem rE(sw:DX w)(e:ev w r=0){c:List Rat}{i:Nat}(b:DP w c)(hp:∀x,ev p x=ev w x*(ev w x^i*ev c x))(tp:Jc p=p):ev (Jb p) r=0↔1<=i:=by
 obtain⟨s,hs⟩:∃s:List Rat,∀x,ev s x=ev w x^i*ev c x:=by
  clear hp tp b;induction i with
  |zero=>exact⟨c,λx=>by rw[Rat.pow_zero,Fg]⟩
  |succ i g=>
   obtain⟨r,f⟩:=g;exact⟨Ji w r,λx=>by rw[Jd,f,Rat.pow_succ];grind⟩
 have d:p=Ji w s:=YL tp (Jn _ _) λx=>by rw[Jd,hs,hp]
 have nw:=Zy sw e;rw[d,Yt,e,AZ,Rat.add_zero,hs,e];constructor
 . intro k;rcases AN i with a|a
   . exfalso
     rw[a,Rat.pow_zero,Fg]at k;exact Xc nw (Zy b e) k
   . exact a
 . intro k;obtain⟨j,rfl⟩:∃j,i=j+1:=⟨i-1,O⟩;grind
end
end
section
variable{K:Nat}
def rF{X:Nat}{n d:Int}(hn:Sm X n)(g:Sm X d):∀(zs:List Int),(∀z∈zs,Sm K z)->Sm (K+zs.length*(X+2)) (hZ n d zs):=by
 intro zs;induction zs with
 |nil=>intro _;exact Sm.zero _
 |cons c zs j=>
  intro h;have b:=(h c Ao).mul (g.powZ zs.length);have e:=hn.mul (j λz i=>h z (AA _ i));have k:zs.length*(X+2)=zs.length*X+zs.length*2:=CS _ _ _;have a:(zs.length+1)*(X+2)=zs.length*(X+2)+(X+2):=FH _ _;rw[hZ,Ai,a];have f:=(b.mono (show K+(zs.length*X+1)<=K+zs.length*(X+2)+X+1 by omega)).add (e.mono (show X+(K+zs.length*(X+2))<=K+zs.length*(X+2)+X+1 by omega));exact f.mono O
theorem rG(n d:Int)(zs:List Int){k:Nat}(hk:k<zs.length):hZ n d (zs.drop (k+1))*n+zs[k]*d^(zs.length-(k+1))=hZ n d (zs.drop k):=by
 rw[AR hk,hZ,A7];grind
theorem rH(x:Rat)(zs:List Int):XQ (hZ x.num (x.den:Int) zs) 0=DU (ev (zs.map λz:Int=>(z:Rat)) x):=by
 by_cases e:zs=[]
 . rw[e];show XQ 0 0=DU 0;decide
 . have h:=Rz x zs e;have d:(0:Rat)<((x.den:Int):Rat)^(zs.length-1):=Rat.pow_pos (by have:=x.den_pos;exact_mod_cast this);obtain⟨D,hD⟩:=ex (((x.den:Int):Rat)^(zs.length-1));obtain⟨E,hE⟩:=ex (ev (zs.map λz:Int=>(z:Rat)) x);obtain⟨a,hZ⟩:=ex (hZ x.num (x.den:Int) zs);rw[hD]at h d;rw[hE]at h ⊢;rw[hZ]at h ⊢;unfold XQ;rcases JY E with⟨c,b⟩|⟨c,b⟩|⟨c,b⟩
   . have:=Rat.mul_pos d (show 0 < -E by grind)
     have:(a:Rat)<0:=by rw[<-h];grind
     rw[BE (by exact_mod_cast this),b]
   . have:(a:Rat)=0:=by rw[<-h,c];grind
     have:a=0:=by exact_mod_cast this
     rw[this,b];rfl
   . have:=Rat.mul_pos d c
     have:(0:Rat)<(a:Rat):=by rw[<-h];exact this
     have:0<a:=by exact_mod_cast this
     omega
def Wh.zs{p:List Rat}(h:Wh K p):∃zs:List Int,p=zs.map (λz:Int=>(z:Rat))/\∀z∈zs,Sm K z:=by
 obtain⟨zs,e⟩:=h.ints;refine⟨zs,e,λz c=>?_⟩;obtain⟨i,hi,rfl⟩:=CU.1 c;obtain⟨z,b,a⟩:=h i;rw[e,cf]at a
 have:((zs[i]:Int):Rat)=(z:Rat):=by simpa[List.getD,hi]using a
 have:zs[i]=z:=by exact_mod_cast this
 rw[this];exact b
section
variable {w v q:List Rat} {a b c d x:Rat}
variable{k:Rat}
theorem Nr.scl{P:Rat->Rat->Prop}(hk:k≠0):Nr (DM k w) a b P↔Nr w a b P:=by
 have e:∀x z,ev (DM k w) x*ev (DM k w) z<0↔ev w x*ev w z<0:=λx z=>by
  rw[Jp,Jp];have l:ev w x*k*(ev w z*k)=(k*k)*(ev w x*ev w z):=DG
  have hp:0<k*k:=by
   rcases YT hk with h|h
   . have:=Rat.mul_pos (a:=-k) (b:=-k) DG DG;grind
   . exact Rat.mul_pos h h
  rw[l];constructor
  . intro h;exact XO hp h
  . intro h;have:=Rat.mul_pos hp (show 0 < -(ev w x*ev w z)by grind);grind
 constructor
 . rintro⟨d,d0,h⟩;exact⟨d,d0,λx z c f g i j=>h x z c f g i ((e x z).2 j)⟩
 . rintro⟨d,d0,h⟩;exact⟨d,d0,λx z c f g i j=>h x z c f g i ((e x z).1 j)⟩
theorem DX.scl(hk:k≠0)(h:DX w):DX (DM k w):=by
 obtain⟨u,v,a⟩:=h;refine⟨DM (1/k) u,DM (1/k) v,λx=>?_⟩;grind[ZD,Jp]
def Irr.scl{k:Rat}(h:Irr w a b)(hk:k≠0):Irr (DM k w) a b/\∀q,De (DM k w) a b q=De w a b q:=by
 have ts:Jc (DM k w)=DM k w:=JH _ _;have f:DM k w≠[]:=Gh hk h.tw h.w0;have l:=Mx ts f h.tw h.w0 (Lm hk h.tw) (Rat.le_of_lt h.ab);have i:Irr (DM k w) a b:=⟨ts,f,h.sq.scl hk,h.ab,λx i j=>by
  rw[Jp];intro e;rcases Cx.1 e with e|e
  . exact h.nz x i j e
  . exact hk e,by have:=h.one;unfold cw at *;omega⟩
 refine⟨i,λq=>?_⟩;rcases h.val q with⟨e,d⟩|⟨e,c,c0,d⟩|⟨e,c,c0,d⟩
 . rw[e];exact i.zero.2 λe g=>(Nr.scl hk).2 (d e g)
 . rw[e];exact i.pos.2 ⟨c,c0,(Nr.scl hk).2 d⟩
 . rw[e];exact i.minus.2 ⟨c,c0,(Nr.scl hk).2 d⟩
theorem Irr.chain(h:Irr w a b):(DL (JF (Xh w (Ji (Jb w) q)) a):Int)-(DL (JF (Xh w (Ji (Jb w) q)) b):Int)=De w a b q:=by
 obtain⟨c,c0,i⟩:=Xd h.tw;obtain⟨k,g,j⟩:=Xd (Jn (Jb w) q);have c1:c≠0:=λe=>by grind
 obtain⟨d,l⟩:=h.scl c1;have e:DM k (Ji (Jb w) q)=Ji (Jb (DM c w)) (DM (k/c) q):=YL (JH _ _) (Jn _ _) λx=>by
  grind[ZD,Jp,Jd]
 have m:De (DM c w) a b (DM (k/c) q)=De (DM c w) a b q:=by
  have f:De (DM c w) a b (DM (k/c) q)=De (DM c w) a b (Ji [k/c] q):=d.ext λx=>by rw[Jp,Jd,Jq,A2]
  rw[f,d.mul,(d.const (k/c)).1 (Yo g c0),Int.one_mul]
 grind[De,EQ,Xh]
end
structure RtQ where
 lo:Rat
 hi:Rat
 w:List Rat
 sg:Int
 tm:Nat
def RtQ.cut(r:RtQ)(x:Rat):RtQ:=if r.lo<x/\x<r.hi then(if DU (ev r.w x)=0\/DU (ev r.w x)=r.sg then⟨r.lo,x,r.w,DU (ev r.w x),r.tm⟩else⟨x,r.hi,r.w,r.sg,r.tm⟩)else r
def RtQ.mid(r:RtQ):Rat:=Db r.lo r.hi
def RtQ.hv(r:RtQ):RtQ:=r.cut r.mid
def RtQ.side(r:RtQ)(x:Rat):Int:=Xq (r.cut x).mid x
def E0(row:List (List Rat))(a b:Rat):Int:=(DL (JF row a):Int)-(DL (JF row b):Int)
def RtQ.sign(r:RtQ)(q:List Rat):Int:=if r.lo<r.hi then E0 (Xh r.w (Ji (Jb r.w) q)) r.lo r.hi else DU (ev q r.lo)
def RtQ.ord(r s:RtQ):Int:=if s.lo<s.hi then(if r.side s.lo<=0 then -1 else if 0<=r.side s.hi then 1 else r.sign s.w*s.sg)else r.side s.lo
structure RtQ.Ok(r:RtQ):Prop where
 tw:Jc r.w=r.w
 w0:r.w≠[]
 sq:DX r.w
 sgh:r.sg=DU (ev r.w r.hi)
 root:(r.lo=r.hi/\ev r.w r.lo=0)\/Irr r.w r.lo r.hi
def RtQ.S(r:RtQ)(x:Rat):Int:=if r.lo<r.hi then Di r.w r.lo r.hi x else Dm r.lo x
theorem FY(r x:Rat):Xq r x=Dm r x:=by
 unfold Dm;have a:Xq r x=-1\/Xq r x=0\/Xq r x=1:=by
  unfold Xq XQ;split
  . exact Or.inl J
  . omega
 have b:=Io (p:=r) (q:=x);grind[KM]
section
variable {r s t:RtQ} {x:Rat} {q:List Rat}
theorem RtQ.Ok.irr(h:r.Ok)(hl:r.lo<r.hi):Irr r.w r.lo r.hi:=by
 rcases h.root with⟨e,_⟩|k
 . grind
 . exact k
def RtQ.Ok.rat(h:r.Ok)(hl:¬r.lo<r.hi):r.lo=r.hi/\ev r.w r.lo=0:=by
 rcases h.root with k|k
 . exact k
 . exact absurd k.ab hl
theorem RtQ.Ok.sd(h:r.Ok):SdOk r.S:=by
 unfold RtQ.S;by_cases hl:r.lo<r.hi
 . have:(λx=>if r.lo<r.hi then Di r.w r.lo r.hi x else Dm r.lo x)=Di r.w r.lo r.hi:=funext λx=>BE hl
   show SdOk λx=>if r.lo<r.hi then Di r.w r.lo r.hi x else Dm r.lo x;rw[this];exact(h.irr hl).sd
 . have:(λx=>if r.lo<r.hi then Di r.w r.lo r.hi x else Dm r.lo x)=Dm r.lo:=funext λx=>BD hl
   grind[Zx]
theorem RtQ.Ok.sideS(h:r.Ok)(x:Rat):r.side x=r.S x:=by
 unfold RtQ.side RtQ.S RtQ.cut;by_cases hl:r.lo<r.hi
 . have k:=h.irr hl;rw[BE hl];have o:=Gj hl;by_cases c:r.lo<x/\x<r.hi
   . rw[BE c];have nz:=k.nz x (Rat.le_of_lt c.1) (Rat.le_of_lt c.2);have nb:=k.nz r.hi (Rat.le_of_lt hl) Rat.le_refl;have m:=k.mid (Rat.le_of_lt c.1) (Rat.le_of_lt c.2);rw[h.sgh];by_cases hs:DU (ev r.w x)=0\/DU (ev r.w x)=DU (ev r.w r.hi)
     . rw[BE hs];have hp:0<ev r.w x*ev r.w r.hi:=by
        rcases hs with e|e
        . exact absurd (YF.1 e) nz
        . rcases JY (ev r.w x)with⟨d,j⟩|⟨d,_⟩|⟨d,j⟩
          . rw[j]at e;have:=LY.1 e.symm;have:=Rat.mul_pos (a:=-(ev r.w x)) (b:=-(ev r.w r.hi)) DG DG;grind
          . exact absurd d nz
          grind[Rat.mul_pos,Im]
       rw[m.2 hp];have g:=(Gj c.1).2.1;show Xq (Db r.lo x) x=-1;rw[FY];unfold Dm;rw[BE g]
     . rw[BD hs];have hn:ev r.w x*ev r.w r.hi<0:=by
        rcases JY (ev r.w x)with⟨d,j⟩|⟨d,_⟩|⟨d,j⟩
        . rcases JY (ev r.w r.hi)with⟨f,l⟩|⟨f,_⟩|⟨f,l⟩
          . omega
          . exact absurd f nb
          . have:=Rat.mul_pos (a:=-(ev r.w x)) (b:=ev r.w r.hi) DG f;grind
        . exact absurd d nz
        . rcases JY (ev r.w r.hi)with⟨f,l⟩|⟨f,_⟩|⟨f,l⟩
          . have:=Rat.mul_pos (a:=ev r.w x) (b:=-(ev r.w r.hi)) d DG;grind
          . exact absurd f nb
          omega
       rw[m.1 hn];have g:=(Gj c.2).1;show Xq (Db x r.hi) x=1;exact KM.2 g
   . rw[BD c];show Xq (Db r.lo r.hi) x=_;by_cases n:x<=r.lo
     . rw[k.low n];grind[KM]
     . have g:r.hi<=x:=Rat.not_lt.1 λi=>c ⟨Rat.not_le.1 n,i⟩;rw[k.high g,FY];unfold Dm;grind
 . have k:=h.rat hl;rw[BD hl,BD λi=>by grind];show Xq (Db r.lo r.hi) x=_;grind[Db,FY]
def RtQ.Ok.signI(h:r.Ok)(hl:r.lo<r.hi):r.sign q=De r.w r.lo r.hi q:=by
 unfold RtQ.sign E0;rw[BE hl];exact(h.irr hl).chain
theorem RtQ.signR(hl:¬r.lo<r.hi):r.sign q=DU (ev q r.lo):=BD hl
def RtQ.SI(hl:r.lo<r.hi):r.S=Di r.w r.lo r.hi:=funext λ_=>BE hl
def RtQ.SR(hl:¬r.lo<r.hi):r.S=Dm r.lo:=funext λ_=>BD hl
theorem RtQ.Ok.order(h:r.Ok)(k:s.Ok):(r.ord s=-1/\Dx r.S s.S)\/(r.ord s=1/\Dx s.S r.S)\/(r.ord s=0/\∀x,r.S x=s.S x):=by
 unfold RtQ.ord;by_cases hs:s.lo<s.hi
 . have l:=k.irr hs;rw[BE hs,h.sideS,h.sideS,RtQ.SI hs];have G:=l.low (x:=s.lo) Rat.le_refl;have H:=l.high (x:=s.hi) Rat.le_refl;by_cases d:r.S s.lo<=0
   . rw[BE d];exact Or.inl ⟨J,s.lo,d,O,O⟩
   . rw[BD d];by_cases c:0<=r.S s.hi
     . rw[BE c];exact Or.inr (Or.inl ⟨J,s.hi,O,c,O⟩)
     . rw[BD c];have nb:=l.nz s.hi (Rat.le_of_lt hs) Rat.le_refl;have t:=h.sd.three s.lo;have u:=h.sd.three s.hi;have sg3:(s.sg=-1/\ev s.w s.hi<0)\/(s.sg=1/\0<ev s.w s.hi):=by
        rw[k.sgh];rcases JY (ev s.w s.hi)with⟨f,n⟩|⟨f,_⟩|⟨f,n⟩
        . grind
        . exact absurd f nb
        . grind
       by_cases m:r.lo<r.hi
       . have w:=h.irr m;rw[h.signI m];rw[RtQ.SI m]at d c t u ⊢;have p:Di r.w r.lo r.hi s.lo=1:=O
         have v:Di r.w r.lo r.hi s.hi=-1:=O
         obtain⟨z,A,B,D⟩:=ord_lt w l p v;rcases w.sg3 s.w with e|e|e
         . grind[qf]
         . rcases sg3 with⟨g,j⟩|⟨g,j⟩
           . exact Or.inl ⟨by rw[e,g];rfl,(A e j).slt⟩
           . exact Or.inr (Or.inl ⟨by rw[e,g];rfl,(z e j).slt⟩)
         . rcases sg3 with⟨g,j⟩|⟨g,j⟩
           . exact Or.inr (Or.inl ⟨by rw[e,g];rfl,(B e j).slt⟩)
           . exact Or.inl ⟨by rw[e,g];rfl,(D e j).slt⟩
       . rw[RtQ.signR m];rw[RtQ.SR m]at d c t u ⊢;have p:Dm r.lo s.lo=1:=O
         have v:Dm r.lo s.hi=-1:=O
         have f:s.lo<r.lo:=KM.1 (by rw[FY];exact p);have n:r.lo<s.hi:=Io.1 (by rw[FY];omega);have nx:=l.nz r.lo (Rat.le_of_lt f) (Rat.le_of_lt n);have o:=l.mid (Rat.le_of_lt f) (Rat.le_of_lt n);have y:Di s.w s.lo s.hi r.lo=-1->Dx (Di s.w s.lo s.hi) (Dm r.lo):=λe=>⟨r.lo,O,by unfold Dm;grind,by unfold Dm;grind⟩;have q:Di s.w s.lo s.hi r.lo=1->Dx (Dm r.lo) (Di s.w s.lo s.hi):=λe=>⟨r.lo,by unfold Dm;grind,O,by unfold Dm;grind⟩;rcases JY (ev s.w r.lo)with⟨c1,c2⟩|⟨c1,_⟩|⟨c1,c2⟩
         . rcases sg3 with⟨g,j⟩|⟨g,j⟩
           . refine Or.inr (Or.inl ⟨by rw[c2,g];rfl,y (o.2 ?_)⟩);have:=Rat.mul_pos (a:=-(ev s.w r.lo)) (b:=-(ev s.w s.hi)) DG DG;grind
           . refine Or.inl ⟨by rw[c2,g];rfl,q (o.1 ?_)⟩;have:=Rat.mul_pos (a:=-(ev s.w r.lo)) (b:=ev s.w s.hi) DG j;grind
         . exact absurd c1 nx
         . rcases sg3 with⟨g,j⟩|⟨g,j⟩
           . refine Or.inl ⟨by rw[c2,g];rfl,q (o.1 ?_)⟩;have:=Rat.mul_pos (a:=ev s.w r.lo) (b:=-(ev s.w s.hi)) c1 DG;grind
           grind[Rat.mul_pos]
 . rw[BD hs,h.sideS,RtQ.SR hs];have I:Dm s.lo s.lo=0:=by unfold Dm;rw[BD Rat.lt_irrefl,BD Rat.lt_irrefl]
   rcases h.sd.three s.lo with e|e|e
   . exact Or.inl ⟨e,s.lo,O,O,O⟩
   . refine Or.inr (Or.inr ⟨e,λx=>?_⟩);rcases(show x<s.lo\/x=s.lo\/s.lo<x by grind)with j|j|j
     . have d:=h.sd.three x;have c:¬r.S x<=0:=λi=>by have:=h.sd.mono x s.lo j i;omega
       grind[Dm]
     . rw[j];omega
     . have c:=h.sd.mono s.lo x j O;grind[Dm]
   . exact Or.inr (Or.inl ⟨e,s.lo,O,O,O⟩)
theorem RtQ.Ok.ord_lt(h:r.Ok)(k:s.Ok):r.ord s<0↔Dx r.S s.S:=by
 rcases h.order k with⟨e,i⟩|⟨e,i⟩|⟨e,i⟩
 . grind
 . exact⟨λ_=>by omega,λj=>absurd j (Dx.asymm k.sd h.sd i)⟩
 . refine⟨λ_=>by omega,λj=>?_⟩;rw[show r.S=s.S from funext i]at j;exact absurd j Dx.irr
def RtQ.Ok.ord_self(h:r.Ok):r.ord r=0:=by
 rcases h.order h with⟨_,j⟩|⟨_,j⟩|⟨e,_⟩
 . exact absurd j Dx.irr
 . exact absurd j Dx.irr
 . exact e
end
end
namespace M3
def rI:Sq 1:=Sq.of (show DR 1 1 from⟨Sm.one 1 O,Sm.one 1 O⟩) O
theorem rJ(M:C)(q:Rat)(w:F)(D:Jg w M q)(L:Sq q):
 Calls Tryz.prog 240 #[M] w λe w'=>∃u,e=.returned u/\Jg w' u (Yv q)/\Bl w w':=by
 obtain⟨bj,W,bg,ai,bn,ae,ap,am,rfl⟩:=Jg.form D;obtain⟨W0,P,g⟩:=LN 50 (.rat q) D 50 (.rat 0) (XE _);have I:=Z L;clear D L;go_enter func240,ntmps240
 go_upto_region 1 with fail
 rw[P.o];obtain⟨s1,T,l1,c1,t1,b1,k1,d1,v,r1,R,S⟩:=g.o.rat (i:=0) J;obtain⟨s,j,m,r⟩:=v.cq;obtain⟨s2,U,l2,c2,t2,b2,k2,d2,a,r2,i2,j2⟩:=g.o.rat (i:=1) J;obtain⟨b,c,f,d⟩:=a.cq;obtain⟨l,k,p,o⟩:=a.fq;obtain⟨x,G,N⟩:=DY (Vd _ q W0 r1 I.o) (λ(V:F) (h:Bl W0 V)=>LT _ _ 0 q V (XE _) (r1.below h) FO I.o) r1;obtain⟨n,hn⟩:=ex (DU q);rw[hn]at x;have H:=Z hn;clear hn r1 R S;by_cases K:n<0
 . have y:=Z (show 0-q=Yv q by
    have B:=(Oa q).1 (by rw[MV,H.o];exact K);unfold Yv;rw[BE B];grind)
   rw[y.o]at G;go_wp2_with(first
    |(go_at_call 272;refine x.o.mono ?_;rintro e w1 ⟨rfl,hq⟩;clear s j m r;obtain⟨s,j,m,r⟩:=(v.below hq).cq;clear b c f d;obtain⟨b,c,f,d⟩:=(a.below hq).cq;clear l k p o;obtain⟨l,k,p,o⟩:=(a.below hq).fq)
    |(go_at_call 42;refine(G.o _ hq).mono ?_;rintro e w2 ⟨u2,rfl,t,Q⟩;obtain⟨bm,X,bi,aj,bu,ah,aq,an,rfl⟩:=Jg.form t;have hq:=Bt hq Q;clear s j m r;obtain⟨s,j,m,r⟩:=(v.below hq).cq;clear b c f d;obtain⟨b,c,f,d⟩:=(a.below hq).cq;clear l k p o;obtain⟨l,k,p,o⟩:=(a.below hq).fq))
   have A:=Bt g.o.2.2 hq;have z:=g.o.ge 1 J;exact A0 (by simp[results,results240,go_sem,b,c,f,d]) J ⟨_,J,t.put4 (a.below hq) J J J J _ _ _ _,Jw A z _ _ _ _⟩
 . have y:=Z (show Yv q=q by
    have B:¬q<0:=λh=>K (by rw[<-H.o,<-MV];exact(Oa q).2 h);unfold Yv;rw[BD B])
   go_wp2_with(go_at_call 272;refine x.o.mono ?_;rintro e w1 ⟨rfl,hq⟩;clear s j m r;obtain⟨s,j,m,r⟩:=(v.below hq).cq;clear b c f d;obtain⟨b,c,f,d⟩:=(a.below hq).cq;clear l k p o;obtain⟨l,k,p,o⟩:=(a.below hq).fq)
   have t:=N.o.below hq;rw[<-y.o]at t;have A:=Bt g.o.2.2 hq;have z:=g.o.ge 1 J;exact A0 (by simp[results,results240,go_sem,b,c,f,d]) J ⟨_,J,t.put4 (a.below hq) J J J J _ _ _ _,Jw A z _ _ _ _⟩
def rK(X vb:C)(p q:Rat)(w:F)(K:Jg w X p)(hb:Jg w vb q)(T:Sq p)(U:Sq q):
 Calls Tryz.prog 239 #[X,vb] w λe w'=>∃u,e=.returned u/\Jg w' u (I1 p q)/\Bl w w':=by
 obtain⟨s,a,l,c,t,b,k,d,rfl⟩:=Jg.form K;obtain⟨s',a',l',c',t',b',k',d',rfl⟩:=Jg.form hb;obtain⟨W0,ae,g⟩:=IK 50 (.rat p) K 50 (.rat q) hb 50 (.rat 0) (XE _);have Qc:=Z T;have Qb:=Z U;clear K hb T U;go_enter func239,ntmps239
 go_upto_region 1 with fail
 rw[ae.o];obtain⟨s1,a1,l1,c1,t1,b1,k1,d1,L,r1,_,_⟩:=g.o.rat (i:=0) J;obtain⟨s2,a2,l2,c2,t2,b2,k2,d2,M,N,_,_⟩:=g.o.rat (i:=1) J;obtain⟨s3,a3,l3,c3,t3,b3,k3,d3,W,_,_,_⟩:=g.o.rat (i:=2) J;have D:=Z (XI _ _ p q W0 r1 N Qc.o Qb.o);obtain⟨n,hn⟩:=ex (Xq p q);rw[hn]at D;obtain⟨Q,R,P⟩:=DY hn (And.intro r1 N) λ(V:F) (h:Bl W0 V)=>And.intro (L.below h) (And.intro (M.below h) (W.below h));obtain⟨y,z,A,B⟩:=L.cq;obtain⟨j,m,o,r⟩:=M.cq;clear hn r1 N L M W;by_cases S:n<0
 . have G:=Z (show I1 p q=q from BE (Io.1 (by rw[Q.o];exact S)));go_upto_region 2 with(go_at_call 21;refine D.o.mono ?_;rintro e w1 ⟨rfl,hq⟩;clear y z A B j m o r;obtain⟨_,x,f⟩:=P.o _ hq;obtain⟨y,z,A,B⟩:=x.cq;obtain⟨j,m,o,r⟩:=f.cq;obtain⟨f5,f6,f7,f8⟩:=f.fq;have H:=Z f;clear x f)
   go_wp2_with fail
   have v:=R.o.2.below hq;rw[<-G.o]at v;have I:=Bt g.o.2.2 hq;exact A0 (by simp[results,results239,go_sem,j,m,o,r]) J ⟨_,J,v.put4 H.o J J J J _ _ _ _,Jw I (g.o.ge 2 J) _ _ _ _⟩
 . have G:=Z (show I1 p q=p from BD λh=>S (by rw[<-Q.o];exact Io.2 h));go_upto_region 3 with(go_at_call 21;refine D.o.mono ?_;rintro e w1 ⟨rfl,hq⟩;clear y z A B j m o r;obtain⟨x,_,f⟩:=P.o _ hq;obtain⟨y,z,A,B⟩:=x.cq;obtain⟨j,m,o,r⟩:=f.cq;obtain⟨f5,f6,f7,f8⟩:=f.fq;have H:=Z f;clear x f)
   go_wp2_with fail
   have v:=R.o.1.below hq;rw[<-G.o]at v;have I:=Bt g.o.2.2 hq;exact A0 (by simp[results,results239,go_sem,j,m,o,r]) J ⟨_,J,v.put4 H.o J J J J _ _ _ _,Jw I (g.o.ge 2 J) _ _ _ _⟩
end M3
def Yr(W:F)(v:C)(a b:Rat):Prop:=∃x0 x1 x2 x3 y0 y1 y2 y3,v=.agg #[x0,x1,x2,x3,y0,y1,y2,y3]/\Jg W (.agg #[x0,x1,x2,x3]) a/\Jg W (.agg #[y0,y1,y2,y3]) b
def JJ(W:F)(v:C)(r:RtQ):Prop:=∃x0 x1 x2 x3 y0 y1 y2 y3 a c b,v=.agg #[x0,x1,x2,x3,y0,y1,y2,y3,E a c b,.int .i64 r.sg,.int .i64 (r.tm:Int)]/\Jg W (.agg #[x0,x1,x2,x3]) r.lo/\Jg W (.agg #[y0,y1,y2,y3]) r.hi/\Je W (.agg #[E a c b]) r.w
section
variable {V W:World} {v:Value} {a b:Rat} {r:RtQ}
def Yr.below(h:Yr V v a b)(hb:Bl V W):Yr W v a b:=by
 obtain⟨x0,x1,x2,x3,y0,y1,y2,y3,e,c,d⟩:=h;exact⟨x0,x1,x2,x3,y0,y1,y2,y3,e,c.below hb,d.below hb⟩
def JJ.below(h:JJ V v r)(hb:Bl V W):JJ W v r:=by
 obtain⟨x0,x1,x2,x3,y0,y1,y2,y3,d,g,f,e,a,b,c⟩:=h;exact⟨x0,x1,x2,x3,y0,y1,y2,y3,d,g,f,e,a.below hb,b.below hb,c.below hb⟩
structure Kp(V W:World):Prop where
 row:∀k v ds,Row k V v ds->Row k W v ds
 rowK:∀v qs,RowK true V v qs->RowK true W v qs
def Kp.rat(k:Kp V W){v:C}{q:Rat}(h:Jg V v q):Jg W v q:=EM.keep (r:=true) h k.row
def Kp.int(k:Kp V W){v:C}{z:Int}(h:Jk V v z):Jk W v z:=by
 obtain⟨a,l,c,e,b⟩:=h;exact⟨a,l,c,e,k.row _ _ _ b⟩
def Kp.poly(k:Kp V W){v:C}{p:List Rat}(h:Je V v p):Je W v p:=by
 obtain⟨u,e,h⟩:=h;exact⟨u,e,k.rowK _ _ h⟩
def Kp.span(k:Kp V W)(h:Yr V v a b):Yr W v a b:=by
 obtain⟨x0,x1,x2,x3,y0,y1,y2,y3,e,c,d⟩:=h;exact⟨x0,x1,x2,x3,y0,y1,y2,y3,e,k.rat c,k.rat d⟩
def Kp.root(k:Kp V W)(h:JJ V v r):JJ W v r:=by
 obtain⟨x0,x1,x2,x3,y0,y1,y2,y3,d,g,f,e,a,b,c⟩:=h;exact⟨x0,x1,x2,x3,y0,y1,y2,y3,d,g,f,e,k.rat a,k.rat b,k.poly c⟩
def Kp.trans{U:F}(h:Kp V W)(k:Kp W U):Kp V U:=⟨λa b c d=>k.row a b c (h.row a b c d),λa b c=>k.rowK a b (h.rowK a b c)⟩
def Kp.of_below(hb:Bl V W):Kp V W:=⟨λ_ _ _ h=>Row.below h hb,λ_ _ h=>RowK.below h hb⟩
end
namespace M3
section
variable {V W:World} {B:Nat} {t:TypeId} {cs:Array Value}
variable{x0 x1 x2 x3 y0 y1 y2 y3:C}
def Bx.c(h:Bx V B t cs){i:Nat}{x:C}(e:cs[i]?=some x):V.cell? ⟨B,i,none⟩=some x:=by simp[World.cell?,show V.heap[B]?=_ from h,e]
def Bx.new(V:F)(t:TypeId)(cs:Array C):Bx (V.alloc (.cells cs t)) V.heap.size t cs:=BC V _
def Bx.alloc(h:Bx V B t cs)(o:Obj):Bx (V.alloc o) B t cs:=h.below (Ba V o)
def Bx.set(h:Bx V B t cs)(i:Nat)(x:C):Bx (V.setCell ⟨B,i,none⟩ x) B t (cs.setIfInBounds i x):=Yk h x
def Bx.r4(h:Bx V B t #[x0,x1,x2,x3]):V.cell? ⟨B,0,none⟩=some x0/\V.cell? ⟨B,1,none⟩=some x1/\V.cell? ⟨B,2,none⟩=some x2/\V.cell? ⟨B,3,none⟩=some x3:=⟨h.c J,h.c J,h.c J,h.c J⟩
def Bx.s8(h:Bx V B t #[x0,x1,x2,x3,y0,y1,y2,y3]):V.cell? ⟨B,0,none⟩=some x0/\V.cell? ⟨B,1,none⟩=some x1/\V.cell? ⟨B,2,none⟩=some x2/\V.cell? ⟨B,3,none⟩=some x3/\V.cell? ⟨B,4,none⟩=some y0/\V.cell? ⟨B,5,none⟩=some y1/\V.cell? ⟨B,6,none⟩=some y2/\V.cell? ⟨B,7,none⟩=some y3:=⟨h.c J,h.c J,h.c J,h.c J,h.c J,h.c J,h.c J,h.c J⟩
def Bx.r11{p s u:C}(h:Bx V B t #[x0,x1,x2,x3,y0,y1,y2,y3,p,s,u]):(V.cell? ⟨B,0,none⟩=some x0/\V.cell? ⟨B,1,none⟩=some x1/\V.cell? ⟨B,2,none⟩=some x2/\V.cell? ⟨B,3,none⟩=some x3)/\(V.cell? ⟨B,4,none⟩=some y0/\V.cell? ⟨B,5,none⟩=some y1/\V.cell? ⟨B,6,none⟩=some y2/\V.cell? ⟨B,7,none⟩=some y3)/\V.cell? ⟨B,8,none⟩=some p/\V.cell? ⟨B,9,none⟩=some s/\V.cell? ⟨B,10,none⟩=some u:=⟨⟨h.c J,h.c J,h.c J,h.c J⟩,⟨h.c J,h.c J,h.c J,h.c J⟩,h.c J,h.c J,h.c J⟩
def KU(w:F)(c d:TypeId)(a b:Array C):∃W,(w.alloc (.cells a c)).alloc (.cells b d)=W/\Bx W w.heap.size c a/\Bx W (w.heap.size+1) d b/\Bl w W:=by
 have e:=Bx.new (w.alloc (.cells a c)) d b;simp only[Ax]at e;exact⟨_,J,(Bx.new w c a).alloc _,e,(Ba w _).alloc (by simp only[Ax];omega) _⟩
def Zz(w:F)(d e f:TypeId)(a b c:Array C):∃W,((w.alloc (.cells a d)).alloc (.cells b e)).alloc (.cells c f)=W/\Bx W w.heap.size d a/\Bx W (w.heap.size+1) e b/\Bx W (w.heap.size+1+1) f c/\Bl w W:=by
 have g:=Bx.new (w.alloc (.cells a d)) e b;have i:=Bx.new ((w.alloc (.cells a d)).alloc (.cells b e)) f c;simp only[Ax]at g i;exact⟨_,J,((Bx.new w d a).alloc _).alloc _,g.alloc _,i,((Ba w _).alloc (by simp only[Ax];omega) _).alloc (by simp only[Ax];omega) _⟩
end
end M3
namespace M3
theorem NG(K X:Nat)(v vx:C)(ps:List Rat)(x:Rat)(w:F)(h:Je w v ps)(N:Jg w vx x)(hw:Wh K ps)(hX:DR X x)(bj:K+ps.length*(X+2)+X+K<=10000000000):
 Calls Tryz.prog 119 #[v,vx] w λe w'=>e=.returned (.int .i64 (DU (ev ps x)))/\Bl w w':=by
 obtain⟨zs,r,P⟩:=hw.zs;obtain⟨o,la,p,rfl⟩:=h.form;obtain⟨bg,ap,aq,bi,_⟩:=h.row.forms;obtain⟨s,a,l,c,t,b,k,d,rfl⟩:=Jg.form N;have Qd:zs.length=ps.length:=by rw[r,Cw]
 obtain⟨n,hn⟩:=ex (ps.length:Nat);have Qo:∀i,i<n->∃z,cf ps i=((z:Int):Rat)/\(cf ps i).num=z/\Sm K z/\hZ x.num (x.den:Int) (zs.drop (i+1))*x.num+z*(x.den:Int)^(n-(i+1))=hZ x.num (x.den:Int) (zs.drop i):=λi hi=>by
  have Qj:i<zs.length:=O
  have e:cf ps i=((zs[i]:Int):Rat):=by rw[r,cf];simp[Qj]
  refine⟨zs[i],e,by rw[e];exact CZ _,P _ (List.getElem_mem Qj),?_⟩;grind[rG]
 have Qt:=Z Qo;have H:=Z (show ∀i,Sm (K+ps.length*(X+2)) (hZ x.num (x.den:Int) (zs.drop i))from λi=>by
  have h1:=rF (K:=K) hX.1 hX.2 (zs.drop i) λz r=>P z (List.mem_of_mem_drop r);refine h1.mono ?_;have h2:(zs.drop i).length*(X+2)<=ps.length*(X+2):=Ad _ (by rw[A7];omega);omega)
 have D:=Z (show ∀i,i<=n->Sm (K+ps.length*(X+2)+1) ((x.den:Int)^i)from λi hi=>by
  refine(Sm.powZ hX.2 i).mono ?_;have h2:i*X<=ps.length*(X+2):=Cn O O;omega)
 obtain⟨A,Qp,HP,Qn⟩:=Ds hX (show XQ (hZ x.num (x.den:Int) zs) 0=DU (ev ps x)by rw[rH,<-r]) (λ(V:F) (I:Bl w V)=>h.below I) λ(V:F) (I:Bl w V)=>Yq (.agg #[E o la p]) ps V (h.below I);rw[hn]at Qn H D bj;obtain⟨W0,R,U⟩:=IK 25 (.cell 25 (E o la p)) EN 50 (.rat x) N 48 (.int 0) (EW _);have cj:n<=1099511627776:=O
 have Qy:=Z (show hZ x.num (x.den:Int) (zs.drop n)=0 by rw[AV O];rfl);have Ql:=Z λ(V:F)=>F6 1 O O V;clear h N hw hX bg ap aq bi Qo r P Qd hn;go_enter func119,ntmps119
 go_upto_region 2 with fail
 rw[R.o];clear R;go_upto_region 3 with(go_at_call 107;refine(Ql.o _).mono ?_;clear Ql;rintro e w2 ⟨u2,rfl,ah,an⟩;obtain⟨s9,a9,l9,c9,rfl⟩:=Jk.form2 ah)
 obtain⟨V1,M⟩:=ex (w2.alloc (.cells #[.bool s9,E a9 l9 c9] 48));obtain⟨B1,L⟩:=ex (w2.heap.size);have g:DI w (w2.alloc (.cells #[.bool s9,E a9 l9 c9] 48)) [some (w.heap.size,.cell 25 (E o la p)),some (w.heap.size+1,.rat x),some (w.heap.size+1+1,.int 0),some (w2.heap.size,.int 1)]:=DI.push (U.o.below an) (.int 1) ah;rw[M,L]at g;rw[M];rw[L];have m:Hid (DI w V1 [some (w.heap.size,.cell 25 (E o la p)),some (w.heap.size+1,.rat x),some (w.heap.size+1+1,.int 0),some (B1,.int 1)]):=Z (g);clear U;clear g M L;have c0:=(m.o.cell (i:=0) J).1.cell;go_upto_region 4 with(go_at_call 75;refine(Qn.o _ m.o.2.2).mono ?_;rintro e w3 ⟨rfl,ae⟩)
 have W:Hid (DI w w3 [some (w.heap.size,.cell 25 (E o la p)),some (w.heap.size+1,.rat x),some (w.heap.size+1+1,.int (hZ x.num (x.den:Int) (zs.drop n))),some (B1,.int ((x.den:Int)^(n-n)))]):=Z (by rw[Qy.o,Ck,FI];exact m.o.below ae);clear c0 ae m;go_loopw [7] (λQ wr=>∃k:Nat,k<=n/\Q=.int .i64 ((k:Int)-1)/\Hid (DI w wr [some (w.heap.size,.cell 25 (E o la p)),some (w.heap.size+1,.rat x),some (w.heap.size+1+1,.int (hZ x.num (x.den:Int) (zs.drop k))),some (B1,.int ((x.den:Int)^(n-k)))])) λQ _=>(intOf Q+1).toNat
 case atStart=>exact⟨n,Aa _,J,W⟩
 case round=>
  obtain⟨k,hk,rfl,m⟩:=hrel;clear W;by_cases ce:0<k
  . obtain⟨i,rfl⟩:∃i,k=i+1:=⟨k-1,O⟩;obtain⟨z,bm,ai,aj,am⟩:=Qt.o i O;obtain⟨Qv,Qi,G⟩:=DY ai aj am;clear bm ai aj am;have Qg:(x.den:Int)^(n-(i+1))*(x.den:Int)=(x.den:Int)^(n-i):=by rw[<-CK,show(n-(i+1)).succ=n-i by omega]
    have Qh:=Z Qg;clear Qg;have Qw:((i+1:Nat):Int)-1=(i:Int):=O
    rw[Qw];have bz:0<=(i:Int):=O
    obtain⟨Ua,Qq,Qf,Qs⟩:=Ds (λ(j:Nat)=>(H.o j).words) (λ(j:Nat) (hj:j<=n)=>(D.o j hj).words) (And.intro A.o.1.words A.o.2.words) Qi.o.words;obtain⟨S,u⟩:=ex (hZ x.num (x.den:Int) (zs.drop (i+1)));obtain⟨T,hT⟩:=ex ((x.den:Int)^(n-(i+1)));obtain⟨Qu,Qm,Qr,Qx⟩:=Ds (show(Jh Y S.natAbs).length<=K+n*(X+2)by rw[<-u];exact Ua.o _) (show(Jh Y T.natAbs).length<=K+n*(X+2)+1 by rw[<-hT];exact Qq.o _ O) (show Sm (K+n*(X+2)) S by rw[<-u];exact H.o _) (show Sm (K+n*(X+2)+1) T by rw[<-hT];exact D.o _ O);rw[u]at m G;rw[hT]at m G Qh;clear u hT;have Qk:=Z (show(Jh Y (S*x.num).natAbs).length<1099511627776/\(Jh Y (z*T).natAbs).length<1099511627776 from⟨by have:=(Qr.o.mul A.o.1).words;omega,by have:=(Qi.o.mul Qx.o).words;omega⟩);have Qz:=Z λ(V:F) (y:C) (hy:Jg V y x)=>FU y x V hy;go_upto_region 6 with fail
    refine YE Dh [[],[],[1],[0,2,2],[],[],[4,5,3],[6,6],[],[7,8,7],[3,9,9],[10,10,0,1,2,3,4,5,6,7,8,9,10]] [.int S,.rat x,.int (x.num),.int (S*x.num),.eq (.agg #[E o la p]),.eq (Value.int IntKind.i64 ↑i),.rat (cf ps i),.int z,.int T,.int (z*T),.int (hZ x.num (x.den:Int) (zs.drop i)),.eq undef] [11] (λb _ V=>DI w V [some (w.heap.size,.cell 25 (E o la p)),some (w.heap.size+1,.rat x),some (w.heap.size+1+1,if b.getD 0 false then .int (hZ x.num (x.den:Int) (zs.drop i))else .int S),some (B1,.int T)]) m.o.drew (SR (.vl J λ_ j=>FM 2 j)<|SR (.vl J λ_ j=>Ei 1 j)<|SR (.cl λh _=>Md _ x _ (h.g 1))<|SR (.cl λh _=>YX _ _ S x.num _ (h.g 0) (h.g 2) (by have:=Qu.o;have:=Qf.o.1;omega))<|SR (.vl J λ_ j=>FN 0 j)<|SR (.vl J λ_ _=>mv)<|SR (.cl λh j=>c2 (h.e 4) (h.e 5) (by have q:=Hb _ ps (i:Int) _ (HP.o _ j.2.2);rw[IM]at q;exact q))<|SR (.cl λh _=>Qv.o ▸ Md _ (cf ps i) _ (h.g 6))<|SR (.vl J λ_ j=>FM 3 j)<|SR (.cl λh _=>YX _ _ z T _ (h.g 7) (h.g 8) (by have:=Qm.o;have:=Qs.o;omega))<|SR (.cl λh _=>G.o ▸ Nu _ _ (S*x.num) (z*T) _ (h.g 3) (h.g 9) (Qk.o.1) (Qk.o.2))<|SR (.wr J λh j=>Ey 2 j (h.g 10)) Stp.end_)
     λf V3 hF g=>?_
    refine DO ?_;rw[hF.e 4,hF.e 5];have g:=Du g;have M3:=Z g;clear g hF;clear m;go_upto_region 7 with fail
    refine YE Dh [[],[],[1],[0,2,2],[3,3,0,1,2,3]] [.int T,.rat x,.int ((x.den:Int)),.int ((x.den:Int)^(n-i)),.eq undef] [4] (λb _ V=>DI w V [some (w.heap.size,.cell 25 (E o la p)),some (w.heap.size+1,.rat x),some (w.heap.size+1+1,.int (hZ x.num (x.den:Int) (zs.drop i))),some (B1,if b.getD 0 false then .int ((x.den:Int)^(n-i))else .int T)]) M3.o.drew (SR (.vl J λ_ j=>FM 3 j)<|SR (.vl J λ_ j=>Ei 1 j)<|SR (.cl λh _=>Qz.o _ _ (h.g 1))<|SR (.cl λh _=>Qh.o ▸ YX _ _ T (x.den:Int) _ (h.g 0) (h.g 2) (by have:=Qm.o;have:=Qf.o.2;omega))<|SR (.wr J λh j=>Ey 3 j (h.g 3)) Stp.end_)
     λf V5 hF g=>?_
    refine DO ?_;have g:=Du g;have M4:=Z g;clear g hF;clear M3;go_wp2_with fail
    go_roundw
    case rel=>exact⟨i,O,by go_num,M4⟩
    case measure=>simp[intOf]
  . obtain rfl:k=0:=O
    rw[show zs.drop 0=zs from J]at m;obtain⟨s6,a6,l6,c6,n6,i6⟩:=m.o.int (i:=2) J;obtain⟨bn,bu⟩:=n6.cp;have B:=Z (Ih _ _ (hZ x.num (x.den:Int) zs) 0 wr i6 (EW _));rw[Qp.o]at B;go_wp2_with(go_at_call 47;refine B.o.mono ?_;clear B;rintro e w6 ⟨rfl,hq⟩)
    go_ret;exact⟨J,Bt m.o.2.2 hq⟩
