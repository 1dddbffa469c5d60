import Derived.Test.YtdmmbgahnkbnaaaGreatDoorU38
set_option linter.all false
open Go renaming Value->C,World->E
set_option maxRecDepth 99999
set_option maxHeartbeats 0
namespace Go.Proofs.YtdmmbgahnkbnaaaGreatDoor
open Go.RowKit Go.Shelf
theorem oq{a b c:Rat}(h:0<a*b):c*a<0↔c*b<0:=by
 by_cases c0:c=0
 . subst c0;simp
 . obtain⟨a0,b0⟩:=JC h;rw[RM c0 a0,RM c0 b0]
   have:¬(a*b<0):=DG
   rw[RM a0 b0]at this;grind
def Ge:List Rat->Rat
 |[]=>0
 |c::t=>if c=0 then Ge t else c
theorem Wp(t:List Rat):∀(a v:Rat),0<v*Ge t->Xd a t=(if a*v<0 then 1 else 0)+Xd v t:=by
 induction t with
 |nil=>intro a v h;simp[Ge]at h
 |cons c t b=>
  intro a v h;grind[Ge,Xd,oq]
def Ii:Rat->List Rat->Rat
 |a,[]=>a
 |a,b::l=>if b=0 then Ii a l else Ii b l
theorem ot(l:List Rat):∀a b:Rat,Xd a (l++[b])=Xd a l+(if Ii a l*b<0 then 1 else 0):=by
 induction l with
 |nil=>
  intro a b;rw[Al,Ii];by_cases b0:b=0
  . subst b0;simp[Xd]
  . rw[X7 b0];simp[Xd]
 |cons c l d=>
  intro a b;grind[Ii,Xd]
theorem ou(l:List Rat):∀a b:Rat,Ii a (l++[b])=if b=0 then Ii a l else b:=by
 induction l with
 |nil=>intro a b;rfl
 |cons c l d=>
  intro a b;grind[Ii]
def ov(l:List Rat):Ii 0 l.reverse=Ge l:=by
 induction l with
 |nil=>rfl
 |cons c t a=>rw[List.reverse_cons,ou,a,Ge]
theorem Wq(l:List Rat):Ge l=0->∀a,Xd a l=0:=by
 induction l with
 |nil=>intro _ a;rfl
 |cons c t b=>
  intro h a;grind[Ge,Xd]
theorem ow(l:List Rat):DL l.reverse=DL l:=by
 induction l with
 |nil=>rfl
 |cons c t a=>
  rw[List.reverse_cons];show Xd 0 (t.reverse++[c])=Xd 0 (c::t);rw[ot,ov];have a:Xd 0 t.reverse=Xd 0 t:=a;rw[a];by_cases c0:c=0
  . subst c0;rw[Xd,BH rfl,Fo,BG DJ];rfl
  . rw[X7 c0,A7,BG (show ¬(0:Rat)<0 by decide)];by_cases f0:Ge t=0
    . rw[f0,A7,BG (show ¬(0:Rat)<0 by decide),Wq t f0,Wq t f0]
    . have ff:0<Ge t*Ge t:=by
       have:=XD (f:=[Ge t]) f0 (λx=>Jn _ x) 0 0;unfold Stb at this;rwa[Jn]at this
      have b:=Wp t 0 (Ge t) ff;grind[Wp]
def Ij(a b:Rat):Rat:=if a<b then b else a
def EA(p:List Rat):Nat->Rat
 |0=>0
 |n+1=>Ij (EA p n) (Yg (cf p n/cf p (p.length-1)))
def Yh(p:List Rat):Rat:=EA p (p.length-1)+1
theorem Ws(p:List Rat)(n:Nat):0<=EA p n:=by
 induction n with
 |zero=>exact Rat.le_refl
 |succ n a=>
  rw[EA,Ij];grind
theorem ox(p:List Rat)(n:Nat):∀i,i<n->Yg (cf p i/cf p (p.length-1))<=EA p n:=by
 induction n with
 |zero=>intro i h;omega
 |succ n a=>
  intro i h;grind[EA,Ij]
theorem oy{p:List Rat}(tp:Jc p=p)(p0:p≠[])(i:Nat)(h:i+1<p.length):Wi (EA p (p.length-1)*(cf p (p.length-1)*cf p (p.length-1))) (cf p (p.length-1)*cf p i):=by
 have d:=ox p (p.length-1) i O;have j:=Jq tp p0;generalize EA p (p.length-1)=M at *;generalize cf p (p.length-1)=k at *;generalize cf p i=c at *;have e:c=c/k*k:=(Aj j).symm;obtain⟨r,g⟩:=ex (c/k);rw[g]at d e;have l:-M<=r/\r<=M:=by
  unfold Yg at d;grind
 have f:=Xo k;have m:=Rat.mul_nonneg (a:=M-r) (b:=k*k) DG f;have n:=Rat.mul_nonneg (a:=M+r) (b:=k*k) DG f;rw[e];constructor<;>grind
theorem Mg(p:List Rat):0<Yh p:=by
 have:=Ws p (p.length-1);unfold Yh;grind
theorem oz{k v:Rat}(c:k≠0)(h:k*k<=k*v):k*k<=v*v:=by
 have d:0<k*k:=by
  have:=XD (f:=[k]) c (λx=>Jn _ x) 0 0;unfold Stb at this;rwa[Jn]at this
 have e:=Rat.mul_nonneg (a:=k*v-k*k) (b:=k*v+k*k) DG DG;rcases JX (k*k) (v*v)with h|h
 . exact h
 . rcases Rat.le_iff_lt_or_eq.1 h with h|h
   . have:=Rat.mul_pos (a:=k*k) (b:=k*k-v*v) d DG;grind
   . grind
theorem sq_pow{s:Rat}(hs:s*s=1)(n:Nat):s^n*s^n=1:=by
 induction n with
 |zero=>grind
 |succ n a=>rw[Rat.pow_succ];grind
theorem Wt{p:List Rat}(tp:Jc p=p)(p0:p≠[]){s:Rat}(hs:s*s=1){x:Rat}(b:Yh p<=x):cf p (p.length-1)*cf p (p.length-1)<=ev p (s*x)*ev p (s*x):=by
 have c:=Jq tp p0;have h:=oX hs (Ws p (p.length-1)) p tp p0 _ rfl (oy tp p0) x (by unfold Yh at b;grind);have e:=sq_pow hs (p.length-1);generalize s^(p.length-1)=r at *;generalize cf p (p.length-1)=k at *;generalize ev p (s*x)=v at *;have:=oz (k:=k) (v:=r*v) c DG;have a:r*v*(r*v)=(r*r)*(v*v):=DG
 rw[a,e,CM]at this;exact this
def Wu{p:List Rat}(tp:Jc p=p)(p0:p≠[]):0<cf p (p.length-1)*cf p (p.length-1):=by
 have:=XD (f:=[cf p (p.length-1)]) (Jq tp p0) (λx=>Jn _ x) 0 0;unfold Stb at this;rwa[Jn]at this
theorem o7{p:List Rat}(tp:Jc p=p)(p0:p≠[]):DL (JD (Jw p) (Yh p))=DL (GS (Jw p)):=by
 obtain⟨B,e,c,_⟩:=Xh (Yj tp p0);have b0:=Mg p;have:=Wn tp p0 (Wu tp p0) (a:=Yh p) (b:=Yh p+B) (by clear c;grind) (λx d _=>by
  have:=Wt tp p0 (s:=1) DG d;rwa[CM]at this)
 grind
theorem o9{p:List Rat}(tp:Jc p=p)(p0:p≠[]):DL (JD (Jw p) (-(Yh p)))=DL (EL (Jw p)):=by
 obtain⟨B,d,_,c⟩:=Xh (Yj tp p0);have b0:=Mg p;have:=Wn tp p0 (Wu tp p0) (a:=-(Yh p+B)) (b:=-(Yh p)) (by clear c;grind) (λx _ e=>by
  have:=Wt tp p0 (s:=-1) DG (x:=-x) (by clear c;grind);rwa[show(-1:Rat)*-x=x by clear c;grind]at this)
 grind
def nA(p:List Rat):Int:=(DL (EL (Jw p)):Int)-(DL (GS (Jw p)):Int)
def nB(p:List Rat)(x:Rat):Int:=(DL (EL (Jw p)):Int)-(DL (JD (Jw p) x):Int)
section
variable {p q:List Rat} (tp:Jc p=p) (p0:p≠[]) (tq:Jc q=q) (q0:q≠[])
def pB(tp:Jc p=p)(p0:p≠[])(tq:Jc q=q)(q0:q≠[]):nA (Jj p q)=nA p+nA q-nA (Ju p q):=by
 have h:=oS tp p0 tq q0;unfold nA;omega
end
theorem pC{p:List Rat}(tp:Jc p=p)(p0:p≠[]){F:Rat->Nat}(h:∀ {B:Rat},0<=B->Sh B λx z=>F x+Ye (DK p) x z=F z){u d:Nat}{X:Rat}(r:∀x,X<=x->F x=u)(q:∀x,x<=-X->F x=d):nA p=(u:Int)-(d:Int)/\∀x,nB p x=(F x:Int)-(d:Int):=by
 have g:∀a b,a<=b->DL (JD (Jw p) a)+F a=DL (JD (Jw p) b)+F b:=λa b j=>by
  obtain⟨A,k,hA⟩:=JN a;obtain⟨C,m,hC⟩:=JN b;have f:0<=A+C:=DG
  exact Wo (P:=λx z=>DL (JD (Jw p) x)+F x=DL (JD (Jw p) z)+F z) (λ_=>rfl) (λ_ _ _ c e=>c.trans e)
   (((RL tp p0 f).and (h f)).mono λx z _ _ _ ⟨c,e⟩=>by show _=_;omega) (hA.mono DG) (hC.mono DG) j
 obtain⟨B,l,c,e⟩:=Xh (Yj tp p0);obtain⟨n,o,i⟩:=JN X;have y1:=i.1;grind[nA,nB]
def Wv:nA [1]=0/\∀x,nB [1] x=0:=by
 have t:Jc [(1:Rat)]=[1]:=DJ
 refine pC t DH (F:=λ_=>0) (λb=>Sh.all λx z _ _ _=>?_) (u:=0) (d:=0) (X:=0) (λ_ _=>rfl) (λ_ _=>rfl) |> λh=>⟨by rw[h.1];rfl,λx=>by rw[h.2 x];rfl⟩
 show 0+Ye (DK [1]) x z=0;have a:=Xi t DH;have:=(a.dv.len a.tw a.tR a.R0).1;rw[LG t]at this;rw[XY (QZ a.tw a.w0 (by simpa using this) x z)]
structure Made(p:List Rat)(R:List Rat):Prop where
 tp:Jc p=p
 p0:p≠[]
 all:nA p=(R.length:Int)
 bel:∀x,nB p x=((R.filter λr=>decide (r<=x)).length:Int)
 rt:∀r,ev p r=0↔r∈R
section
variable{k:Rat}
def Ww{w:List Rat}(h:Db w){B:Rat}(a:0<=B):Sh B λx z=>¬Stb w x z->x<z->0<ev (Jb w) x*(ev w z-ev w x):=by
 obtain⟨u,v,c⟩:=h;obtain⟨U,l,b⟩:=XM u a;have d:U*(1/4/U)=1/4:=by rw[AU,Aj DG]
 refine rise_of (y:=v) (k:=3/4) a DG ((Xc w a (Yf G8 l)).mono λx z i j _ e hn=>?_);obtain⟨f,g⟩:=e hn;exact⟨KM (c x) (b x i) f (by rw[d];exact Rat.le_refl),KM (c z) (b z j) g (by rw[d];exact Rat.le_refl)⟩
theorem pD{g:List Rat}:∀(n:Nat) (a b:List Rat),b.length<=n->Jc b=b->Dv g a->Dv g b->∀p∈EO a b,Dv g p:=by
 intro n;induction n with
 |zero=>
  intro a b hn _ d _ p hp
  have:b=[]:=Ak.1 O
  subst this;rw[KB,List.mem_singleton]at hp;rw[hp];exact d
 |succ n k=>
  intro a b hn tb d e p hp;by_cases b0:b=[]
  . subst b0;rw[KB,List.mem_singleton]at hp;rw[hp];exact d
  . rw[XF tb b0]at hp;rcases Fk.1 hp with hp|hp
    . rw[hp];exact d
    . have hl:=Xg (a:=a) tb b0;obtain⟨q,c,c0,j⟩:=RG (a:=a) tb b0;refine k b (XC a b) O (Ic _ _) e (d.comb e [-(EX a b/c)] (Jj [1/c] q) λx=>?_) p hp;rw[Jn,Je,Jn];have l:=j x;have f:1/c*c=1:=Aj DG;have i:EX a b/c=1/c*EX a b:=by rw[FJ,FJ,CM,AU]
      rw[i];have m:ev (XC a b) x=1/c*(c*ev (XC a b) x):=by rw[<-Rat.mul_assoc,f,CM]
      grind
theorem pE(hk:k≠0):∀(l:List Rat) (a:Rat),Xd (k*a) (l.map λx=>k*x)=Xd a l:=by
 intro l;induction l with
 |nil=>intro a;rfl
 |cons b l c=>
  intro a;rw[List.map_cons];by_cases b0:b=0
  . rw[b0,Fo,Xd,Xd,BH rfl,BH rfl,c]
  . have kb:k*b≠0:=λe=>by rcases AN.1 e with e|e;exact hk e;exact b0 e
    rw[X7 kb,X7 b0,c];have e:k*a*(k*b)=(k*k)*(a*b):=DG
    have d:0<k*k:=by
     rcases Rat.le_iff_lt_or_eq.1 (Xo k)with h|h
     . exact h
     . rcases AN.1 h.symm with h|h<;>exact absurd h hk
    by_cases hn:a*b<0
    . rw[BH hn,BH (by rw[e];have:=Rat.mul_pos d (show 0 < -(a*b)by grind);grind)]
    . rw[BG hn,BG (by rw[e];have:=Rat.mul_nonneg (a:=k*k) (b:=a*b) DG DG;grind)]
def Wx(hk:k≠0)(l:List Rat):DL (l.map λx=>k*x)=DL l:=by
 have:=pE hk l 0;rwa[Fo]at this
theorem XZ{a b:Rat}(h:0<a)(c:0<a*b):0<b:=by
 rcases JX b 0 with q|q
 . have:=Rat.mul_nonneg (a:=a) (b:=-b) DG DG;grind
 . rcases Rat.le_iff_lt_or_eq.1 q with q|q
   . exact q
   . rw[<-q]at c;grind
theorem LM{a b:Rat}(h:0<a)(c:a*b<0):b<0:=by
 have:=XZ (a:=a) (b:=-b) h DG;grind
def Wy{a b:Rat}(h:a<0)(c:a*b<0):0<b:=XZ (a:=-a) (b:=b) DG DG
theorem pF{A C d:Rat}(h:0<d*(C-A))(c:A*C<0):A*d<0:=by
 have e:=Rat.mul_pos h (show 0<A*A-A*C by have:=Xo A;grind);have f:=Xu (a:=C-A) (b:=-(A*d)) DG;grind
def D4(w q:List Rat):List (List Rat):=EO w (Jj (Jb w) q)
structure TkG(w q g:List Rat):Prop where
 tg:Jc g=g
 g0:g≠[]
 dw:Dv g w
 dq:Dv g q
 all:∀d,Dv d w->Dv d q->Dv d g
 cop:DR (Jm w g) q
 stay:∀ {B:Rat},0<=B->Sh B λx z=>Stb w x z->DL (JD (D4 w q) x)=DL (JD (D4 w q) z)
 step:∀ {B:Rat},0<=B->Sh B λx z=>ev w x*ev w z<0->(ev g x*ev g z<0/\DL (JD (D4 w q) x)=DL (JD (D4 w q) z))\/
  (Stb g x z/\Stb q x z/\((0<ev q x/\DL (JD (D4 w q) x)=DL (JD (D4 w q) z)+1)\/(ev q x<0/\DL (JD (D4 w q) x)+1=DL (JD (D4 w q) z))))
theorem Wz{w q:List Rat}(tw:Jc w=w)(w0:w≠[])(hs:Db w):∃g,TkG w q g:=by
 have tb:=JA (Jb w) q;obtain⟨g,_,tg,g0,m,G,h4,hD⟩:=Mb _ w (Jj (Jb w) q) (Aa _) tw tb w0;have k:=(JH tg g0 m).2;have I:=(JH tg g0 G).2;have U:∀p∈D4 w q,∀x,ev p x=ev g x*ev (Jm p g) x:=λp hp x=>(JH tg g0 (pD _ w _ (Aa _) tb m G p hp)).2 x;have hv:∀x,ev g x≠0->DL (JD (D4 w q) x)=DL (JD ((D4 w q).map λp=>Jm p g) x):=λx l=>by
  rw[<-Wx l (JD ((D4 w q).map λp=>Jm p g) x)];congr 1;unfold JD;rw[FC,FC];exact Ck λp hp=>U p hp x
 have X:w=Jj g (Jm w g):=Xb tw (JA _ _) λx=>by rw[Je];exact k x
 have K:DR (Jm w g) g:=(Db.parts (a:=g) (b:=Jm w g) (by rw[<-X];exact hs)).symm;have dq:Dv g q:=by
  have c1:DR g (Jb w):=DR.of_dv hs m;exact c1.dv G
 obtain⟨t,i⟩:=chnL_head w (Jj (Jb w) q);have j:StC (Jm w g::t.map λp=>Jm p g):=by
  have:=hD;rw[i,List.map_cons]at this;exact this
 have o:(D4 w q).map (λp=>Jm p g)=Jm w g::t.map λp=>Jm p g:=by
  unfold D4;rw[i,List.map_cons]
 have es:∀n y,t=n::y->n=Jj (Jb w) q:=λn y e=>by
  rw[e]at i;have b0:Jj (Jb w) q≠[]:=λe=>by
   rw[e,KB]at i;cases i
  rw[XF tb b0]at i;obtain⟨t2,ae⟩:=chnL_head (Jj (Jb w) q) (XC w (Jj (Jb w) q));rw[ae]at i;injection i with _ i
  injection i with i _
  exact i.symm
 have H:DR (Jm w g) q:=by
  match t,j,es with
  |[],j,_=>
   obtain⟨⟨c,c0,u⟩⟩:=j;refine⟨[1/c],[],λx=>?_⟩;rw[Jn,u]
   have:1/c*c=1:=Aj c0
   simp[ev];grind
  |n::y,j,es=>
   obtain rfl:=es n y rfl;have W:DR (Jm w g) (Jm (Jj (Jb w) q) g):=j.cop;exact DR.right (b:=Jb w) ((K.mul W).ext (λ_=>rfl) λx=>by rw[Je g,I x])
 refine⟨g,tg,g0,m,dq,λd d1 d2=>h4 d d1 (d2.mul' (Jb w)),H,fun {B} s=>?_,fun {B} s=>?_⟩
 . refine((j.gd s).and (Mf K s)).mono λx z _ _ _ hh f=>?_;have hg:=hh.1;have D:=hh.2;have e:ev w x*ev w z=(ev g x*ev g z)*(ev (Jm w g) x*ev (Jm w g) z):=by rw[k x,k z];grind
   unfold Stb at f D;rw[e]at f;obtain⟨v,n2⟩:=JC f;have su:Stb (Jm w g) x z:=by
    unfold Stb;rcases D with h|h
    . exact h
    . exact XZ h f
   have l:ev g x≠0:=λe=>v (by rw[e,A7]);have A:ev g z≠0:=λe=>v (by rw[e,Fo]);rw[hv x l,hv z A,o];exact hg.stay su
 . match t,j,o,es with
   |[],j,o,_=>
    obtain⟨⟨c,c0,u⟩⟩:=j;refine(Sh.all λx z _ _ _ f=>Or.inl ?_);have e:ev w x*ev w z=(ev g x*ev g z)*(c*c):=by rw[k x,k z,u,u];grind
    rw[e]at f;have c2:0<c*c:=by
     rcases Rat.le_iff_lt_or_eq.1 (Xo c)with h|h
     . exact h
     . rcases AN.1 h.symm with h|h<;>exact absurd h c0
    have r:ev g x*ev g z<0:=LM c2 DG;obtain⟨l,A⟩:=O0 r;refine⟨r,?_⟩;rw[hv x l,hv z A,o];show DL [ev (Jm w g) x]=DL [ev (Jm w g) z];rw[u,u]
   |n::y,j,o,es=>
    obtain rfl:=es n y rfl;refine(((j.gd s).and (Mf H s)).and (Ww hs s)).mono λx z _ _ ah hh f=>?_;have hg:=hh.1.1;have D:=hh.1.2;have hr:=hh.2;have e:ev w x*ev w z=(ev g x*ev g z)*(ev (Jm w g) x*ev (Jm w g) z):=by rw[k x,k z];grind
    have V:x<z:=by
     rcases Rat.le_iff_lt_or_eq.1 ah with h|h
     . exact h
     . rw[<-h]at f;have:=Xo (ev w x);grind
    have ai:=pF (hr (λh=>by unfold Stb at h;grind) V) f;rw[e]at f;obtain⟨v,n2⟩:=O0 f;have l:ev g x≠0:=λe=>v (by rw[e,A7]);have A:ev g z≠0:=λe=>v (by rw[e,Fo]);rw[hv x l,hv z A,o];by_cases r:ev g x*ev g z<0
    . exact Or.inl ⟨r,hg.stay (Wy r f)⟩
    . have N:0<ev g x*ev g z:=by
       rcases Rat.le_iff_lt_or_eq.1 (Rat.not_lt.1 r)with h|h
       . exact h
       . exact absurd h.symm v
      have un:=LM N f;have R:¬Stb (Jm w g) x z:=λh=>by unfold Stb at h;grind
      have ss:=(hg.adj).resolve_left R;have sq:=D.resolve_left R;refine Or.inr ⟨N,sq,?_⟩;obtain⟨s1,s2⟩:=JC ss;rw[JW,List.map_cons,JW,JW,JW,Iq s1,Iq s2,hg.tail.same _ _ _ (Aa _) ss];have L:(ev g x*ev g x)*(ev (Jm w g) x*ev (Jm (Jj (Jb w) q) g) x)=(ev w x*ev (Jb w) x)*ev q x:=by
       have h1:=k x;have m:=I x;rw[Je]at m;rw[Rat.mul_assoc (ev w x),m,h1];grind
      have M:0<ev g x*ev g x:=by
       rcases Rat.le_iff_lt_or_eq.1 (Xo (ev g x))with h|h
       . exact h
       . rcases AN.1 h.symm with h|h<;>exact absurd h l
      have e2:(ev (Jm w g) x*ev (Jm (Jj (Jb w) q) g) x)*(ev (Jm w g) z*ev (Jm (Jj (Jb w) q) g) z)=(ev (Jm w g) x*ev (Jm w g) z)*(ev (Jm (Jj (Jb w) q) g) x*ev (Jm (Jj (Jb w) q) g) z):=DG
      have F:(ev (Jm w g) x*ev (Jm w g) z)*(ev (Jm (Jj (Jb w) q) g) x*ev (Jm (Jj (Jb w) q) g) z)<0:=by
       have:=Rat.mul_pos (show 0 < -(ev (Jm w g) x*ev (Jm w g) z)by grind) ss;grind
      rw[<-e2]at F;generalize ev (Jm w g) x*ev (Jm (Jj (Jb w) q) g) x=P at *;generalize ev (Jm w g) z*ev (Jm (Jj (Jb w) q) g) z=Q at *;generalize Xd (ev (Jm (Jj (Jb w) q) g) z) _=T at *;obtain⟨S,_⟩:=JC sq;rcases JX (ev q x) 0 with h|h
      . have q1:ev q x<0:=by
         rcases Rat.le_iff_lt_or_eq.1 h with h|h
         . exact h
         . exact absurd h S
        have p1:0<P:=XZ M (by rw[L];have:=Rat.mul_pos (show 0 < -(ev w x*ev (Jb w) x)by grind) (show 0 < -(ev q x)by grind);grind);have q2:Q<0:=LM p1 F;refine Or.inr ⟨q1,?_⟩;rw[BG DG,BH q2];omega
      . have q1:0<ev q x:=by
         rcases Rat.le_iff_lt_or_eq.1 h with h|h
         . exact h
         . exact absurd h.symm S
        have p1:P<0:=LM M (by rw[L];have:=Rat.mul_pos (show 0 < -(ev w x*ev (Jb w) x)by grind) q1;grind);have q2:0<Q:=Wy p1 F;refine Or.inl ⟨q1,?_⟩;rw[BH p1,BG DG];omega
def cw(w:List Rat)(x:Rat):Nat:=DL (JD (Jw w) x)
def pG{w:List Rat}(tw:Jc w=w)(w0:w≠[])(hs:Db w):∃k:Rat,k≠0/\w=DM k (DK w):=by
 have a:=Xi tw w0;exact Dv.anti a.tw tw (IC tw w0) (Db.dv a.tw tw w0 hs λc h=>(XO tw w0 c).1 h)
def KD{w:List Rat}(tw:Jc w=w)(w0:w≠[])(hs:Db w){B:Rat}(c:0<=B):Sh B λx z=>cw w x=cw w z+Ye w x z:=by
 obtain⟨k,e,a⟩:=pG tw w0 hs;refine(Y3 tw w0 c).mono λx z _ _ d h=>?_;have f:=Kl tw w0 d;have b:=oZ e (DK w) x z;rw[<-a]at b;unfold cw;omega
def JL{w:List Rat}(tw:Jc w=w)(w0:w≠[]){a b:Rat}(h:a<=b):cw w b<=cw w a:=oL tw w0 h
def GC(a b x:Rat):Rat:=if x<a then a else if b<x then b else x
theorem W4{a b:Rat}(h:a<=b)(x:Rat):a<=GC a b x/\GC a b x<=b:=by
 unfold GC;split
 . exact⟨Rat.le_refl,h⟩
 . split
   . exact⟨h,Rat.le_refl⟩
   . grind
def W7{a b x:Rat}(c:a<=x)(d:x<=b):GC a b x=x:=by
 unfold GC;rw[BG DG,BG DG]
theorem pH{a b:Rat}(h:a<=b){x z:Rat}(c:x<=z):GC a b x<=GC a b z/\GC a b z-GC a b x<=z-x:=by
 unfold GC;split<;>split<;>(try split)<;>(try split)<;>constructor<;>grind
def Mh{F:Rat->Nat}{a b d:Rat}(c:a<=b)(i:0<d)(h:∀x z,a<=x->x<=z->z<=b->z-x<=d->F x=F z):F a=F b:=by
 obtain⟨A,k,hA⟩:=JN a;obtain⟨C,l,hC⟩:=JN b;have:=glue (B:=A+C) (F:=λx=>F (GC a b x)) (G:=λ_=>0) (a:=a) (b:=b) ⟨d,i,λx y _ _ j hs=>by
  obtain⟨f,g⟩:=pH c j;have:=h _ _ (W4 c x).1 f (W4 c y).2 (Rat.le_trans g hs);show F (GC a b x)+0=F (GC a b y)+0;omega⟩ (hA.mono DG) (hC.mono DG) c
 have e:F (GC a b a)+0=F (GC a b b)+0:=this;rw[W7 Rat.le_refl c,W7 c Rat.le_refl]at e;omega
structure Irr(w:List Rat)(a b:Rat):Prop where
 tw:Jc w=w
 w0:w≠[]
 sq:Db w
 ab:a<b
 nz:∀x,a<=x->x<=b->ev w x≠0
 one:cw w a=cw w b+1
def Xj{p:Rat}(h:p≠0):p<0\/0<p:=by
 rcases JX p 0 with r|r
 . rcases Rat.le_iff_lt_or_eq.1 r with r|r
   . exact Or.inl r
   . exact absurd r h
 . rcases Rat.le_iff_lt_or_eq.1 r with r|r
   . exact Or.inr r
   . exact absurd r.symm h
section
variable {w:List Rat} {a b:Rat}
theorem Irr.still(h:Irr w a b){F:Rat->Nat}(hF:∀ {B:Rat},0<=B->Sh B λx z=>Stb w x z->F x=F z){x z:Rat}(p:a<=x)(q:x<=z)(u:z<=b)(e:cw w x=cw w z):F x=F z:=by
 obtain⟨A,v,hA⟩:=JN a;obtain⟨C,D,hC⟩:=JN b;have j:0<=A+C:=DG
 obtain⟨d,d0,m⟩:=(KD h.tw h.w0 h.sq j).and (hF j);have l:∀y,a<=y->y<=b->Wi (A+C) y:=λy c f=>⟨by have:=hA.1;have:=hC.1;grind,by have:=hC.2;grind⟩;refine Mh q d0 λs t hs o k n=>?_;have c:a<=s:=Rat.le_trans p hs;have f:t<=b:=Rat.le_trans k u;have i:=m s t (l s c DG) (l t DG f) o n;have G:=JL h.tw h.w0 hs;have H:=JL h.tw h.w0 k;have g:Ye w s t=0:=by have:=i.1;omega
 refine i.2 ?_;unfold Ye at g;unfold Stb;rcases Xj (Xy (h.nz s c DG) (h.nz t DG f))with r|r
 . rw[BH ⟨h.nz s c DG,DG⟩]at g;cases g
 . exact r
def Km(w:List Rat)(x:Rat):Nat:=if 0<ev w x then 1 else 0
theorem W8{w:List Rat}{x z:Rat}(h:Stb w x z):Km w x=Km w z:=by
 unfold Km;unfold Stb at h;by_cases c:0<ev w x
 . rw[BH c,BH (XZ c h)]
 . obtain⟨d,_⟩:=JC h;have e:ev w x<0:=(Xj d).resolve_right c;have f:ev w z<0:=by have:=XZ (a:=-(ev w x)) (b:=-(ev w z)) DG DG;grind
   rw[BG c,BG DG]
theorem Irr.same(h:Irr w a b){x z:Rat}(d:a<=x)(g:x<=z)(f:z<=b)(e:cw w x=cw w z):Stb w x z:=by
 have c:=h.still (F:=Km w) (λi=>Sh.all λs t _ _ _ hs=>W8 hs) d g f e;unfold Km at c;unfold Stb;rcases Xj (h.nz x d DG)with p|p<;>rcases Xj (h.nz z DG f)with q|q
 . have:=Rat.mul_pos (show 0 < -(ev w x)by grind) (show 0 < -(ev w z)by grind);grind
 . rw[BG DG,BH q]at c;cases c
 . rw[BH p,BG DG]at c;cases c
 . exact Rat.mul_pos p q
theorem Irr.neg(h:Irr w a b){x z:Rat}(c:a<=x)(d:x<=z)(f:z<=b)(e:ev w x*ev w z<0):cw w a=cw w x/\cw w x=cw w z+1/\cw w z=cw w b:=by
 have g:=JL h.tw h.w0 c;have i:=JL h.tw h.w0 d;have j:=JL h.tw h.w0 f;have:=h.one;have n:cw w x≠cw w z:=λq=>by have:=h.same c d f q;unfold Stb at this;grind
 omega
theorem Irr.near(h:Irr w a b){d:Rat}(o:0<d):∃x z,a<=x/\x<z/\z<=b/\z-x<=d/\ev w x*ev w z<0:=by
 refine Classical.byContradiction λhn=>?_;have F:cw w a=cw w b:=by
  obtain⟨A,u,hA⟩:=JN a;obtain⟨C,v,hC⟩:=JN b;have m:0<=A+C:=DG
  obtain⟨e,j,p⟩:=KD h.tw h.w0 h.sq m;obtain⟨f,f0,f1,f2⟩:=IA o j;have i:∀y,a<=y->y<=b->Wi (A+C) y:=λy B D=>⟨by have:=hA.1;have:=hC.1;grind,by have:=hC.2;grind⟩;refine Mh (Rat.le_of_lt h.ab) f0 λs t hs g c G=>?_;have l:=p s t (i s hs DG) (i t DG c) g DG;rw[l];unfold Ye;rw[BG,Cb];intro q;have n:=Xy (h.nz s hs DG) (h.nz t DG c);rcases Xj n with r|r
  . refine hn ⟨s,t,hs,?_,c,DG,r⟩;rcases Rat.le_iff_lt_or_eq.1 g with k|k
    . exact k
    . rw[<-k]at r;have:=Xo (ev w s);grind
  . have:=q.2;grind
 have:=h.one;omega
end
def Dg(w:List Rat)(a b:Rat)(q:List Rat):Int:=(DL (JD (D4 w q) a):Int)-(DL (JD (D4 w q) b):Int)
theorem Irr.sign{w:List Rat}{a b:Rat}(h:Irr w a b)(q:List Rat):∃g,TkG w q g/\∃d,0<d/\∀x z,a<=x->x<=z->z<=b->z-x<=d->ev w x*ev w z<0->
 (Dg w a b q=0/\ev g x*ev g z<0)\/(Dg w a b q=1/\Stb g x z/\0<ev q x/\0<ev q z)\/(Dg w a b q=-1/\Stb g x z/\ev q x<0/\ev q z<0):=by
 obtain⟨g,hg⟩:=Wz (q:=q) h.tw h.w0 h.sq;obtain⟨A,s,hA⟩:=JN a;obtain⟨C,t,hC⟩:=JN b;have e:0<=A+C:=DG
 have n:∀y,a<=y->y<=b->Wi (A+C) y:=λy u v=>⟨by have:=hA.1;have:=hC.1;grind,by have:=hC.2;grind⟩;obtain⟨d,d0,p⟩:=hg.step e;refine⟨g,hg,d,d0,λx z i o j hs hn=>?_⟩;obtain⟨c1,c2,c3⟩:=h.neg i o j hn;have l:=h.still (F:=λy=>DL (JD (D4 w q) y)) (λe=>hg.stay e) Rat.le_refl i DG c1;have m:=h.still (F:=λy=>DL (JD (D4 w q) y)) (λe=>hg.stay e) (show a<=z by grind) j Rat.le_refl c3;have l:DL (JD (D4 w q) a)=DL (JD (D4 w q) x):=l;have m:DL (JD (D4 w q) z)=DL (JD (D4 w q) b):=m;unfold Dg;rcases p x z (n x i DG) (n z DG j) o hs hn with⟨f,k⟩|⟨f,k,c⟩
 . exact Or.inl ⟨O,f⟩
 . rcases c with⟨c,r⟩|⟨c,r⟩
   . exact Or.inr (Or.inl ⟨O,f,c,XZ c k⟩)
   . refine Or.inr (Or.inr ⟨O,f,c,?_⟩);have:=XZ (a:=-(ev q x)) (b:=-(ev q z)) DG (by unfold Stb at k;grind);grind
end
def Nr(w:List Rat)(a b:Rat)(P:Rat->Rat->Prop):Prop:=∃d,0<d/\∀x z,a<=x->x<=z->z<=b->z-x<=d->ev w x*ev w z<0->P x z
section
variable {w q p:List Rat} {a b:Rat} {P Q:Rat->Rat->Prop}
def Nr.and(h:Nr w a b P)(c:Nr w a b Q):Nr w a b λx z=>P x z/\Q x z:=by
 obtain⟨d,d0,h⟩:=h;obtain⟨e,m,c⟩:=c;obtain⟨f,f0,f1,f2⟩:=IA d0 m;exact⟨f,f0,λx z g i j k l=>⟨h x z g i j (Rat.le_trans k f1) l,c x z g i j (Rat.le_trans k f2) l⟩⟩
def Nr.mono(h:Nr w a b P)(hi:∀x z,a<=x->x<=z->z<=b->ev w x*ev w z<0->P x z->Q x z):Nr w a b Q:=by
 obtain⟨d,d0,h⟩:=h;exact⟨d,d0,λx z c e f i g=>hi x z c e f g (h x z c e f i g)⟩
def Irr.some(h:Irr w a b)(c:Nr w a b P):∃x z,a<=x/\x<=z/\z<=b/\ev w x*ev w z<0/\P x z:=by
 obtain⟨d,d0,c⟩:=c;obtain⟨x,z,e,f,g,j,i⟩:=h.near d0;exact⟨x,z,e,Rat.le_of_lt f,g,i,c x z e (Rat.le_of_lt f) g j i⟩
theorem Nr.of_sh(h:∀ {B:Rat},0<=B->Sh B P):Nr w a b P:=by
 obtain⟨A,l,hA⟩:=JN a;obtain⟨C,m,hC⟩:=JN b;have j:0<=A+C:=DG
 obtain⟨d,d0,k⟩:=h j;have g:∀y,a<=y->y<=b->Wi (A+C) y:=λy n o=>⟨by have:=hA.1;have:=hC.1;grind,by have:=hC.2;grind⟩;exact⟨d,d0,λx z e c f i _=>k x z (g x e (Rat.le_trans c f)) (g z (Rat.le_trans e c) f) c i⟩
theorem ON(p:List Rat)(a b:Rat):∃K,0<K/\∀x,a<=x->x<=b->Wi K (ev p x):=by
 obtain⟨A,e,hA⟩:=JN a;obtain⟨C,f,hC⟩:=JN b;obtain⟨K,c,d⟩:=XM p (show 0<=A+C by grind);exact⟨K,c,λx g i=>d x ⟨by have:=hA.1;have:=hC.1;grind,by have:=hC.2;grind⟩⟩
def Eh(w:List Rat)(a b:Rat)(q:List Rat):Prop:=∀e,0<e->Nr w a b λx z=>Wi e (ev q x)/\Wi e (ev q z)
def FR(w:List Rat)(a b:Rat)(q:List Rat):Prop:=∃c,0<c/\Nr w a b λx z=>c<=ev q x/\c<=ev q z
def Eh.mul(h:Eh w a b q)(p:List Rat):Eh w a b (Jj q p):=λe l=>by
 obtain⟨K,k,j⟩:=ON p a b;refine(h (e/K) (Yf l k)).mono λx z c f g _ i=>?_;have d:e/K*K=e:=Aj DG;rw[Je,Je];exact⟨((i.1.mul (j x c (Rat.le_trans f g))).mono (by rw[d];exact Rat.le_refl)),((i.2.mul (j z (Rat.le_trans c f) g)).mono (by rw[d];exact Rat.le_refl))⟩
def Eh.ext(h:Eh w a b q)(e:∀x,ev p x=ev q x):Eh w a b p:=λk hk=>(h k hk).mono λx z _ _ _ _ c=>by rw[e,e];exact c
def FR.ext(h:FR w a b q)(e:∀x,ev p x=ev q x):FR w a b p:=by
 obtain⟨c,c0,h⟩:=h;exact⟨c,c0,h.mono λx z _ _ _ _ d=>by rw[e,e];exact d⟩
theorem FR.mul(h:FR w a b q)(d:FR w a b p):FR w a b (Jj q p):=by
 obtain⟨c,c0,h⟩:=h;obtain⟨k,f,d⟩:=d;refine⟨c*k,Rat.mul_pos c0 f,(h.and d).mono λx z _ _ _ _ e=>?_⟩;rw[Je,Je];have m:∀ {s t:Rat},c<=s->k<=t->c*k<=s*t:=fun {s t} i j=>by
  have g:=Rat.mul_nonneg (a:=s-c) (b:=t) DG DG;have d:=Rat.mul_nonneg (a:=c) (b:=t-k) DG DG;grind
 exact⟨m e.1.1 e.2.1,m e.1.2 e.2.2⟩
theorem Eh.not_abv(h:Irr w a b)(hs:Eh w a b q):¬FR w a b q:=λ⟨c,c0,f⟩=>by
 obtain⟨x,z,_,_,_,_,d,e⟩:=h.some ((hs (c/2) DG).and f);have:=d.1.2;have:=e.1;grind
theorem FR.not_neg(h:Irr w a b)(hs:FR w a b q)(d:FR w a b (DM (-1) q)):False:=by
 obtain⟨c,c0,e⟩:=hs;obtain⟨k,i,f⟩:=d;obtain⟨x,z,_,_,_,_,g,d⟩:=h.some (e.and f);have j:=d.1;rw[Jp]at j;grind
theorem Irr.val(h:Irr w a b)(q:List Rat):(Dg w a b q=0/\Eh w a b q)\/(Dg w a b q=1/\FR w a b q)\/(Dg w a b q=-1/\FR w a b (DM (-1) q)):=by
 obtain⟨g,hg,o⟩:=h.sign q;have o:Nr w a b _:=o;obtain⟨_,_,_,_,_,_,s⟩:=h.some o;rcases s with⟨I,_⟩|s
 . refine Or.inl ⟨I,?_⟩;obtain⟨k,hk⟩:=hg.dq;have hs:Eh w a b g:=λe M=>(o.and (Nr.of_sh λr=>Xc g r M)).mono λx z _ _ _ _ c=>by
    refine c.2 λt=>?_;rcases c.1 with d|d|d
    . unfold Stb at t;grind
    . omega
    . omega
   exact(hs.mul k).ext λx=>by rw[Je];exact hk x
 . refine Or.inr ?_;obtain⟨u,v,P⟩:=hg.cop;obtain⟨U,Q,K⟩:=ON u a b;obtain⟨V,T,L⟩:=ON v a b;have D:=(JH hg.tg hg.g0 hg.dw).2;have H:U*(1/4/U)=1/4:=by rw[AU,Aj DG]
   have p:∀x,a<=x->x<=b->Wi (1/4/U) (ev (Jm w g) x)->1/(2*V)<=ev q x\/ev q x<=-(1/(2*V)):=λx l F N=>by
    have m:=KM (P x) (K x l F) N (by rw[H];exact Rat.le_refl);have j:=L x l F;have R:1/(2*V)*(2*V)=1:=Aj DG;generalize 1/(2*V)=k at *;have y:0<k:=XZ (a:=2*V) DG DG;refine Classical.byContradiction λhn=>?_;have n:=(j.mul (show Wi k (ev q x)from⟨DG,DG⟩)).2;grind
   have G:Nr w a b λx z=>Stb g x z->Wi (1/4/U) (ev (Jm w g) x)/\Wi (1/4/U) (ev (Jm w g) z):=(Nr.of_sh λr=>Xc (Jm w g) r (Yf G8 Q)).mono λx z _ _ _ S c t=>by
    refine c λhs=>?_;have e:ev w x*ev w z=(ev g x*ev g z)*(ev (Jm w g) x*ev (Jm w g) z):=by rw[D x,D z];grind
    have:=Rat.mul_pos t hs;grind
   have y:0<1/(2*V):=Yf DJ DG;have all:=(o.and G);rcases s with⟨l,_⟩|⟨l,_⟩
   . refine Or.inl ⟨l,1/(2*V),y,all.mono λx z m j n _ c=>?_⟩;rcases c.1 with d|d|d
     . omega
     . obtain⟨A,B⟩:=c.2 d.2.1;have f:=p x m (Rat.le_trans j n) A;have i:=p z (Rat.le_trans m j) n B;generalize 1/(2*V)=k at *;constructor
       . rcases f with f|f
         . exact f
         . grind
       . rcases i with i|i
         . exact i
         . grind
     . omega
   . refine Or.inr ⟨l,1/(2*V),y,all.mono λx z m j n _ c=>?_⟩;rcases c.1 with d|d|d
     . omega
     . omega
     . obtain⟨A,B⟩:=c.2 d.2.1;have f:=p x m (Rat.le_trans j n) A;have i:=p z (Rat.le_trans m j) n B;rw[Jp,Jp];generalize 1/(2*V)=k at *;constructor
       . rcases f with f|f<;>grind
       . rcases i with i|i<;>grind
theorem Irr.zero(h:Irr w a b):Dg w a b q=0↔Eh w a b q:=by
 rcases h.val q with⟨d,c⟩|⟨d,c⟩|⟨d,c⟩
 . exact⟨λ_=>c,λ_=>d⟩
 . exact⟨λe=>by omega,λe=>absurd c (Eh.not_abv h e)⟩
 . refine⟨λe=>by omega,λe=>absurd c (Eh.not_abv h ((e.mul [-1]).ext λx=>?_))⟩;rw[Jp,Je,Jn]
def Irr.pos(h:Irr w a b):Dg w a b q=1↔FR w a b q:=by
 rcases h.val q with⟨d,c⟩|⟨d,c⟩|⟨d,c⟩
 . exact⟨λe=>by omega,λe=>absurd e (Eh.not_abv h c)⟩
 . exact⟨λ_=>c,λ_=>d⟩
 . exact⟨λe=>by omega,λe=>absurd c λk=>FR.not_neg h e k⟩
def Irr.minus(h:Irr w a b):Dg w a b q=-1↔FR w a b (DM (-1) q):=by
 rcases h.val q with⟨d,c⟩|⟨d,c⟩|⟨d,c⟩
 . refine⟨λe=>by omega,λe=>absurd e (Eh.not_abv h ((c.mul [-1]).ext λx=>?_))⟩;rw[Jp,Je,Jn]
 . exact⟨λe=>by omega,λe=>absurd e λk=>FR.not_neg h c k⟩
 . exact⟨λ_=>c,λ_=>d⟩
theorem Irr.mul(h:Irr w a b)(q p:List Rat):Dg w a b (Jj q p)=Dg w a b q*Dg w a b p:=by
 rcases h.val q with⟨e,f⟩|⟨e,f⟩|⟨e,f⟩
 . rw[e,Int.zero_mul];exact h.zero.2 (f.mul p)
 . rcases h.val p with⟨c,d⟩|⟨c,d⟩|⟨c,d⟩
   . rw[c,FQ];exact h.zero.2 ((d.mul q).ext λx=>by rw[Je,Je,AU])
   . rw[e,c];exact h.pos.2 (f.mul d)
   . rw[e,c];exact h.minus.2 ((f.mul d).ext λx=>by rw[Jp,Je,Je,Jp];grind)
 . rcases h.val p with⟨c,d⟩|⟨c,d⟩|⟨c,d⟩
   . rw[c,FQ];exact h.zero.2 ((d.mul q).ext λx=>by rw[Je,Je,AU])
   . rw[e,c];exact h.minus.2 ((f.mul d).ext λx=>by rw[Jp,Je,Je,Jp];grind)
   . rw[e,c];exact h.pos.2 ((f.mul d).ext λx=>by rw[Je,Je,Jp,Jp];grind)
def Irr.ext(h:Irr w a b)(e:∀x,ev p x=ev q x):Dg w a b p=Dg w a b q:=by
 rcases h.val q with⟨c,d⟩|⟨c,d⟩|⟨c,d⟩
 . rw[c];exact h.zero.2 (d.ext e)
 . rw[c];exact h.pos.2 (d.ext e)
 . rw[c];exact h.minus.2 (d.ext λx=>by rw[Jp,Jp,e])
theorem pI:Eh w a b w:=λe f=>(Nr.of_sh λd=>Xc w d f).mono λx z _ _ _ i c=>c λg=>by unfold Stb at g;grind
theorem Irr.cop(h:Irr w a b)(i:DR w p):Dg w a b p≠0:=λe=>by
 obtain⟨u,v,j⟩:=i;have c:=((pI (w:=w) (a:=a) (b:=b)).mul u).ext (p:=Jj u w) λx=>by rw[Je,Je,AU]
 have d:=((h.zero.1 e).mul v).ext (p:=Jj v p) λx=>by rw[Je,Je,AU]
 obtain⟨x,z,_,_,_,_,f,g⟩:=h.some ((c (1/4) G8).and (d (1/4) G8));have k:=f.1.2;have l:=g.1.2;rw[Je]at k l;have:=j x;grind
theorem Irr.const(h:Irr w a b)(c:Rat):(0<c->Dg w a b [c]=1)/\(c<0->Dg w a b [c]=-1):=by
 refine⟨λd=>h.pos.2 ⟨c,d,1,DJ,λx z _ _ _ _ _=>?_⟩,λd=>h.minus.2 ⟨-c,DG,1,DJ,λx z _ _ _ _ _=>?_⟩⟩
 . show c<=ev [c] x/\c<=ev [c] z;rw[Jn,Jn];exact⟨Rat.le_refl,Rat.le_refl⟩
 . show -c<=ev (DM (-1) [c]) x∧-c<=ev (DM (-1) [c]) z;rw[Jp,Jp,Jn,Jn];constructor<;>grind
end
section
def Wh(K:Nat)(p:List Rat):Prop:=∀i,∃z:Int,Sm K z/\cf p i=(z:Rat)
variable{K:Nat}
theorem Wh.one{p:List Rat}(h:Wh K p):∀i,∃z:Int,Sm K z/\cf p i*1=(z:Rat):=λi=>by
 obtain⟨z,a,b⟩:=h i;exact⟨z,a,by rw[Rat.mul_one];exact b⟩
theorem pJ{p q:List Rat}(hp:Jc p=p)(hq:Jc q=q)(o:Wh K p)(r:Wh K q)(hl:p.length+q.length<=1000000000)(hle:q.length<=p.length)(a:2<=q.length)(s:DR p q):
 ∃(u v:List Rat) (c:Int),Wh ((K+1)*(p.length+q.length)) u/\Wh ((K+1)*(p.length+q.length)) v/\c≠0/\u.length<=q.length/\v.length<=p.length/\∀x,ev u x*ev p x+ev v x*ev q x=(c:Rat):=by
 obtain⟨u,v,B,D,G,H,y,b,hT,A,hv⟩:=Vk hp hq (cp:=1) (cq:=1) DJ DJ o.one r.one hl hle (m:=2) O a;have p0:p≠[]:=λe=>by rw[e]at hle;simp at hle;rw[hle]at a;simp at a
 obtain⟨c,_,t⟩:=hT 0;have g:∀x,ev u x*ev p x+ev v x*ev q x=(c:Rat):=λx=>by
  rw[<-Je,<-Je,<-YQ,<-t];match F:X2 (Jj u p) (Jj v q),b with
  |[],_=>rfl
  |[k],_=>rw[Jn];rfl
  |_::_::_,b=>exact absurd b DH
 refine⟨u,v,c,λi=>?_,λi=>?_,λe=>?_,O,O,g⟩
 . obtain⟨z,d,f⟩:=A i;exact⟨z,d,by rw[f,Rat.mul_one]⟩
 . obtain⟨z,d,f⟩:=hv i;exact⟨z,d,by rw[f,Rat.mul_one]⟩
 . have j:∀x,ev u x*ev p x+ev v x*ev q x=0:=λx=>by rw[g,e];rfl
   have w:Dv p v:=s.dv (c:=v) ⟨DM (-1) u,λx=>by rw[Je,Jp];have:=j x;grind⟩;have l:v=[]:=Classical.byContradiction λn=>by
    have:=(w.len hp D n).1;omega
   have u0:u=[]:=Classical.byContradiction λn=>by
    refine Xn B hp n p0 (Xb (JA _ _) rfl λx=>?_);have:=j x;rw[l]at this;rw[Je];simp[ev]at this ⊢;grind
   rcases y with h|h
   . exact h u0
   . exact h l
theorem RO(c:Rat):Wi (Yg c) c/\0<=Yg c:=by
 unfold Yg;unfold Wi;split<;>grind
def GT(H:Rat):List Rat->Rat
 |[]=>0
 |c::p=>Yg c+H*GT H p
def Ei(H:Rat):List Rat->Rat
 |[]=>0
 |_::p=>GT H p+H*Ei H p
section
variable {H:Rat}
theorem Mi(a:0<=H)(p:List Rat):0<=GT H p:=by
 induction p with
 |nil=>exact Rat.le_refl
 |cons c p b=>rw[GT];have:=(RO c).2;have:=Rat.mul_nonneg a b;grind
theorem Mj(a:0<=H)(p:List Rat):0<=Ei H p:=by
 induction p with
 |nil=>exact Rat.le_refl
 |cons c p b=>rw[Ei];have:=Mi a p;have:=Rat.mul_nonneg a b;grind
def RP(p:List Rat){x:Rat}(a:Wi H x):Wi (GT H p) (ev p x):=by
 induction p with
 |nil=>exact⟨by simp[GT,ev],by simp[GT,ev]⟩
 |cons c p b=>rw[GT,Hq];exact(RO c).1.add (a.mul b)
theorem RQ(p:List Rat){x y:Rat}(d:Wi H x)(f:Wi H y)(h:x<=y):Wi (Ei H p*(y-x)) (ev p x-ev p y):=by
 induction p with
 |nil=>exact⟨by simp[Ei,ev];grind,by simp[Ei,ev];grind⟩
 |cons c p g=>
  rw[Ei,Hq,Hq];have a:=(show Wi (y-x) (x-y)from⟨DG,DG⟩).mul (RP p d);have b:=f.mul g;have e:c+x*ev p x-(c+y*ev p y)=(x-y)*ev p x+y*(ev p x-ev p y):=DG
  rw[e];exact(a.add b).mono DG
end
variable{f:List Rat}
def pK(tf:Jc f=f)(f0:f≠[]){B:Rat}(a:0<=B):Sh B λx z=>cw f x=cw f z+Ye (DK f) x z:=by
 refine(Y3 tf f0 a).mono λx z _ _ b h=>?_;have c:=Kl tf f0 b;unfold cw;omega
theorem pL(tf:Jc f=f)(f0:f≠[]){a b:Rat}(n:a<=b)(hl:cw f b<cw f a){e:Rat}(r:0<e):∃x,a<=x/\x<=b/\Wi e (ev f x):=by
 refine Classical.byContradiction λhn=>?_;obtain⟨A,w,hA⟩:=JN a;obtain⟨C,z,hC⟩:=JN b;have g:0<=A+C:=DG
 obtain⟨k,hk⟩:=IC tf f0;obtain⟨K,j,m⟩:=ON k a b;obtain⟨d,d0,o⟩:=(pK tf f0 g).and (Xc (DK f) g (Yf r j));have i:∀y,a<=y->y<=b->Wi (A+C) y:=λy B D=>⟨by have:=hA.1;have:=hC.1;grind,by have:=hC.2;grind⟩;have:=Mh (F:=cw f) n d0 λs t hs u v p=>by
  have c:=o s t (i s hs DG) (i t DG v) u p;rw[c.1];unfold Ye;rw[BG,Cb];intro q;refine hn ⟨s,hs,DG,?_⟩;have l:=(c.2 λh=>by unfold Stb at h;have:=q.2;grind).1;rw[hk];exact(l.mul (m s hs DG)).mono (by rw[Aj DG];exact Rat.le_refl)
 omega
theorem X0(tf:Jc f=f)(f0:f≠[]){H a b:Rat}(k:0<=H)(d:Wi H a)(m:Wi H b)(l:a<=b)(hl:cw f b<cw f a):Wi (Ei H f*(b-a)) (ev f a):=by
 have g:∀e,0<e->Wi (Ei H f*(b-a)+e) (ev f a):=λe n=>by
  obtain⟨x,i,p,j⟩:=pL tf f0 l hl n;have o:Wi H x:=⟨by have:=d.1;grind,by have:=m.2;grind⟩;have c:=(RQ f d o i).add j;have q:=Rat.mul_nonneg (Mj k f) (show 0<=b-x by grind);rw[show ev f a-ev f x+ev f x=ev f a by grind]at c;exact c.mono DG
 constructor
 . refine Rat.not_lt.1 λh=>?_;have:=(g ((-(Ei H f*(b-a))-ev f a)/2) DG).1;grind
 . refine Rat.not_lt.1 λh=>?_;have:=(g ((ev f a-Ei H f*(b-a))/2) DG).2;grind
theorem pM{w u v:List Rat}{c:Int}(tw:Jc w=w)(hl:1<w.length)(m:c≠0)(n:∀x,ev u x*ev w x+ev v x*ev (Jb w) x=(c:Rat)){H a b:Rat}(i:0<=H)(d:Wi H a)(l:Wi H b)(g:a<=b)(t:cw w b+2<=cw w a):
 1<=(GT H u*Ei H w+GT H v*Ei H (Jb w))*(b-a):=by
 have w0:w≠[]:=λe=>by rw[e]at hl;simp at hl
 have s:Jb w≠[]:=λe=>by have:=MR tw e;omega
 have y:=oo tw hl g;have o:=X0 tw w0 i d l g O;have p:=X0 (Jr w) s i d l g (by unfold cw at *;omega);have q:=(RP u d).mul o;have r:=(RP v d).mul p;have j:=q.add r;rw[n]at j;have k:(1:Rat)<=(c:Rat)\/(c:Rat)<=-1:=by
  rcases Int.lt_or_gt_of_ne m with h|h
  . have f:(c:Rat)<=((-1:Int):Rat):=Rat.intCast_le_intCast.2 O;exact Or.inr f
  . have f:((1:Int):Rat)<=(c:Rat):=Rat.intCast_le_intCast.2 O;exact Or.inl f
 have:=j.1;have:=j.2;rcases k with k|k<;>grind
end
theorem Y0{A X B S T:Rat}(c:0<A*X)(d:0<X*B)(e:0<A*S)(f:0<T*B)(g:S*T<0):False:=by
 have a:=Rat.mul_pos (Rat.mul_pos c d) (Rat.mul_pos e f);have b:(A*X)*(X*B)*((A*S)*(T*B))=((A*X*B)*(A*X*B))*(S*T):=DG
 rw[b]at a;have:=Xu a;grind
section
variable {w v q:List Rat} {a b c d x y:Rat}
theorem Irr.nn(h:Irr w a b)(hq:Nr w a b λx z=>0<=ev q x\/0<=ev q z):Dg w a b q≠-1:=λe=>by
 obtain⟨k,f,hk⟩:=h.minus.1 e;obtain⟨x,z,_,_,_,_,c,d⟩:=h.some (hq.and hk);rw[Jp,Jp]at d;have:=d.1;have:=d.2;rcases c with c|c<;>grind
theorem Irr.np(h:Irr w a b)(hq:Nr w a b λx z=>ev q x<=0\/ev q z<=0):Dg w a b q≠1:=λe=>by
 obtain⟨k,f,hk⟩:=h.pos.1 e;obtain⟨x,z,_,_,_,_,c,d⟩:=h.some (hq.and hk);have:=d.1;have:=d.2;rcases c with c|c<;>grind
theorem Y6(y x:Rat):ev [-y,1] x=x-y:=by simp only[ev];grind
def Di(w:List Rat)(a b x:Rat):Int:=Dg w a b [-x,1]
def Irr.sg3(h:Irr w a b)(q:List Rat):Dg w a b q=0\/Dg w a b q=1\/Dg w a b q=-1:=by
 rcases h.val q with⟨c,_⟩|⟨c,_⟩|⟨c,_⟩
 . exact Or.inl c
 . exact Or.inr (Or.inl c)
 . exact Or.inr (Or.inr c)
theorem RR(a:ev w x≠0):DR w [-x,1]:=by
 obtain⟨s,hs⟩:∃s:List Rat,∀y,ev w y=ev w x+(y-x)*ev s y:=⟨IF w x,λy=>Oq w x y⟩;refine⟨[1/ev w x],DM (-(1/ev w x)) s,λy=>?_⟩;rw[Jn,Jp,Y6,hs y]
 have:1/ev w x*ev w x=1:=Aj a
 grind
theorem Irr.low(h:Irr w a b)(c:x<=a):Di w a b x=1:=by
 have n:Di w a b x≠-1:=h.nn ⟨1,DJ,λs t d _ _ _ _=>Or.inl (by show 0<=ev [-x,1] s;rw[Y6];grind)⟩;rcases h.sg3 [-x,1]with e|e|e
 . exfalso
   rcases Rat.le_iff_lt_or_eq.1 c with c|c
   . refine Eh.not_abv h (h.zero.1 e) ⟨a-x,DG,1,DJ,λs t d f _ _ _=>?_⟩;show a-x<=ev [-x,1] s/\a-x<=ev [-x,1] t;rw[Y6,Y6];constructor<;>grind
   . exact h.cop (RR (h.nz x DG (by have:=h.ab;grind))) e
 . exact e
 . exact absurd e n
theorem Irr.high(h:Irr w a b)(c:b<=x):Di w a b x=-1:=by
 have n:Di w a b x≠1:=h.np ⟨1,DJ,λs t _ _ d _ _=>Or.inr (by show ev [-x,1] t<=0;rw[Y6];grind)⟩;rcases h.sg3 [-x,1]with e|e|e
 . exfalso
   rcases Rat.le_iff_lt_or_eq.1 c with c|c
   . refine Eh.not_abv h (((h.zero.1 e).mul [-1]).ext (p:=DM (-1) [-x,1]) λy=>by rw[Jp,Je,Jn]) ⟨x-b,DG,1,DJ,λs t _ f g _ _=>?_⟩;show x-b<=ev (DM (-1) [-x,1]) s/\x-b<=ev (DM (-1) [-x,1]) t;rw[Jp,Jp,Y6,Y6];constructor<;>grind
   . exact h.cop (RR (h.nz x (by have:=h.ab;grind) DG)) e
 . exact absurd e n
 . exact e
theorem Irr.cside(h:Irr w a b)(i:a<=x)(j:x<=b):(cw w x=cw w b+1->Di w a b x=1)/\(cw w x=cw w b->Di w a b x=-1):=by
 have nz:Di w a b x≠0:=h.cop (RR (h.nz x i j));constructor
 . intro c1;have n:Di w a b x≠-1:=h.nn ⟨1,DJ,λs t c d f _ g=>Or.inr (by
    show 0<=ev [-x,1] t;rw[Y6];obtain⟨k,l,m⟩:=h.neg c d f g;rcases JX x t with r|r
    . grind
    . have:=JL h.tw h.w0 r;omega)⟩
   rcases h.sg3 [-x,1]with e|e|e
   . exact absurd e nz
   . exact e
   . exact absurd e n
 . intro o;have n:Di w a b x≠1:=h.np ⟨1,DJ,λs t c d f _ g=>Or.inl (by
    show ev [-x,1] s<=0;rw[Y6];obtain⟨k,l,m⟩:=h.neg c d f g;rcases JX s x with r|r
    . grind
    . have:=JL h.tw h.w0 r;omega)⟩
   rcases h.sg3 [-x,1]with e|e|e
   . exact absurd e nz
   . exact absurd e n
   . exact e
theorem Irr.ends(h:Irr w a b):ev w a*ev w b<0:=by
 obtain⟨s,t,c,i,e,_,f⟩:=h.near (d:=1) DJ;obtain⟨j,m,l⟩:=h.neg c (Rat.le_of_lt i) e f;have p1:=h.same Rat.le_refl c DG j;have g:=h.same (show a<=t by grind) e Rat.le_refl l;rcases Xj (Xy (h.nz a Rat.le_refl (Rat.le_of_lt h.ab)) (h.nz b (Rat.le_of_lt h.ab) Rat.le_refl))with r|r
 . exact r
 . exfalso
   unfold Stb at p1 g;have q1:0<ev w b*ev w b:=by
    obtain⟨_,n⟩:=JC r;rcases Xj (Xy n n)with k|k
    . have:=Xo (ev w b);grind
    . exact k
   exact Y0 r q1 p1 g f
theorem Irr.mid(h:Irr w a b)(c:a<=x)(d:x<=b):(ev w x*ev w b<0->Di w a b x=1)/\(0<ev w x*ev w b->Di w a b x=-1):=by
 refine⟨λe=>?_,λe=>?_⟩
 . obtain⟨c1,c2,c3⟩:=h.neg c d Rat.le_refl e;exact(h.cside c d).1 c2
 . refine(h.cside c d).2 ?_;have k:=JL h.tw h.w0 c;have l:=JL h.tw h.w0 d;have:=h.one;by_cases i:cw w x=cw w b
   . exact i
   . exfalso
     have hs:=h.same Rat.le_refl c d O;have j:=h.ends;unfold Stb at hs;have f:=Rat.mul_pos hs e;have g:ev w a*ev w x*(ev w x*ev w b)=(ev w x*ev w x)*(ev w a*ev w b):=DG
     rw[g]at f;have:=Xu f;grind
def Irr.sid_ne(h:Irr w a b)(x:Rat):Di w a b x=1\/Di w a b x=-1:=by
 rcases JX x a with r|r
 . exact Or.inl (h.low r)
 . rcases JX b x with k|k
   . exact Or.inr (h.high k)
   . rcases Xj (Xy (h.nz x r k) (h.nz b (Rat.le_of_lt h.ab) Rat.le_refl))with e|e
     . exact Or.inl ((h.mid r k).1 e)
     . exact Or.inr ((h.mid r k).2 e)
theorem Irr.sid_mono(h:Irr w a b)(g:x<=y):(Di w a b y=1->Di w a b x=1)/\(Di w a b x=-1->Di w a b y=-1):=by
 have d:Di w a b y=1->Di w a b x=1:=λe=>by
  obtain⟨c,c0,f⟩:=h.pos.1 e;refine h.pos.2 ⟨c,c0,f.mono λs t _ _ _ _ k=>?_⟩;rw[Y6,Y6]at k ⊢;constructor<;>grind
 refine⟨d,λe=>?_⟩;rcases h.sid_ne y with k|k
 . have:=d k;omega
 . exact k
theorem Irr.sub(h:Irr w a b)(m:a<=c)(n:c<d)(o:d<=b)(e:ev w c*ev w d<0):Irr w c d/\∀q,Dg w c d q=Dg w a b q:=by
 obtain⟨p,r,s⟩:=h.neg m (Rat.le_of_lt n) o e;refine⟨⟨h.tw,h.w0,h.sq,n,λx i j=>h.nz x DG DG,r⟩,λq=>?_⟩;obtain⟨g,hg⟩:=Wz (q:=q) h.tw h.w0 h.sq;have k:=h.still (F:=λy=>DL (JD (D4 w q) y)) (λf=>hg.stay f) Rat.le_refl m DG p;have l:=h.still (F:=λy=>DL (JD (D4 w q) y)) (λf=>hg.stay f) (show a<=d by grind) o Rat.le_refl s;have k:DL (JD (D4 w q) a)=DL (JD (D4 w q) c):=k;have l:DL (JD (D4 w q) d)=DL (JD (D4 w q) b):=l;unfold Dg;omega
def Lt(w:List Rat)(a b:Rat)(v:List Rat)(c d:Rat):Prop:=∃x,Di w a b x=-1/\Di v c d x=1
theorem Irr.within(h:Irr w a b)(e:Di w a b c=1)(f:Di w a b d=-1):Nr w a b λx z=>c<=x/\z<=d:=by
 obtain⟨k,m,hk⟩:=h.pos.1 e;obtain⟨l,n,hl⟩:=h.minus.1 f;refine(hk.and hl).mono λx z _ _ _ _ i=>?_;have g:=i.1.1;have j:=i.2.2;rw[Y6]at g;rw[Jp,Y6]at j;constructor<;>grind
def Irr.near_sid(h:Irr w a b){z:Rat}(c:a<=x)(d:x<=z)(f:z<=b)(e:ev w x*ev w z<0):Di w a b x=1/\Di w a b z=-1:=by
 obtain⟨i,j,g⟩:=h.neg c d f e;exact⟨(h.cside c (Rat.le_trans d f)).1 O,(h.cside (Rat.le_trans c d) f).2 g⟩
theorem ord_lt(h:Irr w a b)(k:Irr v c d)(u:Di w a b c=1)(y:Di w a b d=-1):(Dg w a b v=1->0<ev v d->Lt v c d w a b)/\(Dg w a b v=1->ev v d<0->Lt w a b v c d)/\(Dg w a b v=-1->ev v d<0->Lt v c d w a b)/\(Dg w a b v=-1->0<ev v d->Lt w a b v c d):=by
 have s:=h.within u y;refine⟨λe n=>?_,λe n=>?_,λe n=>?_,λe n=>?_⟩
 . obtain⟨m,t,f⟩:=h.pos.1 e;obtain⟨x,z,g,i,j,l,⟨o,p⟩,q,r⟩:=h.some (s.and f);exact⟨x,(k.mid o DG).2 (Rat.mul_pos DG n),(h.near_sid g i j l).1⟩
 . obtain⟨m,t,f⟩:=h.pos.1 e;obtain⟨x,z,g,i,j,l,⟨o,p⟩,q,r⟩:=h.some (s.and f);exact⟨z,(h.near_sid g i j l).2,(k.mid DG p).1 (by have:=Rat.mul_pos (show 0<ev v z by grind) (show 0 < -(ev v d)by grind);grind)⟩
 . obtain⟨m,t,f⟩:=h.minus.1 e;obtain⟨x,z,g,i,j,l,⟨o,p⟩,q,r⟩:=h.some (s.and f);rw[Jp]at q r;exact⟨x,(k.mid o DG).2 (by have:=Rat.mul_pos (show 0 < -(ev v x)by grind) (show 0 < -(ev v d)by grind);grind),(h.near_sid g i j l).1⟩
 . obtain⟨m,t,f⟩:=h.minus.1 e;obtain⟨x,z,g,i,j,l,⟨o,p⟩,q,r⟩:=h.some (s.and f);rw[Jp]at q r;exact⟨z,(h.near_sid g i j l).2,(k.mid DG p).1 (by have:=Rat.mul_pos (show 0 < -(ev v z)by grind) n;grind)⟩
theorem Y2(h:Irr w a b)(m:Db v)(n:Jc v=v)(e:Dg w a b v=0):Nr w a b λx z=>ev v x*ev v z<0:=by
 obtain⟨g,hg,d⟩:=h.sign v;have d:Nr w a b _:=d;have c:=(JH hg.tg hg.g0 hg.dq).2;have f:v=Jj g (Jm v g):=Xb n (JA _ _) λx=>by rw[Je];exact c x
 have k:DR g (Jm v g):=Db.parts (by rw[<-f];exact m);refine(d.and (Nr.of_sh λl=>Mf k l)).mono λx z _ _ _ _ i=>?_;rcases i.1 with j|j|j
 . have st:=i.2.resolve_left λs=>by unfold Stb at s;have:=j.2;grind
   unfold Stb at st;have:=Rat.mul_pos (show 0 < -(ev g x*ev g z)by have:=j.2;grind) st;rw[c x,c z];grind
 . omega
 . omega
theorem pN(h:Irr w a b)(k:Irr v c d)(q:Di w a b c=1)(r:Di w a b d=-1)(e:Dg w a b v=0):∀x,Di w a b x=Di v c d x:=by
 have n:=(Y2 h k.sq k.tw e).and (h.within q r);intro y;rcases h.sid_ne y with s|s
 . obtain⟨m,B,f⟩:=h.pos.1 s;obtain⟨x,z,t,g,u,A,⟨i,j,l⟩,o,p⟩:=h.some (n.and f);rw[Y6]at o;rw[s];exact((k.sid_mono DG).1 (k.near_sid j g l i).1).symm
 . obtain⟨m,B,f⟩:=h.minus.1 s;obtain⟨x,z,t,g,u,A,⟨i,j,l⟩,o,p⟩:=h.some (n.and f);rw[Jp,Y6]at p;rw[s];exact((k.sid_mono DG).2 (k.near_sid j g l i).2).symm
end
section
variable {w:List Rat} {a b x z s t m:Rat}
theorem KE(tw:Jc w=w)(w0:w≠[])(sw:Db w)(e:cw w x=cw w z)(i:x<t)(b:t<=z):ev w t≠0:=λa=>by
 obtain⟨A,p,hA⟩:=JN x;obtain⟨C,q,hC⟩:=JN z;have f:0<=A+C:=DG
 obtain⟨d,d0,m⟩:=(KD tw w0 sw f).and (Ww sw f);have g:∀y,x<=y->y<=z->Wi (A+C) y:=λy i b=>⟨by have:=hA.1;have:=hC.1;grind,by have:=hC.2;grind⟩;obtain⟨k,r,s,u⟩:=IA d0 (show 0<t-x by grind);have c:=m (t-k) t (g _ DG DG) (g t DG b) DG DG;have n:¬Stb w (t-k) t:=λh=>by unfold Stb at h;rw[a]at h;grind
 have l:=c.2 n DG;have o:ev w (t-k)≠0:=λe=>by rw[a,e]at l;grind
 have j:Ye w (t-k) t=1:=by
  unfold Ye;rw[BH ⟨o,by rw[a];grind⟩]
 have v:=JL tw w0 (show x<=t-k by grind);have B:=JL tw w0 b;have:=c.1;omega
theorem LN(tw:Jc w=w)(w0:w≠[])(sw:Db w)(e:cw w x=cw w z)(f:x<=s)(hs:ev w s≠0)(a:s<=t)(v:t<=z):Stb w s t:=by
 obtain⟨A,r,hA⟩:=JN s;obtain⟨C,u,hC⟩:=JN t;have g:0<=A+C:=DG
 obtain⟨d,d0,k⟩:=KD tw w0 sw g;have b:∀y,s<=y->y<=t->Wi (A+C) y:=λy f a=>⟨by have:=hA.1;have:=hC.1;grind,by have:=hC.2;grind⟩;have nz:∀y,s<=y->y<=t->ev w y≠0:=λy i j=>by
  grind[KE]
 have o:=Mh (F:=Km w) a d0 λp q l c m n=>by
  have B:=k p q (b p l DG) (b q DG m) c n;have D:=JL tw w0 (show x<=p by grind);have G:=JL tw w0 c;have H:=JL tw w0 (show q<=z by grind);grind[Ye,W8,Stb]
 unfold Km at o;unfold Stb;rcases Xj (nz s Rat.le_refl a)with p|p<;>rcases Xj (nz t a Rat.le_refl)with q|q
 . have:=Rat.mul_pos (show 0 < -(ev w s)by grind) (show 0 < -(ev w t)by grind);grind
 . grind
 . grind
 . exact Rat.mul_pos p q
structure Spn(w:List Rat)(a b:Rat):Prop where
 tw:Jc w=w
 w0:w≠[]
 sq:Db w
 ab:a<b
 one:cw w a=cw w b+1
theorem Spn.neg(h:Spn w a b)(l:ev w a≠0)(g:ev w b≠0):ev w a*ev w b<0:=by
 obtain⟨A,H,hA⟩:=JN a;obtain⟨C,I,hC⟩:=JN b;have x:0<=A+C:=DG
 obtain⟨d,d0,z⟩:=KD h.tw h.w0 h.sq x;have n:∀y,a<=y->y<=b->Wi (A+C) y:=λy v L=>⟨by have:=hA.1;have:=hC.1;grind,by have:=hC.2;grind⟩;refine Classical.byContradiction λhn=>?_;have hp:0<ev w a*ev w b:=(Xj (Xy l g)).resolve_left hn;have:=Mh (F:=cw w) (Rat.le_of_lt h.ab) (show 0<d/2 by grind) λs t hs B m N=>by
  refine Classical.byContradiction λP=>?_;have T:=JL h.tw h.w0 hs;have U:=JL h.tw h.w0 B;have V:=JL h.tw h.w0 m;have v:=h.one;have cs:cw w a=cw w s:=O
  have o:cw w t=cw w b:=O
  obtain⟨c,p,f,u,i⟩:∃c,t<=c/\c<=b/\c-s<=d/\ev w c≠0:=by
   by_cases K:ev w t=0
   . have e:t<b:=by
      rcases Rat.le_iff_lt_or_eq.1 m with r|r
      . exact r
      . grind
     obtain⟨k,Q,R,S⟩:=IA (show 0<d/2 by grind) (show 0<b-t by grind);exact⟨t+k,DG,DG,DG,KE h.tw h.w0 h.sq o (show t<t+k by grind) DG⟩
   grind
  have c2:cw w c=cw w b:=by
   have:=JL h.tw h.w0 p;have:=JL h.tw h.w0 f;omega
  have M:=z s c (n s hs DG) (n c DG f) DG u;have p1:=LN h.tw h.w0 h.sq cs Rat.le_refl l hs Rat.le_refl;have G:=LN h.tw h.w0 h.sq c2 Rat.le_refl i f Rat.le_refl;obtain⟨_,D⟩:=JC p1;have j:Ye w s c=1:=O
  unfold Ye at j;have hle:ev w s*ev w c<=0:=by
   refine Rat.not_lt.1 λe=>?_;rw[BG λq=>by have:=q.2;grind]at j;cases j
  have e:ev w s*ev w c<0:=(Xj (Xy D i)).resolve_right DG;have q1:0<ev w b*ev w b:=(Xj (Xy g g)).resolve_left (by have:=Xo (ev w b);grind);exact Y0 hp q1 p1 G e
 have:=h.one;omega
theorem Spn.cut(h:Spn w a b)(d:a<m)(c:m<b):((ev w m=0\/0<ev w m*ev w b)->Spn w a m)/\(ev w m≠0->(ev w b=0\/ev w m*ev w b<0)->Spn w m b):=by
 have i:=JL h.tw h.w0 (Rat.le_of_lt d);have j:=JL h.tw h.w0 (Rat.le_of_lt c);have g:=h.one;by_cases e:cw w m=cw w b
 . refine⟨λ_=>⟨h.tw,h.w0,h.sq,d,O⟩,λn k=>?_⟩;exfalso
   have nb:=KE h.tw h.w0 h.sq e c Rat.le_refl;have:=LN h.tw h.w0 h.sq e Rat.le_refl n (Rat.le_of_lt c) Rat.le_refl;grind[Stb]
 . have f:cw w a=cw w m:=O
   have n:=KE h.tw h.w0 h.sq f d Rat.le_refl;have hs:Spn w m b:=⟨h.tw,h.w0,h.sq,c,O⟩;refine⟨λk=>?_,λ_ _=>hs⟩;exfalso
   rcases k with k|k
   . exact n k
   . obtain⟨_,nb⟩:=JC k;have:=hs.neg n nb;grind
theorem Spn.irr(h:Spn w a b)(c:ev w a≠0)(hn:∀x,a<x->x<=b->ev w x≠0):Irr w a b:=⟨h.tw,h.w0,h.sq,h.ab,λx i j=>by
 grind,h.one⟩
theorem Spn.rat(h:Spn w a b)(m:a<x)(n:x<=b)(e:ev w x=0):∀y,a<y->y<=b->ev w y=0->y=x:=λy i j k=>by
 have o:∀u v,a<u->u<v->v<=b->ev w u=0->ev w v=0->False:=λu v c d f g l=>by
  have c1:cw w u≠cw w b:=λe=>KE h.tw h.w0 h.sq e d f l;have c2:cw w a≠cw w u:=λe=>KE h.tw h.w0 h.sq e c Rat.le_refl g;have p:=JL h.tw h.w0 (Rat.le_of_lt c);have q:=JL h.tw h.w0 (show u<=b by grind);have:=h.one;omega
 grind
end
section
def hZ(n d:Int):List Int->Int
 |[]=>0
 |c::p=>c*d^p.length+n*hZ n d p
variable{L k:Int}{K:Nat}
theorem RS(x:Rat):∀zs:List Int,zs≠[]->((x.den:Int):Rat)^(zs.length-1)*ev (zs.map λz:Int=>(z:Rat)) x=(hZ x.num (x.den:Int) zs:Rat):=by
 have i:((x.den:Int):Rat)*x=(x.num:Rat):=by
  have h:=Cj x;have f:((x.den:Int):Rat)≠0:=by have:=x.den_nz;exact_mod_cast this
  have e:x=(x.num:Rat)/((x.den:Int):Rat):=by rw[<-AA];exact h.symm
  have d:=Aj (a:=(x.num:Rat)) f;rw[<-e]at d;rw[AU];exact d
 intro zs;induction zs with
 |nil=>intro h;exact absurd rfl h
 |cons c p b=>
  intro _;match p,b with
  |[],_=>simp[hZ,ev];grind
  |c2::p,b=>
   have g:=b DH;rw[hZ,List.map_cons,Hq];grind
theorem pO(n d:Int):∀(zs:List Int) (h:zs≠[]),∃q,hZ n d zs=d*q+zs.getLast h*n^(zs.length-1):=by
 intro zs;induction zs with
 |nil=>intro h;exact absurd rfl h
 |cons c p b=>
  intro a;match p,b,a with
  |[],_,_=>exact⟨0,by simp[hZ]⟩
  |c2::p,b,a=>
   have hg:(c::c2::p).getLast a=(c2::p).getLast DH:=List.getLast_cons DH;obtain⟨q,hq⟩:=b DH;refine⟨c*d^p.length+n*q,?_⟩;grind[hZ]
def ZA{zs:List Int}(h:zs≠[]){x:Rat}(e:ev (zs.map λz:Int=>(z:Rat)) x=0):(x.den:Int)∣zs.getLast h:=by
 have a:=RS x zs h;rw[e,Fo]at a;have b:hZ x.num (x.den:Int) zs=0:=by exact_mod_cast a.symm
 obtain⟨q,hq⟩:=pO x.num (x.den:Int) zs h;rw[b]at hq;have c:(x.den:Int)∣zs.getLast h*x.num^(zs.length-1):=⟨-q,by rw[Int.mul_neg];omega⟩;have d:x.den∣(zs.getLast h).natAbs*x.num.natAbs^(zs.length-1):=by
  have:=Cv.2 c;rwa[Cq,Int.natAbs_pow,Ar]at this
 have f:Nat.Coprime x.den (x.num.natAbs^(zs.length-1)):=(x.reduced.symm).pow_right _;have g:=f.dvd_of_dvd_mul_right d;exact Cv.1 (by rw[Ar];exact g)
def Wh.ints{p:List Rat}(h:Wh K p):∃zs:List Int,p=zs.map (λz:Int=>(z:Rat)):=by
 induction p with
 |nil=>exact⟨[],rfl⟩
 |cons c p d=>
  obtain⟨zs,e⟩:=d (λi=>by obtain⟨z,b,a⟩:=h (i+1);exact⟨z,b,by rw[<-a];rfl⟩);obtain⟨z,_,a⟩:=h 0;exact⟨z::zs,by rw[List.map_cons,<-e,<-a];rfl⟩
def JZ(x:Rat)(L:Int):Int:=x.num*L/(x.den:Int)
theorem Mk{x:Rat}:k<=JZ x L↔(k:Rat)<=x*(L:Rat):=by
 have b:(0:Int)<(x.den:Int):=by have:=x.den_nz;omega
 have g:x*((x.den:Int):Rat)=(x.num:Rat):=by
  have h:=Cj x;have b:((x.den:Int):Rat)≠0:=by have:=x.den_nz;exact_mod_cast this
  have d:x=(x.num:Rat)/((x.den:Int):Rat):=by rw[<-AA];exact h.symm
  have f:=Aj (a:=(x.num:Rat)) b;rw[<-d]at f;exact f
 have c:(0:Rat)<((x.den:Int):Rat):=by exact_mod_cast b
 unfold JZ;rw[Int.le_ediv_iff_mul_le b,<-Rat.intCast_le_intCast,As,As,<-g];have e:x*((x.den:Int):Rat)*(L:Rat)=x*(L:Rat)*((x.den:Int):Rat):=DG
 rw[e];constructor
 . intro h;refine Rat.not_lt.1 λd=>?_;have:=Rat.mul_pos (show 0<(k:Rat)-x*(L:Rat)by grind) c;grind
 . intro h;have:=Rat.mul_nonneg (show 0<=x*(L:Rat)-(k:Rat)by grind) (Rat.le_of_lt c);grind
theorem pP{a b x:Rat}(e:0<L)(d:x*(L:Rat)=(k:Rat))(f:a<x)(g:x<=b)(i:JZ b L-JZ a L<=1):k=JZ b L:=by
 have c:(0:Rat)<(L:Rat):=by exact_mod_cast e
 have j:k<=JZ b L:=Mk.2 (by rw[<-d];have:=Rat.mul_nonneg (show 0<=b-x by grind) (Rat.le_of_lt c);grind);have l:¬k<=JZ a L:=λh=>by
  have:=Mk.1 h;rw[<-d]at this;have:=Rat.mul_pos (show 0<x-a by grind) c;grind
 omega
theorem pQ{w:List Rat}(j:Wh K w)(w0:w≠[])(i:cf w (w.length-1)=(L:Rat)){x:Rat}(e:ev w x=0):∃k:Int,x*(L:Rat)=(k:Rat):=by
 obtain⟨zs,c⟩:=j.ints;have z0:zs≠[]:=λh=>w0 (by rw[c,h];rfl);have hl:zs.getLast z0=L:=by
  have d:cf w (w.length-1)=((zs.getLast z0:Int):Rat):=by
   rw[c];unfold cf;rw[CR,Fg,<-List.getLast?_eq_getElem?,List.getLast?_eq_some_getLast z0];rfl
  rw[i]at d;exact_mod_cast d.symm
 have b:=ZA z0 (x:=x) (by rw[<-c];exact e);rw[hl]at b;obtain⟨q,hq⟩:=b;refine⟨x.num*q,?_⟩;have l:x*((x.den:Int):Rat)=(x.num:Rat):=by
  have h:=Cj x;have b:((x.den:Int):Rat)≠0:=by have:=x.den_nz;exact_mod_cast this
  have g:x=(x.num:Rat)/((x.den:Int):Rat):=by rw[<-AA];exact h.symm
  have f:=Aj (a:=(x.num:Rat)) b;rw[<-g]at f;exact f
 rw[hq,As,As,<-l];grind
def DX(a b:Rat):Rat:=(a+b)/2
theorem Gf{a b:Rat}(h:a<b):a<DX a b/\DX a b<b/\DX a b-a=(b-a)/2/\b-DX a b=(b-a)/2:=by
 unfold DX;grind
def Dk(w:List Rat):Nat->Rat->Rat->List (Rat × Rat)
 |0,a,b=>if cw w a<=cw w b then []else [(a,b)]
 |k+1,a,b=>if cw w a<=cw w b then []else if cw w a=cw w b+1 then [(a,b)]else Dk w k a (DX a b)++Dk w k (DX a b) b
def Eo(w:List Rat)(H D:Rat):Prop:=∀x z,Wi H x->Wi H z->x<=z->cw w z+2<=cw w x->1<=D*(z-x)
theorem YM(k:Nat):(0:Rat)<2^k:=by
 induction k with
 |zero=>rw[Rat.pow_zero];decide
 |succ k a=>rw[Rat.pow_succ];grind
theorem Wi.between{H a b x:Rat}(c:Wi H a)(d:Wi H b)(e:a<=x)(f:x<=b):Wi H x:=⟨by have:=c.1;grind,by have:=d.2;grind⟩
section
variable {w:List Rat} {H D:Rat} (tw:Jc w=w) (w0:w≠[]) (sw:Db w) (hA:Eo w H D)
theorem ZB(tw:Jc w=w)(w0:w≠[])(hA:Eo w H D):∀(k:Nat) (a b:Rat),Wi H a->Wi H b->a<b->D*(b-a)<2^k->(Dk w k a b).length=cw w a-cw w b:=by
 intro k;induction k with
 |zero=>
  intro a b c e d g;rw[Rat.pow_zero]at g;rw[Dk];have m:=JL tw w0 (Rat.le_of_lt d);by_cases h:cw w a<=cw w b
  . rw[BH h];simp;omega
  . rw[BG h];by_cases f:cw w b+2<=cw w a
    . have:=hA a b c e (Rat.le_of_lt d) f;grind
    . show 1=_;omega
 |succ k n=>
  intro a b c e d g;obtain⟨i,j,o,p⟩:=Gf d;have l:=c.between e (Rat.le_of_lt i) (Rat.le_of_lt j);rw[Rat.pow_succ]at g;have c1:=JL tw w0 (Rat.le_of_lt i);have c2:=JL tw w0 (Rat.le_of_lt j);rw[Dk];by_cases h:cw w a<=cw w b
  . rw[BH h];simp;omega
  . rw[BG h];by_cases f:cw w a=cw w b+1
    . grind
    . rw[BG f,Aw,n a _ c l i (by rw[o];grind),n _ b l e j (by rw[p];grind)];omega
theorem RT(tw:Jc w=w)(w0:w≠[])(sw:Db w)(hA:Eo w H D):∀(k:Nat) (a b:Rat),Wi H a->Wi H b->a<b->D*(b-a)<2^k->∀s∈Dk w k a b,Spn w s.1 s.2/\a<=s.1/\s.2<=b:=by
 intro k;induction k with
 |zero=>
  intro a b e f c g s hs;rw[Rat.pow_zero]at g;rw[Dk]at hs;by_cases h:cw w a<=cw w b
  . rw[BH h]at hs;cases hs
  . rw[BG h,List.mem_singleton]at hs;subst hs;refine⟨⟨tw,w0,sw,c,?_⟩,Rat.le_refl,Rat.le_refl⟩;by_cases d:cw w b+2<=cw w a
    . have:=hA a b e f (Rat.le_of_lt c) d;grind
    grind
 |succ k m=>
  intro a b e f c g s hs;obtain⟨i,j,n,o⟩:=Gf c;have l:=e.between f (Rat.le_of_lt i) (Rat.le_of_lt j);rw[Rat.pow_succ]at g;rw[Dk]at hs;by_cases h:cw w a<=cw w b
  . rw[BH h]at hs;cases hs
  . rw[BG h]at hs;by_cases d:cw w a=cw w b+1
    . rw[BH d,List.mem_singleton]at hs;subst hs;exact⟨⟨tw,w0,sw,c,d⟩,Rat.le_refl,Rat.le_refl⟩
    grind
theorem pR(tw:Jc w=w)(w0:w≠[])(sw:Db w)(hA:Eo w H D):∀(k:Nat) (a b:Rat),Wi H a->Wi H b->a<b->D*(b-a)<2^k->(Dk w k a b).Pairwise λs t=>s.2<=t.1:=by
 intro k;induction k with
 |zero=>
  intro a b _ _ _ _;rw[Dk];split
  . exact List.Pairwise.nil
  grind
 |succ k l=>
  intro a b d e o p;obtain⟨f,g,m,n⟩:=Gf o;have c:=d.between e (Rat.le_of_lt f) (Rat.le_of_lt g);rw[Rat.pow_succ]at p;rw[Dk];split
  . exact List.Pairwise.nil
  . split
    . grind
    . refine List.pairwise_append.2 ⟨l a _ d c f (by rw[m];grind),l _ b c e g (by rw[n];grind),λs hs t q=>?_⟩;have i:=(RT tw w0 sw hA k a _ d c f (by rw[m];grind) s hs).2.2;have j:=(RT tw w0 sw hA k _ b c e g (by rw[n];grind) t q).2.1;grind
end
def pS{K:Nat}{w:List Rat}(tw:Jc w=w)(sw:Db w)(g:Wh K w)(hs:Wh K (Jb w))(hl:3<=w.length)(m:w.length<=100){H:Rat}(b:0<=H):∃u v:List Rat,Wh ((K+1)*(w.length+(Jb w).length)) u/\Wh ((K+1)*(w.length+(Jb w).length)) v/\u.length<=w.length/\v.length<=w.length/\Eo w H (GT H u*Ei H w+GT H v*Ei H (Jb w)):=by
 have w0:w≠[]:=λe=>by rw[e]at hl;simp at hl
 have l1:=YU w0;have l2:2<=(Jb w).length:=by
  have h:=Jq tw w0;have e:cf (Jb w) (w.length-2)≠0:=by
   rw[XE,show w.length-2+1=w.length-1 by omega];exact Xy h (by have:((w.length-1:Nat):Int)≠0:=(by omega);exact_mod_cast this)
  have:=QN e;omega
 obtain⟨u,v,c,f,hv,d,n,l,e⟩:=pJ tw (Jr w) g hs O O l2 sw;exact⟨u,v,f,hv,O,l,λx z i k j a=>pM tw O d e b i k j a⟩
end
section
def Ep(w:List Rat)(a b m:Rat):Rat × Rat:=if ev w m=0\/0<ev w m*ev w b then(a,m)else(m,b)
variable{L:Int}
theorem ZC{w:List Rat}{a b m:Rat}(h:Spn w a b)(d:a<m)(f:m<b):Spn w (Ep w a b m).1 (Ep w a b m).2/\a<=(Ep w a b m).1/\(Ep w a b m).2<=b/\((Ep w a b m).1=a\/ev w (Ep w a b m).1≠0):=by
 unfold Ep;by_cases c:ev w m=0\/0<ev w m*ev w b
 . rw[BH c];exact⟨(h.cut d f).1 c,Rat.le_refl,Rat.le_of_lt f,Or.inl rfl⟩
 . rw[BG c];have n:ev w m≠0:=λe=>c (Or.inl e);refine⟨(h.cut d f).2 n ?_,Rat.le_of_lt d,Rat.le_refl,Or.inr n⟩;grind[Xy]
theorem pT{w:List Rat}{a b:Rat}(h:a<b):(Ep w a b (DX a b)).2-(Ep w a b (DX a b)).1=(b-a)/2:=by
 grind[Gf,Ep]
def Hn(w:List Rat)(L:Int):Nat->Rat->Rat->Rat × Rat
 |0,a,b=>(a,b)
 |k+1,a,b=>if 1<JZ b L-JZ a L\/ev w a=0 then Hn w L k (Ep w a b (DX a b)).1 (Ep w a b (DX a b)).2 else(a,b)
theorem pV{a b:Rat}(h:(L:Rat)*(b-a)<1):JZ b L-JZ a L<=1:=by
 have e:=Mk.1 (Int.le_refl (JZ b L));have c:¬JZ a L+1<=JZ a L:=O
 have f:a*(L:Rat)<((JZ a L+1:Int):Rat):=Rat.not_le.1 λh=>c (Mk.2 h);have d:((JZ b L:Int):Rat)<((JZ a L+2:Int):Rat):=by
  rw[show JZ a L+2=(JZ a L+1)+1 by omega,Fe (JZ a L+1) 1]
  have:((1:Int):Rat)=1:=rfl
  grind
 have:JZ b L<JZ a L+2:=Rat.intCast_lt_intCast.1 d
 omega
theorem pW{w:List Rat}{H D a b:Rat}(hA:Eo w H D)(hD:0<=D)(h:Spn w a b)(d:ev w a=0)(g:-H<a)(c:Wi H b):1<=D*(b-a):=by
 refine Rat.not_lt.1 λhn=>?_;obtain⟨k,p,q,r⟩:=IA (show 0<a+H by grind) (show 0<(1-D*(b-a))/(D+1)from Yf DG DG);have l:=h.ab;have f:Wi H (a-k):=⟨DG,by have:=c.2;grind⟩;have n:cw w (a-k)≠cw w a:=λe=>KE h.tw h.w0 h.sq e (show a-k<a by grind) Rat.le_refl d;have m:=JL h.tw h.w0 (show a-k<=a by grind);have o:=h.one;have i:=hA (a-k) b f c DG O;have e:(1-D*(b-a))/(D+1)*(D+1)=1-D*(b-a):=Aj DG;have j:=Rat.mul_nonneg (a:=(1-D*(b-a))/(D+1)-k) (b:=D+1) DG DG;grind
structure Stld(w:List Rat)(L:Int)(a b:Rat):Prop where
 spn:Spn w a b
 one:JZ b L-JZ a L<=1
 low:ev w a≠0
theorem pX{w:List Rat}{H D:Rat}(hA:Eo w H D)(hD:0<=D):∀(k:Nat) (a b:Rat),Spn w a b->-H<a->Wi H b->D*(b-a)<2^k->(L:Rat)*(b-a)<2^k->Stld w L (Hn w L k a b).1 (Hn w L k a b).2/\a<=(Hn w L k a b).1/\(Hn w L k a b).2<=b:=by
 intro k;induction k with
 |zero=>
  intro a b h i g f c;rw[Rat.pow_zero]at f c;refine⟨⟨h,pV c,λe=>?_⟩,Rat.le_refl,Rat.le_refl⟩;have:=pW hA hD h e i g;grind
 |succ k p=>
  intro a b h i g f c;rw[Rat.pow_succ]at f c;rw[Hn];by_cases d:1<JZ b L-JZ a L\/ev w a=0
  . rw[BH d];obtain⟨m,n,_,_⟩:=Gf h.ab;obtain⟨l,r,s,_⟩:=ZC h m n;have t:=pT (w:=w) h.ab;have o:Wi H (Ep w a b (DX a b)).2:=⟨by have:=l.ab;grind,by have:=g.2;grind⟩;grind
  . rw[BG d];have j:JZ b L-JZ a L<=1:=by have:=λq=>d (Or.inl q);omega
    exact⟨⟨h,j,λe=>d (Or.inr e)⟩,Rat.le_refl,Rat.le_refl⟩
theorem Stld.fin{K:Nat}{w:List Rat}{a b:Rat}(h:Stld w L a b)(o:Wh K w)(n:cf w (w.length-1)=(L:Rat))(c:0<L):
 (a<Rat.divInt (JZ b L) L->ev w (Rat.divInt (JZ b L) L)=0->Rat.divInt (JZ b L) L<=b/\∀y,a<y->y<=b->ev w y=0->y=Rat.divInt (JZ b L) L)/\
 (¬(a<Rat.divInt (JZ b L) L/\ev w (Rat.divInt (JZ b L) L)=0)->Irr w a b):=by
 have g:(0:Rat)<(L:Rat):=by exact_mod_cast c
 obtain⟨x,d⟩:=ex (Rat.divInt (JZ b L) L);have ex:x*(L:Rat)=((JZ b L:Int):Rat):=by
  rw[<-d,AA];exact Aj DG
 have f:x<=b:=by
  have:=Mk.1 (Int.le_refl (JZ b L));rw[<-ex]at this;refine Rat.not_lt.1 λk=>?_;have:=Rat.mul_pos (show 0<x-b by grind) g;grind
 rw[d];refine⟨λl m=>⟨f,h.spn.rat l f m⟩,λhn=>h.spn.irr h.low λy i j e=>?_⟩;obtain⟨k,hk⟩:=pQ o h.spn.w0 n e;have p:=pP c hk i j h.one;grind[AN]
section
variable {w q p r g u:List Rat} {a b x z:Rat}
def RU(tg:Jc g=g)(g0:g≠[])(f:Jc u=u)(u0:u≠[])(sg:Db g)(e:Db u)(d:DR g u)(j:a<=b):cw (Jj g u) a+(cw g b+cw u b)=cw (Jj g u) b+(cw g a+cw u a):=by
 obtain⟨A,k,hA⟩:=JN a;obtain⟨C,l,hC⟩:=JN b;have c:0<=A+C:=DG
 have s:=(((KD (JA g u) (Xn tg f g0 u0) (sg.mul e d) c).and (KD tg g0 sg c)).and (KD f u0 e c)).and (Me d c);exact glue (B:=A+C) (F:=cw (Jj g u)) (G:=λx=>cw g x+cw u x) (s.mono λx z _ _ _ i=>by
  omega) (hA.mono DG) (hC.mono DG) j
theorem Irr.factor(h:Irr w a b)(tg:Jc g=g)(g0:g≠[])(o:Dv g w):(Dg w a b g=0/\cw g a=cw g b+1)\/(Dg w a b g≠0/\cw g a=cw g b):=by
 have l:=(JH tg g0 o).2;have p:Jc (Jm w g)=Jm w g:=Yx _ _;have ew:w=Jj g (Jm w g):=Xb h.tw (JA _ _) λx=>by rw[Je];exact l x
 have u0:Jm w g≠[]:=λe=>h.w0 (by rw[ew,e,YH]);have sw:Db (Jj g (Jm w g)):=by rw[<-ew];exact h.sq
 have sg:Db g:=h.sq.of_dv h.tw o;have t:Db (Jm w g):=h.sq.of_dv h.tw ⟨g,λx=>by rw[l x,AU]⟩;have G:=sw.parts;have q:=Rat.le_of_lt h.ab;have k:=RU tg g0 p u0 sg t G q;rw[<-ew]at k;have I:=JL tg g0 q;have K:=JL p u0 q;have H:=h.one;have u:∀y,a<=y->y<=b->ev g y≠0:=λy i j e=>h.nz y i j (by rw[l y,e,A7]);have v:∀y,a<=y->y<=b->ev (Jm w g) y≠0:=λy i j e=>h.nz y i j (by rw[l y,e,Fo]);by_cases hg:cw g a=cw g b
 . refine Or.inr ⟨λe=>?_,hg⟩;obtain⟨x,z,f,m,n,_,D⟩:=h.some (Y2 h sg tg e);have:=LN tg g0 sg hg f (u x f DG) m n;unfold Stb at this;grind
 . have B:cw g a=cw g b+1:=O
   have A:cw (Jm w g) a=cw (Jm w g) b:=O
   refine Or.inl ⟨?_,B⟩;have hi:Irr g a b:=⟨tg,g0,sg,h.ab,u,B⟩;rcases h.val g with⟨F,_⟩|⟨_,c,c0,d,d0,o⟩|⟨_,c,c0,d,d0,o⟩
   . exact F
   . exfalso
     obtain⟨x,z,f,m,n,s,D⟩:=hi.near d0;have st:=LN p u0 t A f (v x f DG) (Rat.le_of_lt m) n;unfold Stb at st;have r:ev w x*ev w z<0:=by
      rw[l x,l z];have:=Rat.mul_pos (show 0 < -(ev g x*ev g z)by grind) st;grind
     have j:=o x z f (Rat.le_of_lt m) n s r;have:=Rat.mul_pos (show 0<ev g x by have:=j.1;grind) (show 0<ev g z by have:=j.2;grind);grind
   . exfalso
     obtain⟨x,z,f,m,n,s,D⟩:=hi.near d0;have st:=LN p u0 t A f (v x f DG) (Rat.le_of_lt m) n;unfold Stb at st;have r:ev w x*ev w z<0:=by
      rw[l x,l z];have:=Rat.mul_pos (show 0 < -(ev g x*ev g z)by grind) st;grind
     have j:c<=ev (DM (-1) g) x/\c<=ev (DM (-1) g) z:=o x z f (Rat.le_of_lt m) n s r;rw[Jp,Jp]at j;have:=Rat.mul_pos (show 0 < -(ev g x)by have:=j.1;grind) (show 0 < -(ev g z)by have:=j.2;grind);grind
theorem Irr.gcd(h:Irr w a b)(tq:Jc q=q):Dg w a b q=0↔cw (Ju w q) a=cw (Ju w q) b+1:=by
 have tg:=JT w q;have g0:=YD h.tw tq (Or.inl h.w0);obtain⟨d1,l,_⟩:=Yw h.tw tq;obtain⟨g,hg,d⟩:=h.sign q;have d:Nr w a b _:=d;have m:Dv g (Ju w q):=LI h.tw tq hg.dw hg.dq;have t:Dv (Ju w q) g:=hg.all _ d1 l;have s:Dg w a b q=0↔Dg w a b (Ju w q)=0:=by
  constructor
  . intro e;obtain⟨c,f⟩:=m;refine h.zero.2 (Eh.ext (q:=Jj g c) (Eh.mul (λk hk=>(d.and (Nr.of_sh λn=>Xc g n hk)).mono λx z _ _ _ _ i=>i.2 λo=>?_) c) λx=>by rw[Je];exact f x);rcases i.1 with j|j|j
    . unfold Stb at o;have:=j.2;grind
    . omega
    . omega
  . intro e;obtain⟨c,f⟩:=l;exact h.zero.2 (((h.zero.1 e).mul c).ext λx=>by rw[Je];exact f x)
 rw[s];rcases h.factor tg g0 d1 with⟨p,r⟩|⟨p,r⟩
 . omega
 omega
end
end
section
variable {w:List Rat} {x z:Rat}
end
section
def Fqq:List (List Rat × Nat)->List Rat
 |[]=>[1]
 |s::L=>Jj s.1 (Fqq L)
structure PtsOk(L:List (List Rat × Nat)):Prop where
 all:∀s∈L,Jc s.1=s.1/\s.1≠[]/\Db s.1/\1<=s.2
 cop:L.Pairwise λa b=>DR a.1 b.1
variable{L:List (List Rat × Nat)}{T:Rat->Int}
def PtsOk.tail{s:List Rat × Nat}(h:PtsOk (s::L)):PtsOk L:=⟨λt a=>h.all t (A5 _ a),(List.pairwise_cons.1 h.cop).2⟩
def OO(L:List (List Rat × Nat)):Jc (Fqq L)=Fqq L:=by
 cases L with
 |nil=>decide +kernel
 |cons s L=>exact JA _ _
theorem OP(c:List Rat):DR [1] c:=⟨[1],[],λx=>by simp[ev];grind⟩
def RV:∀(L:List (List Rat × Nat)) (c:List Rat),(∀s∈L,DR s.1 c)->DR (Fqq L) c:=by
 intro L c;induction L with
 |nil=>intro _;exact OP c
 |cons s L b=>intro h;exact(h s (AH ..)).mul_left (b λt a=>h t (A5 _ a))
def pZ:∀(L:List (List Rat × Nat)) (c:List Rat),DR (Fqq L) c->∀s∈L,DR s.1 c:=by
 intro L c;induction L with
 |nil=>intro _ s hs;cases hs
 |cons s L d=>
  intro h t b;have a:DR (Jj s.1 (Fqq L)) c:=h;rcases Fk.1 b with r|r
  . rw[r];exact a.of_dv ((Dv.refl s.1).mul (Fqq L))
  . exact d (a.of_dv ((Dv.refl (Fqq L)).mul' s.1)) t r
def PtsOk.sqf(h:PtsOk L):Db (Fqq L)/\Fqq L≠[]:=by
 induction L with
 |nil=>exact⟨OP _,by simp[Fqq]⟩
 |cons s L e=>
  obtain⟨a,b⟩:=e h.tail;obtain⟨f,g,i,_⟩:=h.all s (AH ..);have c:DR s.1 (Fqq L):=(RV L s.1 λt d=>((List.pairwise_cons.1 h.cop).1 t d).symm).symm;exact⟨i.mul a c,Xn f (OO L) g b⟩
def pd{p q:List Rat}(tp:Jc p=p)(p0:p≠[])(tq:Jc q=q)(q0:q≠[])(h:DR p q):nA (Jj p q)=nA p+nA q:=by
 rw[pB tp p0 tq q0,ns tp tq h,Wv.1];omega
def RW(L:List (List Rat × Nat))(f:List Rat->Int):Int:=(L.map λs=>f s.1).sum
def pg(h:PtsOk L):nA (Fqq L)=RW L nA:=by
 induction L with
 |nil=>exact Wv.1
 |cons s L c=>
  obtain⟨d,e,_,_⟩:=h.all s (AH ..);have a:DR s.1 (Fqq L):=(RV L s.1 λt b=>((List.pairwise_cons.1 h.cop).1 t b).symm).symm;rw[Fqq,pd d e (OO L) (h.tail.sqf).2 a,c h.tail];simp[RW]
def ph{p q:List Rat}(tp:Jc p=p)(p0:p≠[])(tq:Jc q=q)(q0:q≠[])(h:∀c,DR p c↔DR q c):DK p=DK q:=by
 have a:=Xi tp p0;have b:=Xi tq q0;refine Dv.eq a.tw b.tw a.mw b.mw ?_ ?_
 . exact Db.dv b.tw a.tw a.w0 (Ih tp p0) λc k=>(XO tp p0 c).2 ((h c).2 ((XO tq q0 c).1 k))
 . exact Db.dv a.tw b.tw b.w0 (Ih tq q0) λc k=>(XO tq q0 c).2 ((h c).1 ((XO tp p0 c).1 k))
def pi{p q:List Rat}(tp:Jc p=p)(p0:p≠[])(tq:Jc q=q)(q0:q≠[])(h:DK p=DK q):nA p=nA q:=by
 have:=oU tp p0 tq q0 h;unfold nA;omega
def pj{w c:List Rat}(h:DR w c)(i:Nat):∀r:List Rat,(∀x,ev r x=ev w x^i)->DR r c:=by
 induction i with
 |zero=>intro r a;exact(OP c).ext (λx=>by rw[a,Rat.pow_zero,Jn]) λ_=>rfl
 |succ i b=>
  intro r a;obtain⟨s,hs⟩:∃s:List Rat,∀x,ev s x=ev w x^i:=by
   clear b a;induction i with
   |zero=>exact⟨[1],λx=>by rw[Rat.pow_zero,Jn]⟩
   |succ i b=>
    obtain⟨s,hs⟩:=b;exact⟨Jj s w,λx=>by rw[Je,hs,Rat.pow_succ]⟩
  exact((b s hs).mul_left h).ext (λx=>by rw[Je,hs,a,Rat.pow_succ]) λ_=>rfl
def ZD(L:List (List Rat × Nat))(c:List Rat)(h:∀s∈L,DR s.1 c):∀r:List Rat,(∀x,ev r x=Dt L x)->DR r c:=by
 induction L with
 |nil=>intro r b;exact(OP c).ext (λx=>by rw[b,Dt,Jn]) λ_=>rfl
 |cons s L a=>
  intro r b;obtain⟨u,d⟩:∃u:List Rat,∀x,ev u x=ev s.1 x^s.2:=by
   induction s.2 with
   |zero=>exact⟨[1],λx=>by rw[Rat.pow_zero,Jn]⟩
   |succ i a=>
    obtain⟨u,hs⟩:=a;exact⟨Jj u s.1,λx=>by rw[Je,hs,Rat.pow_succ]⟩
  obtain⟨v,hv⟩:∃v:List Rat,∀x,ev v x=Dt L x:=by
   clear a h b;induction L with
   |nil=>exact⟨[1],λx=>by rw[Dt,Jn]⟩
   |cons t L a=>
    obtain⟨v,hv⟩:=a;obtain⟨u2,f⟩:∃u:List Rat,∀x,ev u x=ev t.1 x^t.2:=by
     induction t.2 with
     |zero=>exact⟨[1],λx=>by rw[Rat.pow_zero,Jn]⟩
     |succ i a=>
      obtain⟨u,hs⟩:=a;exact⟨Jj u t.1,λx=>by rw[Je,hs,Rat.pow_succ]⟩
    exact⟨Jj u2 v,λx=>by rw[Je,f,hv,Dt]⟩
  exact((pj (h s (AH ..)) s.2 u d).mul_left (a (λt e=>h t (A5 _ e)) v hv)).ext (λx=>by rw[Je,d,hv,b,Dt]) λ_=>rfl
theorem pk{s:List Rat × Nat}(hs:s∈L)(g:1<=s.2):∃c:List Rat,∀x,Dt L x=ev s.1 x*ev c x:=by
 have Nl:∀(w:List Rat) (i:Nat),∃u:List Rat,∀x,ev u x=ev w x^i:=λw i=>by
  induction i with
  |zero=>exact⟨[1],λx=>by rw[Rat.pow_zero,Jn]⟩
  |succ i b=>
   obtain⟨u,hs⟩:=b;exact⟨Jj u w,λx=>by rw[Je,hs,Rat.pow_succ]⟩
 have d:∀M:List (List Rat × Nat),∃v:List Rat,∀x,ev v x=Dt M x:=λM=>by
  induction M with
  |nil=>exact⟨[1],λx=>by rw[Dt,Jn]⟩
  |cons t L b=>
   obtain⟨v,hv⟩:=b;obtain⟨u,a⟩:=Nl t.1 t.2;exact⟨Jj u v,λx=>by rw[Je,a,hv,Dt]⟩
 induction L with
 |nil=>cases hs
 |cons t L b=>
  rcases Fk.1 hs with r|r
  . subst r;obtain⟨j,f⟩:∃j,s.2=j+1:=⟨s.2-1,O⟩;obtain⟨u,a⟩:=Nl s.1 j;obtain⟨v,hv⟩:=d L;exact⟨Jj u v,λx=>by rw[Dt,f,Rat.pow_succ,Je,a,hv];grind⟩
  . obtain⟨c,e⟩:=b r;obtain⟨u,a⟩:=Nl t.1 t.2;exact⟨Jj u c,λx=>by rw[Dt,e,Je,a];grind⟩
def pm(h:PtsOk L){p:List Rat}(tp:Jc p=p)(p0:p≠[])(hp:∀x,ev (Js p) x=Dt L x):nA p=RW L nA/\DK p=DK (Fqq L):=by
 obtain⟨d1,a⟩:=RI tp p0;have e:DK p=DK (Fqq L):=ph tp p0 (OO L) h.sqf.2 λc=>by
  constructor
  . intro k;refine RV L c λs hs=>?_;obtain⟨r,b⟩:=pk hs (h.all s hs).2.2.2;exact(k.of_dv d1).of_dv ⟨r,λx=>by rw[hp];exact b x⟩
  . intro k;exact(ZD L c (pZ L c k) (Js p) hp).of_dv a
 exact⟨(pi tp p0 (OO L) h.sqf.2 e).trans (pg h),e⟩
structure SdOk(S:Rat->Int):Prop where
 three:∀x,S x=-1\/S x=0\/S x=1
 mono:∀x y,x<y->S x<=0->S y=-1
def EQ(S T:Rat->Int):Prop:=∃x,S x<=0/\0<=T x/\S x≠T x
def EQ.irr{S:Rat->Int}:¬EQ S S:=λ⟨_,_,_,h⟩=>h rfl
def EQ.trans{S U:Rat->Int}(e:SdOk S)(hT:SdOk T)(h:EQ S T)(d:EQ T U):EQ S U:=by
 obtain⟨x,a,f,g⟩:=h;obtain⟨y,c,b,i⟩:=d;rcases JX x y with r|r
 . rcases Rat.le_iff_lt_or_eq.1 r with r|r
   . have:=e.mono x y r a;exact⟨y,O,b,O⟩
   . subst r;exact⟨x,a,b,O⟩
 . rcases Rat.le_iff_lt_or_eq.1 r with r|r
   . have:=hT.mono y x r c;omega
   . subst r;exact⟨y,a,b,O⟩
def EQ.asymm{S:Rat->Int}(b:SdOk S)(hT:SdOk T)(h:EQ S T):¬EQ T S:=λa=>EQ.irr (h.trans b hT a)
def Irr.sd{w:List Rat}{a b:Rat}(h:Irr w a b):SdOk (Di w a b) where
 three x:=by rcases h.sid_ne x with k|k<;>omega
 mono x y hxy hx:=(h.sid_mono (Rat.le_of_lt hxy)).2 (by rcases h.sid_ne x with k|k<;>omega)
def EG(r x:Rat):Int:=if r<x then -1 else if x<r then 1 else 0
theorem ZE(r:Rat):SdOk (EG r) where
 three x:=by grind[EG]
 mono x y hxy hx:=by
  grind[EG]
def Lt.slt{w v:List Rat}{a b c d:Rat}(h:Lt w a b v c d):EQ (Di w a b) (Di v c d):=by
 obtain⟨x,e,f⟩:=h;exact⟨x,O,O,O⟩
section
variable {w g q p:List Rat} {a b r:Rat}
theorem Spn.factor_q(h:Spn w a b)(l:a<r)(m:r<=b)(e:ev w r=0)(tg:Jc g=g)(g0:g≠[])(f:Dv g w):(ev g r=0/\cw g a=cw g b+1)\/(ev g r≠0/\cw g a=cw g b):=by
 have d:=(JH tg g0 f).2;have i:Jc (Jm w g)=Jm w g:=Yx _ _;have ew:w=Jj g (Jm w g):=Xb h.tw (JA _ _) λx=>by rw[Je];exact d x
 have u0:Jm w g≠[]:=λe=>h.w0 (by rw[ew,e,YH]);have sw:Db (Jj g (Jm w g)):=by rw[<-ew];exact h.sq
 have sg:Db g:=h.sq.of_dv h.tw f;have j:Db (Jm w g):=h.sq.of_dv h.tw ⟨g,λx=>by rw[d x,AU]⟩;have c:=Rat.le_of_lt h.ab;have k:=RU tg g0 i u0 sg j sw.parts c;rw[<-ew]at k;have o:=JL tg g0 c;have p:=JL i u0 c;have n:=h.one;grind[KE]
theorem Spn.gcd_q(h:Spn w a b)(f:a<r)(g:r<=b)(e:ev w r=0)(tq:Jc q=q):(ev q r=0/\cw (Ju w q) a=cw (Ju w q) b+1)\/(ev q r≠0/\cw (Ju w q) a=cw (Ju w q) b):=by
 obtain⟨d1,d,s,t,m⟩:=Yw h.tw tq;have n:ev (Ju w q) r=0↔ev q r=0:=by
  constructor
  . intro k;obtain⟨c,i⟩:=d;rw[i,k,A7]
  . intro k;grind
 rcases h.factor_q f g e (JT w q) (YD h.tw tq (Or.inl h.w0)) d1 with⟨j,l⟩|⟨j,l⟩
 . grind
 grind
end
end
section
variable{K:Nat}
def pn{X:Nat}{n d:Int}(hn:Sm X n)(g:Sm X d):∀(zs:List Int),(∀z∈zs,Sm K z)->Sm (K+zs.length*(X+2)) (hZ n d zs):=by
 intro zs;induction zs with
 |nil=>intro _;exact Sm.zero _
 |cons c zs j=>
  intro h;have b:=(h c AH).mul (g.powZ zs.length);have e:=hn.mul (j λz i=>h z (A5 _ i));have k:zs.length*(X+2)=zs.length*X+zs.length*2:=CU _ _ _;have a:(zs.length+1)*(X+2)=zs.length*(X+2)+(X+2):=Nat.succ_mul _ _;rw[hZ,Ai,a];have f:=(b.mono (show K+(zs.length*X+1)<=K+zs.length*(X+2)+X+1 by omega)).add (e.mono (show X+(K+zs.length*(X+2))<=K+zs.length*(X+2)+X+1 by omega));exact f.mono O
theorem po(n d:Int)(zs:List Int){k:Nat}(hk:k<zs.length):hZ n d (zs.drop (k+1))*n+zs[k]*d^(zs.length-(k+1))=hZ n d (zs.drop k):=by
 rw[AK hk,hZ,A3];grind
theorem pq(x:Rat)(zs:List Int):XH (hZ x.num (x.den:Int) zs) 0=DV (ev (zs.map λz:Int=>(z:Rat)) x):=by
 by_cases e:zs=[]
 . rw[e];show XH 0 0=DV 0;decide
 . have h:=RS x zs e;have d:(0:Rat)<((x.den:Int):Rat)^(zs.length-1):=Rat.pow_pos (by have:=x.den_pos;exact_mod_cast this);obtain⟨D,hD⟩:=ex (((x.den:Int):Rat)^(zs.length-1));obtain⟨E,hE⟩:=ex (ev (zs.map λz:Int=>(z:Rat)) x);obtain⟨a,hZ⟩:=ex (hZ x.num (x.den:Int) zs);rw[hD]at h d;rw[hE]at h ⊢;rw[hZ]at h ⊢;unfold XH;rcases Yu E with⟨c,b⟩|⟨c,b⟩|⟨c,b⟩
   . have:=Rat.mul_pos d (show 0 < -E by grind)
     have:(a:Rat)<0:=by rw[<-h];grind
     rw[BH (by exact_mod_cast this),b]
   . have:(a:Rat)=0:=by rw[<-h,c];grind
     have:a=0:=by exact_mod_cast this
     rw[this,b];rfl
   . have:=Rat.mul_pos d c
     have:(0:Rat)<(a:Rat):=by rw[<-h];exact this
     have:0<a:=by exact_mod_cast this
     omega
def Wh.zs{p:List Rat}(h:Wh K p):∃zs:List Int,p=zs.map (λz:Int=>(z:Rat))/\∀z∈zs,Sm K z:=by
 obtain⟨zs,e⟩:=h.ints;refine⟨zs,e,λz c=>?_⟩;obtain⟨i,hi,rfl⟩:=CW.1 c;obtain⟨z,b,a⟩:=h i;rw[e,cf]at a
 have:((zs[i]:Int):Rat)=(z:Rat):=by simpa[List.getD,hi]using a
 have:zs[i]=z:=by exact_mod_cast this
 rw[this];exact b
section
variable {w v q:List Rat} {a b c d x:Rat}
variable{k:Rat}
theorem Nr.scl{P:Rat->Rat->Prop}(hk:k≠0):Nr (DM k w) a b P↔Nr w a b P:=by
 have e:∀x z,ev (DM k w) x*ev (DM k w) z<0↔ev w x*ev w z<0:=λx z=>by
  rw[Jp,Jp];have l:ev w x*k*(ev w z*k)=(k*k)*(ev w x*ev w z):=DG
  have hp:0<k*k:=by
   rcases Xj hk with h|h
   . have:=Rat.mul_pos (a:=-k) (b:=-k) DG DG;grind
   . exact Rat.mul_pos h h
  rw[l];constructor
  . intro h;exact LM hp h
  . intro h;have:=Rat.mul_pos hp (show 0 < -(ev w x*ev w z)by grind);grind
 constructor
 . rintro⟨d,d0,h⟩;exact⟨d,d0,λx z c f g i j=>h x z c f g i ((e x z).2 j)⟩
 . rintro⟨d,d0,h⟩;exact⟨d,d0,λx z c f g i j=>h x z c f g i ((e x z).1 j)⟩
theorem Db.scl(hk:k≠0)(h:Db w):Db (DM k w):=by
 obtain⟨u,v,a⟩:=h;refine⟨DM (1/k) u,DM (1/k) v,λx=>?_⟩;grind[WP,Jp]
def Irr.scl{k:Rat}(h:Irr w a b)(hk:k≠0):Irr (DM k w) a b/\∀q,Dg (DM k w) a b q=Dg w a b q:=by
 have ts:Jc (DM k w)=DM k w:=JG _ _;have f:DM k w≠[]:=Hk hk h.tw h.w0;have l:=OM ts f h.tw h.w0 (RK hk h.tw) (Rat.le_of_lt h.ab);have i:Irr (DM k w) a b:=⟨ts,f,h.sq.scl hk,h.ab,λx i j=>by
  rw[Jp];intro e;rcases AN.1 e with e|e
  . exact h.nz x i j e
  . exact hk e,by have:=h.one;unfold cw at *;omega⟩
 refine⟨i,λq=>?_⟩;rcases h.val q with⟨e,d⟩|⟨e,c,c0,d⟩|⟨e,c,c0,d⟩
 . rw[e];exact i.zero.2 λe g=>(Nr.scl hk).2 (d e g)
 . rw[e];exact i.pos.2 ⟨c,c0,(Nr.scl hk).2 d⟩
 . rw[e];exact i.minus.2 ⟨c,c0,(Nr.scl hk).2 d⟩
theorem Irr.chain(h:Irr w a b):(DL (JD (Y7 w (Jj (Jb w) q)) a):Int)-(DL (JD (Y7 w (Jj (Jb w) q)) b):Int)=Dg w a b q:=by
 obtain⟨c,c0,g⟩:=Xz h.tw;obtain⟨k,m,i⟩:=Xz (JA (Jb w) q);have c1:c≠0:=λe=>by grind
 obtain⟨d,j⟩:=h.scl c1;have e:DM k (Jj (Jb w) q)=Jj (Jb (DM c w)) (DM (k/c) q):=Xb (JG _ _) (JA _ _) λx=>by
  grind[WP,Jp,Je]
 have l:Dg (DM c w) a b (DM (k/c) q)=Dg (DM c w) a b q:=by
  have f:Dg (DM c w) a b (DM (k/c) q)=Dg (DM c w) a b (Jj [k/c] q):=d.ext λx=>by rw[Jp,Je,Jn,AU]
  rw[f,d.mul,(d.const (k/c)).1 (Yf m c0),Int.one_mul]
 rw[<-j q,<-l];unfold Dg D4 Y7;rw[g,i,e]
end
structure RtQ where
 lo:Rat
 hi:Rat
 w:List Rat
 sg:Int
 tm:Nat
def RtQ.cut(r:RtQ)(x:Rat):RtQ:=if r.lo<x/\x<r.hi then(if DV (ev r.w x)=0\/DV (ev r.w x)=r.sg then⟨r.lo,x,r.w,DV (ev r.w x),r.tm⟩else⟨x,r.hi,r.w,r.sg,r.tm⟩)else r
def RtQ.mid(r:RtQ):Rat:=DX r.lo r.hi
def RtQ.hv(r:RtQ):RtQ:=r.cut r.mid
def RtQ.side(r:RtQ)(x:Rat):Int:=Xf (r.cut x).mid x
def Ev(row:List (List Rat))(a b:Rat):Int:=(DL (JD row a):Int)-(DL (JD row b):Int)
def RtQ.sign(r:RtQ)(q:List Rat):Int:=if r.lo<r.hi then Ev (Y7 r.w (Jj (Jb r.w) q)) r.lo r.hi else DV (ev q r.lo)
def RtQ.ord(r s:RtQ):Int:=if s.lo<s.hi then(if r.side s.lo<=0 then -1 else if 0<=r.side s.hi then 1 else r.sign s.w*s.sg)else r.side s.lo
structure RtQ.Ok(r:RtQ):Prop where
 tw:Jc r.w=r.w
 w0:r.w≠[]
 sq:Db r.w
 sgh:r.sg=DV (ev r.w r.hi)
 root:(r.lo=r.hi/\ev r.w r.lo=0)\/Irr r.w r.lo r.hi
def RtQ.S(r:RtQ)(x:Rat):Int:=if r.lo<r.hi then Di r.w r.lo r.hi x else EG r.lo x
theorem Gx(r x:Rat):Xf r x=EG r x:=by
 unfold EG;have a:Xf r x=-1\/Xf r x=0\/Xf r x=1:=by
  unfold Xf XH;split
  . exact Or.inl rfl
  . omega
 have b:=IY (p:=r) (q:=x);grind[I5]
section
variable {r s t:RtQ} {x:Rat} {q:List Rat}
theorem RtQ.Ok.irr(h:r.Ok)(hl:r.lo<r.hi):Irr r.w r.lo r.hi:=by
 rcases h.root with⟨e,_⟩|k
 . grind
 . exact k
def RtQ.Ok.rat(h:r.Ok)(hl:¬r.lo<r.hi):r.lo=r.hi/\ev r.w r.lo=0:=by
 rcases h.root with k|k
 . exact k
 . exact absurd k.ab hl
theorem RtQ.Ok.sd(h:r.Ok):SdOk r.S:=by
 unfold RtQ.S;by_cases hl:r.lo<r.hi
 . have:(λx=>if r.lo<r.hi then Di r.w r.lo r.hi x else EG r.lo x)=Di r.w r.lo r.hi:=funext λx=>BH hl
   show SdOk λx=>if r.lo<r.hi then Di r.w r.lo r.hi x else EG r.lo x;rw[this];exact(h.irr hl).sd
 . have:(λx=>if r.lo<r.hi then Di r.w r.lo r.hi x else EG r.lo x)=EG r.lo:=funext λx=>BG hl
   grind[ZE]
theorem RtQ.Ok.sideS(h:r.Ok)(x:Rat):r.side x=r.S x:=by
 unfold RtQ.side RtQ.S RtQ.cut;by_cases hl:r.lo<r.hi
 . have k:=h.irr hl;rw[BH hl];have o:=Gf hl;by_cases c:r.lo<x/\x<r.hi
   . rw[BH c];have nz:=k.nz x (Rat.le_of_lt c.1) (Rat.le_of_lt c.2);have nb:=k.nz r.hi (Rat.le_of_lt hl) Rat.le_refl;have m:=k.mid (Rat.le_of_lt c.1) (Rat.le_of_lt c.2);rw[h.sgh];by_cases hs:DV (ev r.w x)=0\/DV (ev r.w x)=DV (ev r.w r.hi)
     . rw[BH hs];have hp:0<ev r.w x*ev r.w r.hi:=by
        rcases hs with e|e
        . exact absurd (I4.1 e) nz
        . rcases Yu (ev r.w x)with⟨d,j⟩|⟨d,_⟩|⟨d,j⟩
          . rw[j]at e;have:=UX.1 e.symm;have:=Rat.mul_pos (a:=-(ev r.w x)) (b:=-(ev r.w r.hi)) DG DG;grind
          . exact absurd d nz
          . rw[j]at e;exact Rat.mul_pos d (UW.1 e.symm)
       rw[m.2 hp];have g:=(Gf c.1).2.1;show Xf (DX r.lo x) x=-1;rw[Gx];unfold EG;rw[BH g]
     . rw[BG hs];have hn:ev r.w x*ev r.w r.hi<0:=by
        rcases Yu (ev r.w x)with⟨d,j⟩|⟨d,_⟩|⟨d,j⟩
        . rcases Yu (ev r.w r.hi)with⟨f,l⟩|⟨f,_⟩|⟨f,l⟩
          . omega
          . exact absurd f nb
          . have:=Rat.mul_pos (a:=-(ev r.w x)) (b:=ev r.w r.hi) DG f;grind
        . exact absurd d nz
        . rcases Yu (ev r.w r.hi)with⟨f,l⟩|⟨f,_⟩|⟨f,l⟩
          . have:=Rat.mul_pos (a:=ev r.w x) (b:=-(ev r.w r.hi)) d DG;grind
          . exact absurd f nb
          omega
       rw[m.1 hn];have g:=(Gf c.2).1;show Xf (DX x r.hi) x=1;exact I5.2 g
   . rw[BG c];show Xf (DX r.lo r.hi) x=_;by_cases n:x<=r.lo
     . rw[k.low n];grind[I5]
     . have g:r.hi<=x:=Rat.not_lt.1 λi=>c ⟨Rat.not_le.1 n,i⟩;rw[k.high g,Gx];unfold EG;grind
 . have k:=h.rat hl;rw[BG hl,BG λi=>by grind];show Xf (DX r.lo r.hi) x=_;rw[<-k.1,show DX r.lo r.lo=r.lo by unfold DX;grind,Gx]
def RtQ.Ok.signI(h:r.Ok)(hl:r.lo<r.hi):r.sign q=Dg r.w r.lo r.hi q:=by
 unfold RtQ.sign Ev;rw[BH hl];exact(h.irr hl).chain
def RtQ.signR(hl:¬r.lo<r.hi):r.sign q=DV (ev q r.lo):=BG hl
def RtQ.SI(hl:r.lo<r.hi):r.S=Di r.w r.lo r.hi:=funext λ_=>BH hl
def RtQ.SR(hl:¬r.lo<r.hi):r.S=EG r.lo:=funext λ_=>BG hl
theorem RtQ.Ok.order(h:r.Ok)(k:s.Ok):(r.ord s=-1/\EQ r.S s.S)\/(r.ord s=1/\EQ s.S r.S)\/(r.ord s=0/\∀x,r.S x=s.S x):=by
 unfold RtQ.ord;by_cases hs:s.lo<s.hi
 . have m:=k.irr hs;rw[BH hs,h.sideS,h.sideS,RtQ.SI hs];have F:=m.low (x:=s.lo) Rat.le_refl;have G:=m.high (x:=s.hi) Rat.le_refl;by_cases f:r.S s.lo<=0
   . rw[BH f];exact Or.inl ⟨rfl,s.lo,f,O,O⟩
   . rw[BG f];by_cases d:0<=r.S s.hi
     . rw[BH d];exact Or.inr (Or.inl ⟨rfl,s.hi,O,d,O⟩)
     . rw[BG d];have nb:=m.nz s.hi (Rat.le_of_lt hs) Rat.le_refl;have t:=h.sd.three s.lo;have u:=h.sd.three s.hi;have sg3:(s.sg=-1/\ev s.w s.hi<0)\/(s.sg=1/\0<ev s.w s.hi):=by
        rw[k.sgh];rcases Yu (ev s.w s.hi)with⟨c,l⟩|⟨c,_⟩|⟨c,l⟩
        . exact Or.inl ⟨l,c⟩
        . exact absurd c nb
        . exact Or.inr ⟨l,c⟩
       by_cases n:r.lo<r.hi
       . have w:=h.irr n;rw[h.signI n];rw[RtQ.SI n]at f d t u ⊢;have p:Di r.w r.lo r.hi s.lo=1:=O
         have v:Di r.w r.lo r.hi s.hi=-1:=O
         obtain⟨z,A,B,D⟩:=ord_lt w m p v;rcases w.sg3 s.w with e|e|e
         . grind[pN]
         . rcases sg3 with⟨g,j⟩|⟨g,j⟩
           . exact Or.inl ⟨by rw[e,g];rfl,(A e j).slt⟩
           . exact Or.inr (Or.inl ⟨by rw[e,g];rfl,(z e j).slt⟩)
         . rcases sg3 with⟨g,j⟩|⟨g,j⟩
           . exact Or.inr (Or.inl ⟨by rw[e,g];rfl,(B e j).slt⟩)
           . exact Or.inl ⟨by rw[e,g];rfl,(D e j).slt⟩
       . rw[RtQ.signR n];rw[RtQ.SR n]at f d t u ⊢;have p:EG r.lo s.lo=1:=O
         have v:EG r.lo s.hi=-1:=O
         have c:s.lo<r.lo:=I5.1 (by rw[Gx];exact p);have l:r.lo<s.hi:=IY.1 (by rw[Gx];omega);have nx:=m.nz r.lo (Rat.le_of_lt c) (Rat.le_of_lt l);have o:=m.mid (Rat.le_of_lt c) (Rat.le_of_lt l);have y:Di s.w s.lo s.hi r.lo=-1->EQ (Di s.w s.lo s.hi) (EG r.lo):=λe=>⟨r.lo,O,by unfold EG;grind,by unfold EG;grind⟩;have q:Di s.w s.lo s.hi r.lo=1->EQ (EG r.lo) (Di s.w s.lo s.hi):=λe=>⟨r.lo,by unfold EG;grind,O,by unfold EG;grind⟩;rcases Yu (ev s.w r.lo)with⟨c1,c2⟩|⟨c1,_⟩|⟨c1,c2⟩
         . rcases sg3 with⟨g,j⟩|⟨g,j⟩
           . refine Or.inr (Or.inl ⟨by rw[c2,g];rfl,y (o.2 ?_)⟩);have:=Rat.mul_pos (a:=-(ev s.w r.lo)) (b:=-(ev s.w s.hi)) DG DG;grind
           . refine Or.inl ⟨by rw[c2,g];rfl,q (o.1 ?_)⟩;have:=Rat.mul_pos (a:=-(ev s.w r.lo)) (b:=ev s.w s.hi) DG j;grind
         . exact absurd c1 nx
         . rcases sg3 with⟨g,j⟩|⟨g,j⟩
           . refine Or.inl ⟨by rw[c2,g];rfl,q (o.1 ?_)⟩;have:=Rat.mul_pos (a:=ev s.w r.lo) (b:=-(ev s.w s.hi)) c1 DG;grind
           grind[Rat.mul_pos]
 . rw[BG hs,h.sideS,RtQ.SR hs];have H:EG s.lo s.lo=0:=by unfold EG;rw[BG Rat.lt_irrefl,BG Rat.lt_irrefl]
   rcases h.sd.three s.lo with e|e|e
   . exact Or.inl ⟨e,s.lo,O,O,O⟩
   . refine Or.inr (Or.inr ⟨e,λx=>?_⟩);rcases(show x<s.lo\/x=s.lo\/s.lo<x by grind)with j|j|j
     . have f:=h.sd.three x;have d:¬r.S x<=0:=λi=>by have:=h.sd.mono x s.lo j i;omega
       grind[EG]
     . rw[j];omega
     . have d:=h.sd.mono s.lo x j O;grind[EG]
   . exact Or.inr (Or.inl ⟨e,s.lo,O,O,O⟩)
theorem RtQ.Ok.ord_lt(h:r.Ok)(k:s.Ok):r.ord s<0↔EQ r.S s.S:=by
 rcases h.order k with⟨e,i⟩|⟨e,i⟩|⟨e,i⟩
 . grind
 . exact⟨λ_=>by omega,λj=>absurd j (EQ.asymm k.sd h.sd i)⟩
 . refine⟨λ_=>by omega,λj=>?_⟩;rw[show r.S=s.S from funext i]at j;exact absurd j EQ.irr
def RtQ.Ok.ord_self(h:r.Ok):r.ord r=0:=by
 rcases h.order h with⟨_,j⟩|⟨_,j⟩|⟨e,_⟩
 . exact absurd j EQ.irr
 . exact absurd j EQ.irr
 . exact e
end
end
namespace M3
attribute [local go_sem] Oper.semAt_some
def pt:Sq 1:=Sq.of (show DQ 1 1 from⟨Sm.one 1 O,Sm.one 1 O⟩) O
theorem pu(L:C)(q:Rat)(w:E)(D:Jg w L q)(K:Sq q):
 Calls Tryz.prog 243 #[L] w λe w'=>∃u,e=.returned u/\Jg w' u (Yg q)/\Bl w w':=by
 obtain⟨bf,U,ay,ai,bi,ae,ap,am,rfl⟩:=Jg.form D;obtain⟨W0,N,g⟩:=K5 41 (.rat q) D 41 (.rat 0) (Xx _);have H:=Z K;clear D K;go_enter Tryz.func243,Tryz.ntmps243
 go_upto_region 1 with fail
 rw[N.o];obtain⟨s1,S,l1,c1,t1,X,k1,d1,v,r1,Q,R⟩:=g.o.rat (i:=0) rfl;obtain⟨s,j,m,r⟩:=v.cq;obtain⟨s2,T,l2,c2,t2,b2,k2,d2,a,r2,i2,j2⟩:=g.o.rat (i:=1) rfl;obtain⟨b,c,f,d⟩:=a.cq;obtain⟨l,k,p,o⟩:=a.fq;obtain⟨x,F,M⟩:=DY (UZ _ q W0 r1 H.o) (λ(V:E) (h:Bl W0 V)=>I3 _ _ 0 q V (Xx _) (r1.below h) FV H.o) r1;obtain⟨n,hn⟩:=ex (DV q);rw[hn]at x;have G:=Z hn;clear hn r1 Q R;by_cases I:n<0
 . have y:=Z (show 0-q=Yg q by
    have B:=(N8 q).1 (by rw[Ns,G.o];exact I);unfold Yg;rw[BH B];grind)
   rw[y.o]at F;go_wp2_with(first
    |(go_at_call 162;refine x.o.mono ?_;rintro e w1 ⟨rfl,hq⟩;clear s j m r;obtain⟨s,j,m,r⟩:=(v.below hq).cq;clear b c f d;obtain⟨b,c,f,d⟩:=(a.below hq).cq;clear l k p o;obtain⟨l,k,p,o⟩:=(a.below hq).fq)
    |(go_at_call 41;refine(F.o _ hq).mono ?_;rintro e w2 ⟨u2,rfl,t,P⟩;obtain⟨bg,W,az,aj,bj,ah,aq,an,rfl⟩:=Jg.form t;have hq:=Bt hq P;clear s j m r;obtain⟨s,j,m,r⟩:=(v.below hq).cq;clear b c f d;obtain⟨b,c,f,d⟩:=(a.below hq).cq;clear l k p o;obtain⟨l,k,p,o⟩:=(a.below hq).fq))
   have A:=Bt g.o.2.2 hq;have z:=g.o.ge 1 rfl;exact BC (by simp[results,Tryz.results243,go_sem,b,c,f,d]) rfl ⟨_,rfl,t.put4 (a.below hq) rfl rfl rfl rfl _ _ _ _,Jt A z _ _ _ _⟩
 . have y:=Z (show Yg q=q by
    have B:¬q<0:=λh=>I (by rw[<-G.o,<-Ns];exact(N8 q).2 h);unfold Yg;rw[BG B])
   go_wp2_with(go_at_call 162;refine x.o.mono ?_;rintro e w1 ⟨rfl,hq⟩;clear s j m r;obtain⟨s,j,m,r⟩:=(v.below hq).cq;clear b c f d;obtain⟨b,c,f,d⟩:=(a.below hq).cq;clear l k p o;obtain⟨l,k,p,o⟩:=(a.below hq).fq)
   have t:=M.o.below hq;rw[<-y.o]at t;have A:=Bt g.o.2.2 hq;have z:=g.o.ge 1 rfl;exact BC (by simp[results,Tryz.results243,go_sem,b,c,f,d]) rfl ⟨_,rfl,t.put4 (a.below hq) rfl rfl rfl rfl _ _ _ _,Jt A z _ _ _ _⟩
def px(X vb:C)(p q:Rat)(w:E)(I:Jg w X p)(K:Jg w vb q)(T:Sq p)(U:Sq q):
 Calls Tryz.prog 242 #[X,vb] w λe w'=>∃u,e=.returned u/\Jg w' u (Ij p q)/\Bl w w':=by
 obtain⟨s,a,l,c,t,b,k,d,rfl⟩:=Jg.form I;obtain⟨s',a',l',c',t',b',k',d',rfl⟩:=Jg.form K;obtain⟨W0,ae,g⟩:=Hw 41 (.rat p) I 41 (.rat q) K 41 (.rat 0) (Xx _);have Qc:=Z T;have Qb:=Z U;clear I K T U;go_enter Tryz.func242,Tryz.ntmps242
 go_upto_region 1 with fail
 rw[ae.o];obtain⟨s1,a1,l1,c1,t1,b1,k1,d1,L,r1,_,_⟩:=g.o.rat (i:=0) rfl;obtain⟨s2,a2,l2,c2,t2,b2,k2,d2,M,N,_,_⟩:=g.o.rat (i:=1) rfl;obtain⟨s3,a3,l3,c3,t3,b3,k3,d3,W,_,_,_⟩:=g.o.rat (i:=2) rfl;have D:=Z (XT _ _ p q W0 r1 N Qc.o Qb.o);obtain⟨n,hn⟩:=ex (Xf p q);rw[hn]at D;obtain⟨Q,R,P⟩:=DY hn (And.intro r1 N) λ(V:E) (h:Bl W0 V)=>And.intro (L.below h) (And.intro (M.below h) (W.below h));obtain⟨y,z,A,B⟩:=L.cq;obtain⟨j,m,o,r⟩:=M.cq;clear hn r1 N L M W;by_cases S:n<0
 . have F:=Z (show Ij p q=q from BH (IY.1 (by rw[Q.o];exact S)));go_upto_region 2 with(go_at_call 32;refine D.o.mono ?_;rintro e w1 ⟨rfl,hq⟩;clear y z A B j m o r;obtain⟨_,x,f⟩:=P.o _ hq;obtain⟨y,z,A,B⟩:=x.cq;obtain⟨j,m,o,r⟩:=f.cq;obtain⟨f5,f6,f7,f8⟩:=f.fq;have G:=Z f;clear x f)
   go_wp2_with fail
   have v:=R.o.2.below hq;rw[<-F.o]at v;have H:=Bt g.o.2.2 hq;exact BC (by simp[results,Tryz.results242,go_sem,j,m,o,r]) rfl ⟨_,rfl,v.put4 G.o rfl rfl rfl rfl _ _ _ _,Jt H (g.o.ge 2 rfl) _ _ _ _⟩
 . have F:=Z (show Ij p q=p from BG λh=>S (by rw[<-Q.o];exact IY.2 h));go_upto_region 3 with(go_at_call 32;refine D.o.mono ?_;rintro e w1 ⟨rfl,hq⟩;clear y z A B j m o r;obtain⟨x,_,f⟩:=P.o _ hq;obtain⟨y,z,A,B⟩:=x.cq;obtain⟨j,m,o,r⟩:=f.cq;obtain⟨f5,f6,f7,f8⟩:=f.fq;have G:=Z f;clear x f)
   go_wp2_with fail
   have v:=R.o.1.below hq;rw[<-F.o]at v;have H:=Bt g.o.2.2 hq;exact BC (by simp[results,Tryz.results242,go_sem,j,m,o,r]) rfl ⟨_,rfl,v.put4 G.o rfl rfl rfl rfl _ _ _ _,Jt H (g.o.ge 2 rfl) _ _ _ _⟩
end M3
def Yk(W:E)(v:C)(a b:Rat):Prop:=∃x0 x1 x2 x3 y0 y1 y2 y3,v=.agg #[x0,x1,x2,x3,y0,y1,y2,y3]/\Jg W (.agg #[x0,x1,x2,x3]) a/\Jg W (.agg #[y0,y1,y2,y3]) b
def JI(W:E)(v:C)(r:RtQ):Prop:=∃x0 x1 x2 x3 y0 y1 y2 y3 a c b,v=.agg #[x0,x1,x2,x3,y0,y1,y2,y3,.slice a c b,.int .i64 r.sg,.int .i64 (r.tm:Int)]/\Jg W (.agg #[x0,x1,x2,x3]) r.lo/\Jg W (.agg #[y0,y1,y2,y3]) r.hi/\Jd W (.agg #[.slice a c b]) r.w
section
variable {V W:World} {v:Value} {a b:Rat} {r:RtQ}
def Yk.below(h:Yk V v a b)(c:Bl V W):Yk W v a b:=by
 obtain⟨x0,x1,x2,x3,y0,y1,y2,y3,e,d,f⟩:=h;exact⟨x0,x1,x2,x3,y0,y1,y2,y3,e,d.below c,f.below c⟩
def JI.below(h:JI V v r)(a:Bl V W):JI W v r:=by
 obtain⟨x0,x1,x2,x3,y0,y1,y2,y3,f,i,g,e,b,c,d⟩:=h;exact⟨x0,x1,x2,x3,y0,y1,y2,y3,f,i,g,e,b.below a,c.below a,d.below a⟩
structure Kp(V W:World):Prop where
 row:∀k v ds,Row k V v ds->Row k W v ds
 rowK:∀v qs,RowK true V v qs->RowK true W v qs
def Kp.rat(k:Kp V W){v:C}{q:Rat}(h:Jg V v q):Jg W v q:=EI.keep (r:=true) h k.row
def Kp.int(k:Kp V W){v:C}{z:Int}(h:Ji V v z):Ji W v z:=by
 obtain⟨a,l,c,e,b⟩:=h;exact⟨a,l,c,e,k.row _ _ _ b⟩
def Kp.poly(k:Kp V W){v:C}{p:List Rat}(h:Jd V v p):Jd W v p:=by
 obtain⟨u,e,h⟩:=h;exact⟨u,e,k.rowK _ _ h⟩
def Kp.span(k:Kp V W)(h:Yk V v a b):Yk W v a b:=by
 obtain⟨x0,x1,x2,x3,y0,y1,y2,y3,e,c,d⟩:=h;exact⟨x0,x1,x2,x3,y0,y1,y2,y3,e,k.rat c,k.rat d⟩
def Kp.root(k:Kp V W)(h:JI V v r):JI W v r:=by
 obtain⟨x0,x1,x2,x3,y0,y1,y2,y3,d,g,f,e,a,b,c⟩:=h;exact⟨x0,x1,x2,x3,y0,y1,y2,y3,d,g,f,e,k.rat a,k.rat b,k.poly c⟩
def Kp.trans{U:E}(h:Kp V W)(k:Kp W U):Kp V U:=⟨λa b c d=>k.row a b c (h.row a b c d),λa b c=>k.rowK a b (h.rowK a b c)⟩
def Kp.of_below(a:Bl V W):Kp V W:=⟨λ_ _ _ h=>Row.below h a,λ_ _ h=>RowK.below h a⟩
end
namespace M3
section
variable {V W:World} {B:Nat} {t:TypeId} {cs:Array Value}
variable{x0 x1 x2 x3 y0 y1 y2 y3:C}
def Bx.c(h:Bx V B t cs){i:Nat}{x:C}(e:cs[i]?=some x):V.cell? ⟨B,i,none⟩=some x:=by simp[World.cell?,show V.heap[B]?=_ from h,e]
def Bx.new(V:E)(t:TypeId)(cs:Array C):Bx (V.alloc (.cells cs t)) V.heap.size t cs:=BF V _
def Bx.alloc(h:Bx V B t cs)(o:Obj):Bx (V.alloc o) B t cs:=h.below (Ba V o)
def Bx.set(h:Bx V B t cs)(i:Nat)(x:C):Bx (V.setCell ⟨B,i,none⟩ x) B t (cs.setIfInBounds i x):=Yb h x
def Bx.r4(h:Bx V B t #[x0,x1,x2,x3]):V.cell? ⟨B,0,none⟩=some x0/\V.cell? ⟨B,1,none⟩=some x1/\V.cell? ⟨B,2,none⟩=some x2/\V.cell? ⟨B,3,none⟩=some x3:=⟨h.c rfl,h.c rfl,h.c rfl,h.c rfl⟩
def Bx.s8(h:Bx V B t #[x0,x1,x2,x3,y0,y1,y2,y3]):V.cell? ⟨B,0,none⟩=some x0/\V.cell? ⟨B,1,none⟩=some x1/\V.cell? ⟨B,2,none⟩=some x2/\V.cell? ⟨B,3,none⟩=some x3/\V.cell? ⟨B,4,none⟩=some y0/\V.cell? ⟨B,5,none⟩=some y1/\V.cell? ⟨B,6,none⟩=some y2/\V.cell? ⟨B,7,none⟩=some y3:=⟨h.c rfl,h.c rfl,h.c rfl,h.c rfl,h.c rfl,h.c rfl,h.c rfl,h.c rfl⟩
def Bx.r11{p s u:C}(h:Bx V B t #[x0,x1,x2,x3,y0,y1,y2,y3,p,s,u]):(V.cell? ⟨B,0,none⟩=some x0/\V.cell? ⟨B,1,none⟩=some x1/\V.cell? ⟨B,2,none⟩=some x2/\V.cell? ⟨B,3,none⟩=some x3)/\(V.cell? ⟨B,4,none⟩=some y0/\V.cell? ⟨B,5,none⟩=some y1/\V.cell? ⟨B,6,none⟩=some y2/\V.cell? ⟨B,7,none⟩=some y3)/\V.cell? ⟨B,8,none⟩=some p/\V.cell? ⟨B,9,none⟩=some s/\V.cell? ⟨B,10,none⟩=some u:=⟨⟨h.c rfl,h.c rfl,h.c rfl,h.c rfl⟩,⟨h.c rfl,h.c rfl,h.c rfl,h.c rfl⟩,h.c rfl,h.c rfl,h.c rfl⟩
def KF(w:E)(c d:TypeId)(a b:Array C):∃W,(w.alloc (.cells a c)).alloc (.cells b d)=W/\Bx W w.heap.size c a/\Bx W (w.heap.size+1) d b/\Bl w W:=by
 have e:=Bx.new (w.alloc (.cells a c)) d b;simp only[Ax]at e;exact⟨_,rfl,(Bx.new w c a).alloc _,e,(Ba w _).alloc (by simp only[Ax];omega) _⟩
def ZF(w:E)(d e f:TypeId)(a b c:Array C):∃W,((w.alloc (.cells a d)).alloc (.cells b e)).alloc (.cells c f)=W/\Bx W w.heap.size d a/\Bx W (w.heap.size+1) e b/\Bx W (w.heap.size+1+1) f c/\Bl w W:=by
 have g:=Bx.new (w.alloc (.cells a d)) e b;have i:=Bx.new ((w.alloc (.cells a d)).alloc (.cells b e)) f c;simp only[Ax]at g i;exact⟨_,rfl,((Bx.new w d a).alloc _).alloc _,g.alloc _,i,((Ba w _).alloc (by simp only[Ax];omega) _).alloc (by simp only[Ax];omega) _⟩
end
end M3

