import Derived.Test.YtdmmbgahnkbnaaaGreatDoorT38
set_option linter.all false
set_option maxRecDepth 99999
set_option maxHeartbeats 0
namespace Go.Proofs.YtdmmbgahnkbnaaaGreatDoor
open Tryz
theorem pi{a b c:Rat}(h:0<a*b):c*a<0↔c*b<0:=by
 by_cases c0:c=0
 . subst c0;simp
 . obtain⟨a0,b0⟩:=Jz h;rw[Re c0 a0,Re c0 b0]
   have:¬(a*b<0):=DK
   rw[Re a0 b0]at this;grind
def Gj:List Rat->Rat
 |[]=>0
 |c::t=>if c=0 then Gj t else c
theorem ZF(t:List Rat):∀(a v:Rat),0<v*Gj t->Xf a t=(if a*v<0 then 1 else 0)+Xf v t:=by
 induction t with
 |nil=>intro a v h;simp[Gj]at h
 |cons c t b=>
  intro a v h;grind[Gj,Xf,pi]
def Il:Rat->List Rat->Rat
 |a,[]=>a
 |a,b::l=>if b=0 then Il a l else Il b l
theorem pj(l:List Rat):∀a b:Rat,Xf a (l++[b])=Xf a l+(if Il a l*b<0 then 1 else 0):=by
 induction l with
 |nil=>
  intro a b;rw[Am,Il];by_cases b0:b=0
  . subst b0;simp[Xf]
  . rw[XZ b0];simp[Xf]
 |cons c l d=>
  intro a b;grind[Il,Xf]
theorem pk(l:List Rat):∀a b:Rat,Il a (l++[b])=if b=0 then Il a l else b:=by
 induction l with
 |nil=>intro a b;rfl
 |cons c l d=>
  intro a b;grind[Il]
def pm(l:List Rat):Il 0 l.reverse=Gj l:=by
 induction l with
 |nil=>rfl
 |cons c t a=>rw[List.reverse_cons,pk,a,Gj]
theorem ZG(l:List Rat):Gj l=0->∀a,Xf a l=0:=by
 induction l with
 |nil=>intro _ a;rfl
 |cons c t b=>
  intro h a;grind[Gj,Xf]
theorem pn(l:List Rat):DP l.reverse=DP l:=by
 induction l with
 |nil=>rfl
 |cons c t a=>
  rw[List.reverse_cons];show Xf 0 (t.reverse++[c])=Xf 0 (c::t);rw[pj,pm];have a:Xf 0 t.reverse=Xf 0 t:=a;rw[a];by_cases c0:c=0
  . subst c0;rw[Xf,BF J,CZ,BE DN];rfl
  . rw[XZ c0,A6,BE (show ¬(0:Rat)<0 by decide)];by_cases f0:Gj t=0
    . rw[f0,A6,BE (show ¬(0:Rat)<0 by decide),ZG t f0,ZG t f0]
    . have ff:0<Gj t*Gj t:=by
       have:=XG (f:=[Gj t]) f0 (λx=>Jo _ x) 0 0;unfold Stb at this;rwa[Jo]at this
      have b:=ZF t 0 (Gj t) ff;grind[ZF]
def Im(a b:Rat):Rat:=if a<b then b else a
def EH(p:List Rat):Nat->Rat
 |0=>0
 |n+1=>Im (EH p n) (Yt (cf p n/cf p (p.length-1)))
def Yh(p:List Rat):Rat:=EH p (p.length-1)+1
theorem ZH(p:List Rat)(n:Nat):0<=EH p n:=by
 induction n with
 |zero=>exact Rat.le_refl
 |succ n a=>
  rw[EH,Im];grind
theorem po(p:List Rat)(n:Nat):∀i,i<n->Yt (cf p i/cf p (p.length-1))<=EH p n:=by
 induction n with
 |zero=>intro i h;omega
 |succ n a=>
  intro i h;grind[EH,Im]
theorem pq{p:List Rat}(tp:Jc p=p)(p0:p≠[])(i:Nat)(h:i+1<p.length):Wi (EH p (p.length-1)*(cf p (p.length-1)*cf p (p.length-1))) (cf p (p.length-1)*cf p i):=by
 have d:=po p (p.length-1) i O;have j:=Ju tp p0;generalize EH p (p.length-1)=M at *;generalize cf p (p.length-1)=k at *;generalize cf p i=c at *;have e:c=c/k*k:=(Ak j).symm;obtain⟨r,g⟩:=ex (c/k);rw[g]at d e;have l:-M<=r/\r<=M:=by
  unfold Yt at d;grind
 have f:=Xg k;have m:=Rat.mul_nonneg (a:=M-r) (b:=k*k) DK f;have n:=Rat.mul_nonneg (a:=M+r) (b:=k*k) DK f;rw[e];constructor<;>grind
theorem Mk(p:List Rat):0<Yh p:=by
 have:=ZH p (p.length-1);unfold Yh;grind
theorem pt{k v:Rat}(c:k≠0)(h:k*k<=k*v):k*k<=v*v:=by
 have d:0<k*k:=by
  have:=XG (f:=[k]) c (λx=>Jo _ x) 0 0;unfold Stb at this;rwa[Jo]at this
 have e:=Rat.mul_nonneg (a:=k*v-k*k) (b:=k*v+k*k) DK DK;rcases JX (k*k) (v*v)with h|h
 . exact h
 . rcases Rat.le_iff_lt_or_eq.1 h with h|h
   . have:=Rat.mul_pos (a:=k*k) (b:=k*k-v*v) d DK;grind
   . grind
theorem sq_pow{s:Rat}(hs:s*s=1)(n:Nat):s^n*s^n=1:=by
 induction n with
 |zero=>grind
 |succ n a=>rw[Rat.pow_succ];grind
theorem ZI{p:List Rat}(tp:Jc p=p)(p0:p≠[]){s:Rat}(hs:s*s=1){x:Rat}(b:Yh p<=x):cf p (p.length-1)*cf p (p.length-1)<=ev p (s*x)*ev p (s*x):=by
 have c:=Ju tp p0;have h:=pQ hs (ZH p (p.length-1)) p tp p0 _ J (pq tp p0) x (by unfold Yh at b;grind);have e:=sq_pow hs (p.length-1);generalize s^(p.length-1)=r at *;generalize cf p (p.length-1)=k at *;generalize ev p (s*x)=v at *;have:=pt (k:=k) (v:=r*v) c DK;have a:r*v*(r*v)=(r*r)*(v*v):=DK
 rw[a,e,Cs]at this;exact this
def ZJ{p:List Rat}(tp:Jc p=p)(p0:p≠[]):0<cf p (p.length-1)*cf p (p.length-1):=by
 have:=XG (f:=[cf p (p.length-1)]) (Ju tp p0) (λx=>Jo _ x) 0 0;unfold Stb at this;rwa[Jo]at this
theorem pu{p:List Rat}(tp:Jc p=p)(p0:p≠[]):DP (JF (Jq p) (Yh p))=DP (EW (Jq p)):=by
 obtain⟨B,e,c,_⟩:=Y9 (Yd tp p0);have b0:=Mk p;have:=ZD tp p0 (ZJ tp p0) (a:=Yh p) (b:=Yh p+B) (by clear c;grind) (λx d _=>by
  have:=ZI tp p0 (s:=1) DK d;rwa[Cs]at this)
 grind
theorem pv{p:List Rat}(tp:Jc p=p)(p0:p≠[]):DP (JF (Jq p) (-(Yh p)))=DP (X2 (Jq p)):=by
 obtain⟨B,d,_,c⟩:=Y9 (Yd tp p0);have b0:=Mk p;have:=ZD tp p0 (ZJ tp p0) (a:=-(Yh p+B)) (b:=-(Yh p)) (by clear c;grind) (λx _ e=>by
  have:=ZI tp p0 (s:=-1) DK (x:=-x) (by clear c;grind);rwa[show(-1:Rat)*-x=x by clear c;grind]at this)
 grind
def nA(p:List Rat):Int:=(DP (X2 (Jq p)):Int)-(DP (EW (Jq p)):Int)
def nB(p:List Rat)(x:Rat):Int:=(DP (X2 (Jq p)):Int)-(DP (JF (Jq p) x):Int)
section
variable {p q:List Rat} (tp:Jc p=p) (p0:p≠[]) (tq:Jc q=q) (q0:q≠[])
def px(tp:Jc p=p)(p0:p≠[])(tq:Jc q=q)(q0:q≠[]):nA (Ji p q)=nA p+nA q-nA (Jr p q):=by
 have h:=pL tp p0 tq q0;unfold nA;omega
end
theorem py{p:List Rat}(tp:Jc p=p)(p0:p≠[]){F:Rat->Nat}(h:∀ {B:Rat},0<=B->Sh B λx z=>F x+J3 (DO p) x z=F z){u d:Nat}{X:Rat}(r:∀x,X<=x->F x=u)(q:∀x,x<=-X->F x=d):nA p=(u:Int)-(d:Int)/\∀x,nB p x=(F x:Int)-(d:Int):=by
 have g:∀a b,a<=b->DP (JF (Jq p) a)+F a=DP (JF (Jq p) b)+F b:=λa b j=>by
  obtain⟨A,k,hA⟩:=JN a;obtain⟨C,m,hC⟩:=JN b;have f:0<=A+C:=DK
  exact ZE (P:=λx z=>DP (JF (Jq p) x)+F x=DP (JF (Jq p) z)+F z) (λ_=>rfl) (λ_ _ _ c e=>c.trans e)
   (((Rc tp p0 f).and (h f)).mono λx z _ _ _ ⟨c,e⟩=>by show _=_;omega) (hA.mono DK) (hC.mono DK) j
 obtain⟨B,l,c,e⟩:=Y9 (Yd tp p0);obtain⟨n,o,i⟩:=JN X;have y1:=i.1;grind[nA,nB]
def Rf:nA [1]=0/\∀x,nB [1] x=0:=by
 have t:Jc [(1:Rat)]=[1]:=DN
 refine py t DL (F:=λ_=>0) (λb=>Sh.all λx z _ _ _=>?_) (u:=0) (d:=0) (X:=0) (λ_ _=>rfl) (λ_ _=>rfl) |> λh=>⟨by rw[h.1];rfl,λx=>by rw[h.2 x];rfl⟩
 show 0+J3 (DO [1]) x z=0;have a:=YV t DL;have:=(a.dv.len a.tw a.tR a.R0).1;rw[XW t]at this;rw[X3 (RE a.tw a.w0 (by simpa using this) x z)]
structure Made(p:List Rat)(R:List Rat):Prop where
 tp:Jc p=p
 p0:p≠[]
 all:nA p=(R.length:Int)
 bel:∀x,nB p x=((R.filter λr=>decide (r<=x)).length:Int)
 rt:∀r,ev p r=0↔r∈R
section
variable{B k:Rat}
def ZK{w:List Rat}(h:Df w)(a:0<=B):Sh B λx z=>¬Stb w x z->x<z->0<ev (Jb w) x*(ev w z-ev w x):=by
 obtain⟨u,v,c⟩:=h;obtain⟨U,l,b⟩:=XN u a;have d:U*(1/4/U)=1/4:=by rw[AX,Ak DK]
 refine rise_of (y:=v) (k:=3/4) a DK ((Xe w a (Yk Hc l)).mono λx z i j _ e hn=>?_);obtain⟨f,g⟩:=e hn;exact⟨KP (c x) (b x i) f (by rw[d];exact Rat.le_refl),KP (c z) (b z j) g (by rw[d];exact Rat.le_refl)⟩
theorem pz{g:List Rat}:∀(n:Nat) (a b:List Rat),b.length<=n->Jc b=b->Dv g a->Dv g b->∀p∈EQ a b,Dv g p:=by
 intro n;induction n with
 |zero=>
  intro a b hn _ d _ p hp
  have:b=[]:=Al.1 O
  subst this;rw[KE,List.mem_singleton]at hp;rw[hp];exact d
 |succ n k=>
  intro a b hn tb d e p hp;by_cases b0:b=[]
  . subst b0;rw[KE,List.mem_singleton]at hp;rw[hp];exact d
  . rw[XI tb b0]at hp;rcases Fu.1 hp with hp|hp
    . rw[hp];exact d
    . have hl:=Xi (a:=a) tb b0;obtain⟨q,c,c0,j⟩:=RV (a:=a) tb b0;refine k b (XF a b) O (Ig _ _) e (d.comb e [-(Ea a b/c)] (Ji [1/c] q) λx=>?_) p hp;rw[Jo,Je,Jo];have l:=j x;have f:1/c*c=1:=Ak DK;have i:Ea a b/c=1/c*Ea a b:=by rw[FM,FM,Cs,AX]
      rw[i];have m:ev (XF a b) x=1/c*(c*ev (XF a b) x):=by rw[<-Rat.mul_assoc,f,Cs]
      grind
theorem p5(hk:k≠0):∀(l:List Rat) (a:Rat),Xf (k*a) (l.map λx=>k*x)=Xf a l:=by
 intro l;induction l with
 |nil=>intro a;rfl
 |cons b l c=>
  intro a;rw[List.map_cons];by_cases b0:b=0
  . rw[b0,CZ,Xf,Xf,BF J,BF J,c]
  . have kb:k*b≠0:=λe=>by rcases A2.1 e with e|e;exact hk e;exact b0 e
    rw[XZ kb,XZ b0,c];have e:k*a*(k*b)=(k*k)*(a*b):=DK
    have d:0<k*k:=by
     rcases Rat.le_iff_lt_or_eq.1 (Xg k)with h|h
     . exact h
     . rcases A2.1 h.symm with h|h<;>exact absurd h hk
    by_cases hn:a*b<0
    . rw[BF hn,BF (by rw[e];have:=Rat.mul_pos d (show 0 < -(a*b)by grind);grind)]
    . rw[BE hn,BE (by rw[e];have:=Rat.mul_nonneg (a:=k*k) (b:=a*b) DK DK;grind)]
def ZL(hk:k≠0)(l:List Rat):DP (l.map λx=>k*x)=DP l:=by
 have:=p5 hk l 0;rwa[CZ]at this
theorem Xs{a b:Rat}(h:0<a)(c:0<a*b):0<b:=by
 rcases JX b 0 with q|q
 . have:=Rat.mul_nonneg (a:=a) (b:=-b) DK DK;grind
 . rcases Rat.le_iff_lt_or_eq.1 q with q|q
   . exact q
   . rw[<-q]at c;grind
theorem Ku{a b:Rat}(h:0<a)(c:a*b<0):b<0:=by
 have:=Xs (a:=a) (b:=-b) h DK;grind
def ZM{a b:Rat}(h:a<0)(c:a*b<0):0<b:=Xs (a:=-a) (b:=b) DK DK
theorem p6{A C d:Rat}(h:0<d*(C-A))(c:A*C<0):A*d<0:=by
 have e:=Rat.mul_pos h (show 0<A*A-A*C by have:=Xg A;grind);have f:=Xb (a:=C-A) (b:=-(A*d)) DK;grind
def EX(w q:List Rat):List (List Rat):=EQ w (Ji (Jb w) q)
structure TkG(w q g:List Rat):Prop where
 tg:Jc g=g
 g0:g≠[]
 dw:Dv g w
 dq:Dv g q
 all:∀d,Dv d w->Dv d q->Dv d g
 cop:DT (Jm w g) q
 stay:∀ {B:Rat},0<=B->Sh B λx z=>Stb w x z->DP (JF (EX w q) x)=DP (JF (EX w q) z)
 step:∀ {B:Rat},0<=B->Sh B λx z=>ev w x*ev w z<0->(ev g x*ev g z<0/\DP (JF (EX w q) x)=DP (JF (EX w q) z))\/
  (Stb g x z/\Stb q x z/\((0<ev q x/\DP (JF (EX w q) x)=DP (JF (EX w q) z)+1)\/(ev q x<0/\DP (JF (EX w q) x)+1=DP (JF (EX w q) z))))
theorem p9{w q:List Rat}(tw:Jc w=w)(w0:w≠[])(hs:Df w):∃g,TkG w q g:=by
 have tb:=Jv (Jb w) q;obtain⟨g,_,tg,g0,m,E,h4,hD⟩:=Mf _ w (Ji (Jb w) q) (Aa _) tw tb w0;have k:=(JL tg g0 m).2;have G:=(JL tg g0 E).2;have R:∀p∈EX w q,∀x,ev p x=ev g x*ev (Jm p g) x:=λp hp x=>(JL tg g0 (pz _ w _ (Aa _) tb m E p hp)).2 x;have hv:∀x,ev g x≠0->DP (JF (EX w q) x)=DP (JF ((EX w q).map λp=>Jm p g) x):=λx l=>by
  rw[<-ZL l (JF ((EX w q).map λp=>Jm p g) x)];congr 1;unfold JF;rw[Fw,Fw];exact Cb λp hp=>R p hp x
 have V:w=Ji g (Jm w g):=YO tw (Jv _ _) λx=>by rw[Je];exact k x
 have H:DT (Jm w g) g:=(Df.parts (a:=g) (b:=Jm w g) (by rw[<-V];exact hs)).symm;have dq:Dv g q:=by
  have c1:DT g (Jb w):=DT.of_dv hs m;exact c1.dv E
 obtain⟨t,i⟩:=chnL_head w (Ji (Jb w) q);have j:StC (Jm w g::t.map λp=>Jm p g):=by
  have:=hD;rw[i,List.map_cons]at this;exact this
 have o:(EX w q).map (λp=>Jm p g)=Jm w g::t.map λp=>Jm p g:=by
  unfold EX;rw[i,List.map_cons]
 have es:∀n y,t=n::y->n=Ji (Jb w) q:=λn y e=>by
  rw[e]at i;have b0:Ji (Jb w) q≠[]:=λe=>by
   rw[e,KE]at i;cases i
  rw[XI tb b0]at i;obtain⟨t2,ae⟩:=chnL_head (Ji (Jb w) q) (XF w (Ji (Jb w) q));rw[ae]at i;injection i with _ i
  injection i with i _
  exact i.symm
 have F:DT (Jm w g) q:=by
  match t,j,es with
  |[],j,_=>
   obtain⟨⟨c,c0,u⟩⟩:=j;refine⟨[1/c],[],λx=>?_⟩;rw[Jo,u]
   have:1/c*c=1:=Ak c0
   simp[ev];grind
  |n::y,j,es=>
   obtain rfl:=es n y J;have U:DT (Jm w g) (Jm (Ji (Jb w) q) g):=j.cop;exact DT.right (b:=Jb w) ((H.mul U).ext (λ_=>rfl) λx=>by rw[Je g,G x])
 refine⟨g,tg,g0,m,dq,λd d1 W=>h4 d d1 (W.mul' (Jb w)),F,fun {B} s=>?_,fun {B} s=>?_⟩
 . refine((j.gd s).and (Mj H s)).mono λx z _ _ _ hh f=>?_;have hg:=hh.1;have C:=hh.2;have e:ev w x*ev w z=(ev g x*ev g z)*(ev (Jm w g) x*ev (Jm w g) z):=by rw[k x,k z];grind
   unfold Stb at f C;rw[e]at f;obtain⟨v,n2⟩:=Jz f;have su:Stb (Jm w g) x z:=by
    unfold Stb;rcases C with h|h
    . exact h
    . exact Xs h f
   have l:ev g x≠0:=λe=>v (by rw[e,A6]);have A:ev g z≠0:=λe=>v (by rw[e,CZ]);rw[hv x l,hv z A,o];exact hg.stay su
 . match t,j,o,es with
   |[],j,o,_=>
    obtain⟨⟨c,c0,u⟩⟩:=j;refine(Sh.all λx z _ _ _ f=>Or.inl ?_);have e:ev w x*ev w z=(ev g x*ev g z)*(c*c):=by rw[k x,k z,u,u];grind
    rw[e]at f;have c2:0<c*c:=by
     rcases Rat.le_iff_lt_or_eq.1 (Xg c)with h|h
     . exact h
     . rcases A2.1 h.symm with h|h<;>exact absurd h c0
    have r:ev g x*ev g z<0:=Ku c2 DK;obtain⟨l,A⟩:=O7 r;refine⟨r,?_⟩;rw[hv x l,hv z A,o];show DP [ev (Jm w g) x]=DP [ev (Jm w g) z];rw[u,u]
   |n::y,j,o,es=>
    obtain rfl:=es n y J;refine(((j.gd s).and (Mj F s)).and (ZK hs s)).mono λx z _ _ ah hh f=>?_;have hg:=hh.1.1;have C:=hh.1.2;have hr:=hh.2;have e:ev w x*ev w z=(ev g x*ev g z)*(ev (Jm w g) x*ev (Jm w g) z):=by rw[k x,k z];grind
    have S:x<z:=by
     rcases Rat.le_iff_lt_or_eq.1 ah with h|h
     . exact h
     . rw[<-h]at f;have:=Xg (ev w x);grind
    have ai:=p6 (hr (λh=>by unfold Stb at h;grind) S) f;rw[e]at f;obtain⟨v,n2⟩:=O7 f;have l:ev g x≠0:=λe=>v (by rw[e,A6]);have A:ev g z≠0:=λe=>v (by rw[e,CZ]);rw[hv x l,hv z A,o];by_cases r:ev g x*ev g z<0
    . exact Or.inl ⟨r,hg.stay (ZM r f)⟩
    . have L:0<ev g x*ev g z:=by
       rcases Rat.le_iff_lt_or_eq.1 (Rat.not_lt.1 r)with h|h
       . exact h
       . exact absurd h.symm v
      have un:=Ku L f;have M:¬Stb (Jm w g) x z:=λh=>by unfold Stb at h;grind
      have ss:=(hg.adj).resolve_left M;have sq:=C.resolve_left M;refine Or.inr ⟨L,sq,?_⟩;obtain⟨s1,s2⟩:=Jz ss;rw[JW,List.map_cons,JW,JW,JW,Iw s1,Iw s2,hg.tail.same _ _ _ (Aa _) ss];have I:(ev g x*ev g x)*(ev (Jm w g) x*ev (Jm (Ji (Jb w) q) g) x)=(ev w x*ev (Jb w) x)*ev q x:=by
       have h1:=k x;have m:=G x;rw[Je]at m;rw[Rat.mul_assoc (ev w x),m,h1];grind
      have K:0<ev g x*ev g x:=by
       rcases Rat.le_iff_lt_or_eq.1 (Xg (ev g x))with h|h
       . exact h
       . rcases A2.1 h.symm with h|h<;>exact absurd h l
      have X:(ev (Jm w g) x*ev (Jm (Ji (Jb w) q) g) x)*(ev (Jm w g) z*ev (Jm (Ji (Jb w) q) g) z)=(ev (Jm w g) x*ev (Jm w g) z)*(ev (Jm (Ji (Jb w) q) g) x*ev (Jm (Ji (Jb w) q) g) z):=DK
      have D:(ev (Jm w g) x*ev (Jm w g) z)*(ev (Jm (Ji (Jb w) q) g) x*ev (Jm (Ji (Jb w) q) g) z)<0:=by
       have:=Rat.mul_pos (show 0 < -(ev (Jm w g) x*ev (Jm w g) z)by grind) ss;grind
      rw[<-X]at D;generalize ev (Jm w g) x*ev (Jm (Ji (Jb w) q) g) x=P at *;generalize ev (Jm w g) z*ev (Jm (Ji (Jb w) q) g) z=Q at *;generalize Xf (ev (Jm (Ji (Jb w) q) g) z) _=T at *;obtain⟨N,_⟩:=Jz sq;rcases JX (ev q x) 0 with h|h
      . have q1:ev q x<0:=by
         rcases Rat.le_iff_lt_or_eq.1 h with h|h
         . exact h
         . exact absurd h N
        have p1:0<P:=Xs K (by rw[I];have:=Rat.mul_pos (show 0 < -(ev w x*ev (Jb w) x)by grind) (show 0 < -(ev q x)by grind);grind);have q2:Q<0:=Ku p1 D;refine Or.inr ⟨q1,?_⟩;rw[BE DK,BF q2];omega
      . have q1:0<ev q x:=by
         rcases Rat.le_iff_lt_or_eq.1 h with h|h
         . exact h
         . exact absurd h.symm N
        have p1:P<0:=Ku K (by rw[I];have:=Rat.mul_pos (show 0 < -(ev w x*ev (Jb w) x)by grind) q1;grind);have q2:0<Q:=ZM p1 D;refine Or.inl ⟨q1,?_⟩;rw[BF p1,BE DK];omega
def cw(w:List Rat)(x:Rat):Nat:=DP (JF (Jq w) x)
def qA{w:List Rat}(tw:Jc w=w)(w0:w≠[])(hs:Df w):∃k:Rat,k≠0/\w=DQ k (DO w):=by
 have a:=YV tw w0;exact Dv.anti a.tw tw (II tw w0) (Df.dv a.tw tw w0 hs λc h=>(XP tw w0 c).1 h)
def Io{w:List Rat}(tw:Jc w=w)(w0:w≠[])(hs:Df w)(c:0<=B):Sh B λx z=>cw w x=cw w z+J3 w x z:=by
 obtain⟨k,e,a⟩:=qA tw w0 hs;refine(Y7 tw w0 c).mono λx z _ _ d h=>?_;have f:=Kt tw w0 d;have b:=pS e (DO w) x z;rw[<-a]at b;unfold cw;omega
def JI{w:List Rat}(tw:Jc w=w)(w0:w≠[]){a b:Rat}(h:a<=b):cw w b<=cw w a:=pF tw w0 h
def GH(a b x:Rat):Rat:=if x<a then a else if b<x then b else x
theorem ZN{a b:Rat}(h:a<=b)(x:Rat):a<=GH a b x/\GH a b x<=b:=by
 unfold GH;split
 . exact⟨Rat.le_refl,h⟩
 . split
   . exact⟨h,Rat.le_refl⟩
   . grind
def ZO{a b x:Rat}(c:a<=x)(d:x<=b):GH a b x=x:=by
 unfold GH;rw[BE DK,BE DK]
theorem qB{a b:Rat}(h:a<=b){x z:Rat}(c:x<=z):GH a b x<=GH a b z/\GH a b z-GH a b x<=z-x:=by
 unfold GH;split<;>split<;>(try split)<;>(try split)<;>constructor<;>grind
def LZ{F:Rat->Nat}{a b d:Rat}(c:a<=b)(i:0<d)(h:∀x z,a<=x->x<=z->z<=b->z-x<=d->F x=F z):F a=F b:=by
 obtain⟨A,k,hA⟩:=JN a;obtain⟨C,l,hC⟩:=JN b;have:=glue (B:=A+C) (F:=λx=>F (GH a b x)) (G:=λ_=>0) (a:=a) (b:=b) ⟨d,i,λx y _ _ j hs=>by
  obtain⟨f,g⟩:=qB c j;have:=h _ _ (ZN c x).1 f (ZN c y).2 (Rat.le_trans g hs);show F (GH a b x)+0=F (GH a b y)+0;omega⟩ (hA.mono DK) (hC.mono DK) c
 have e:F (GH a b a)+0=F (GH a b b)+0:=this;rw[ZO Rat.le_refl c,ZO c Rat.le_refl]at e;omega
structure Irr(w:List Rat)(a b:Rat):Prop where
 tw:Jc w=w
 w0:w≠[]
 sq:Df w
 ab:a<b
 nz:∀x,a<=x->x<=b->ev w x≠0
 one:cw w a=cw w b+1
def YW{p:Rat}(h:p≠0):p<0\/0<p:=by
 rcases JX p 0 with r|r
 . rcases Rat.le_iff_lt_or_eq.1 r with r|r
   . exact Or.inl r
   . exact absurd r h
 . rcases Rat.le_iff_lt_or_eq.1 r with r|r
   . exact Or.inr r
   . exact absurd r.symm h
section
variable {w:List Rat} {a b:Rat}
theorem Irr.still(h:Irr w a b){F:Rat->Nat}(hF:∀ {B:Rat},0<=B->Sh B λx z=>Stb w x z->F x=F z){x z:Rat}(p:a<=x)(q:x<=z)(u:z<=b)(e:cw w x=cw w z):F x=F z:=by
 obtain⟨A,v,hA⟩:=JN a;obtain⟨C,D,hC⟩:=JN b;have j:0<=A+C:=DK
 obtain⟨d,d0,m⟩:=(Io h.tw h.w0 h.sq j).and (hF j);have l:∀y,a<=y->y<=b->Wi (A+C) y:=λy c f=>⟨by have:=hA.1;have:=hC.1;grind,by have:=hC.2;grind⟩;refine LZ q d0 λs t hs o k n=>?_;have c:a<=s:=Rat.le_trans p hs;have f:t<=b:=Rat.le_trans k u;have i:=m s t (l s c DK) (l t DK f) o n;have E:=JI h.tw h.w0 hs;have G:=JI h.tw h.w0 k;have g:J3 w s t=0:=by have:=i.1;omega
 refine i.2 ?_;unfold J3 at g;unfold Stb;rcases YW (YU (h.nz s c DK) (h.nz t DK f))with r|r
 . rw[BF ⟨h.nz s c DK,DK⟩]at g;cases g
 . exact r
def Kv(w:List Rat)(x:Rat):Nat:=if 0<ev w x then 1 else 0
theorem ZP{w:List Rat}{x z:Rat}(h:Stb w x z):Kv w x=Kv w z:=by
 unfold Kv;unfold Stb at h;by_cases c:0<ev w x
 . rw[BF c,BF (Xs c h)]
 . obtain⟨d,_⟩:=Jz h;have e:ev w x<0:=(YW d).resolve_right c;have f:ev w z<0:=by have:=Xs (a:=-(ev w x)) (b:=-(ev w z)) DK DK;grind
   rw[BE c,BE DK]
theorem Irr.same(h:Irr w a b){x z:Rat}(d:a<=x)(g:x<=z)(f:z<=b)(e:cw w x=cw w z):Stb w x z:=by
 have c:=h.still (F:=Kv w) (λi=>Sh.all λs t _ _ _ hs=>ZP hs) d g f e;unfold Kv at c;unfold Stb;rcases YW (h.nz x d DK)with p|p<;>rcases YW (h.nz z DK f)with q|q
 . have:=Rat.mul_pos (show 0 < -(ev w x)by grind) (show 0 < -(ev w z)by grind);grind
 . rw[BE DK,BF q]at c;cases c
 . rw[BF p,BE DK]at c;cases c
 . exact Rat.mul_pos p q
theorem Irr.neg(h:Irr w a b){x z:Rat}(c:a<=x)(d:x<=z)(f:z<=b)(e:ev w x*ev w z<0):cw w a=cw w x/\cw w x=cw w z+1/\cw w z=cw w b:=by
 have g:=JI h.tw h.w0 c;have i:=JI h.tw h.w0 d;have j:=JI h.tw h.w0 f;have:=h.one;have n:cw w x≠cw w z:=λq=>by have:=h.same c d f q;unfold Stb at this;grind
 omega
theorem Irr.near(h:Irr w a b){d:Rat}(o:0<d):∃x z,a<=x/\x<z/\z<=b/\z-x<=d/\ev w x*ev w z<0:=by
 refine Classical.byContradiction λhn=>?_;have E:cw w a=cw w b:=by
  obtain⟨A,u,hA⟩:=JN a;obtain⟨C,v,hC⟩:=JN b;have m:0<=A+C:=DK
  obtain⟨e,j,p⟩:=Io h.tw h.w0 h.sq m;obtain⟨f,f0,f1,f2⟩:=Hp o j;have i:∀y,a<=y->y<=b->Wi (A+C) y:=λy B D=>⟨by have:=hA.1;have:=hC.1;grind,by have:=hC.2;grind⟩;refine LZ (Rat.le_of_lt h.ab) f0 λs t hs g c F=>?_;have l:=p s t (i s hs DK) (i t DK c) g DK;rw[l];unfold J3;rw[BE,A8];intro q;have n:=YU (h.nz s hs DK) (h.nz t DK c);rcases YW n with r|r
  . refine hn ⟨s,t,hs,?_,c,DK,r⟩;rcases Rat.le_iff_lt_or_eq.1 g with k|k
    . exact k
    . rw[<-k]at r;have:=Xg (ev w s);grind
  . have:=q.2;grind
 have:=h.one;omega
end
def Dh(w:List Rat)(a b:Rat)(q:List Rat):Int:=(DP (JF (EX w q) a):Int)-(DP (JF (EX w q) b):Int)
theorem Irr.sign{w:List Rat}{a b:Rat}(h:Irr w a b)(q:List Rat):∃g,TkG w q g/\∃d,0<d/\∀x z,a<=x->x<=z->z<=b->z-x<=d->ev w x*ev w z<0->
 (Dh w a b q=0/\ev g x*ev g z<0)\/(Dh w a b q=1/\Stb g x z/\0<ev q x/\0<ev q z)\/(Dh w a b q=-1/\Stb g x z/\ev q x<0/\ev q z<0):=by
 obtain⟨g,hg⟩:=p9 (q:=q) h.tw h.w0 h.sq;obtain⟨A,s,hA⟩:=JN a;obtain⟨C,t,hC⟩:=JN b;have e:0<=A+C:=DK
 have n:∀y,a<=y->y<=b->Wi (A+C) y:=λy u v=>⟨by have:=hA.1;have:=hC.1;grind,by have:=hC.2;grind⟩;obtain⟨d,d0,p⟩:=hg.step e;refine⟨g,hg,d,d0,λx z i o j hs hn=>?_⟩;obtain⟨c1,c2,c3⟩:=h.neg i o j hn;have l:=h.still (F:=λy=>DP (JF (EX w q) y)) (λe=>hg.stay e) Rat.le_refl i DK c1;have m:=h.still (F:=λy=>DP (JF (EX w q) y)) (λe=>hg.stay e) (show a<=z by grind) j Rat.le_refl c3;have l:DP (JF (EX w q) a)=DP (JF (EX w q) x):=l;have m:DP (JF (EX w q) z)=DP (JF (EX w q) b):=m;unfold Dh;rcases p x z (n x i DK) (n z DK j) o hs hn with⟨f,k⟩|⟨f,k,c⟩
 . exact Or.inl ⟨O,f⟩
 . rcases c with⟨c,r⟩|⟨c,r⟩
   . exact Or.inr (Or.inl ⟨O,f,c,Xs c k⟩)
   . refine Or.inr (Or.inr ⟨O,f,c,?_⟩);have:=Xs (a:=-(ev q x)) (b:=-(ev q z)) DK (by unfold Stb at k;grind);grind
end
def Nr(w:List Rat)(a b:Rat)(P:Rat->Rat->Prop):Prop:=∃d,0<d/\∀x z,a<=x->x<=z->z<=b->z-x<=d->ev w x*ev w z<0->P x z
section
variable {w q p:List Rat} {a b:Rat} {P Q:Rat->Rat->Prop}
def Nr.and(h:Nr w a b P)(c:Nr w a b Q):Nr w a b λx z=>P x z/\Q x z:=by
 obtain⟨d,d0,h⟩:=h;obtain⟨e,m,c⟩:=c;obtain⟨f,f0,f1,f2⟩:=Hp d0 m;exact⟨f,f0,λx z g i j k l=>⟨h x z g i j (Rat.le_trans k f1) l,c x z g i j (Rat.le_trans k f2) l⟩⟩
def Nr.mono(h:Nr w a b P)(hi:∀x z,a<=x->x<=z->z<=b->ev w x*ev w z<0->P x z->Q x z):Nr w a b Q:=by
 obtain⟨d,d0,h⟩:=h;exact⟨d,d0,λx z c e f i g=>hi x z c e f g (h x z c e f i g)⟩
def Irr.some(h:Irr w a b)(c:Nr w a b P):∃x z,a<=x/\x<=z/\z<=b/\ev w x*ev w z<0/\P x z:=by
 obtain⟨d,d0,c⟩:=c;obtain⟨x,z,e,f,g,j,i⟩:=h.near d0;exact⟨x,z,e,Rat.le_of_lt f,g,i,c x z e (Rat.le_of_lt f) g j i⟩
theorem Nr.of_sh(h:∀ {B:Rat},0<=B->Sh B P):Nr w a b P:=by
 obtain⟨A,l,hA⟩:=JN a;obtain⟨C,m,hC⟩:=JN b;have j:0<=A+C:=DK
 obtain⟨d,d0,k⟩:=h j;have g:∀y,a<=y->y<=b->Wi (A+C) y:=λy n o=>⟨by have:=hA.1;have:=hC.1;grind,by have:=hC.2;grind⟩;exact⟨d,d0,λx z e c f i _=>k x z (g x e (Rat.le_trans c f)) (g z (Rat.le_trans e c) f) c i⟩
theorem OV(p:List Rat)(a b:Rat):∃K,0<K/\∀x,a<=x->x<=b->Wi K (ev p x):=by
 obtain⟨A,e,hA⟩:=JN a;obtain⟨C,f,hC⟩:=JN b;obtain⟨K,c,d⟩:=XN p (show 0<=A+C by grind);exact⟨K,c,λx g i=>d x ⟨by have:=hA.1;have:=hC.1;grind,by have:=hC.2;grind⟩⟩
def EI(w:List Rat)(a b:Rat)(q:List Rat):Prop:=∀e,0<e->Nr w a b λx z=>Wi e (ev q x)/\Wi e (ev q z)
def Em(w:List Rat)(a b:Rat)(q:List Rat):Prop:=∃c,0<c/\Nr w a b λx z=>c<=ev q x/\c<=ev q z
def EI.mul(h:EI w a b q)(p:List Rat):EI w a b (Ji q p):=λe l=>by
 obtain⟨K,k,j⟩:=OV p a b;refine(h (e/K) (Yk l k)).mono λx z c f g _ i=>?_;have d:e/K*K=e:=Ak DK;rw[Je,Je];exact⟨((i.1.mul (j x c (Rat.le_trans f g))).mono (by rw[d];exact Rat.le_refl)),((i.2.mul (j z (Rat.le_trans c f) g)).mono (by rw[d];exact Rat.le_refl))⟩
def EI.ext(h:EI w a b q)(e:∀x,ev p x=ev q x):EI w a b p:=λk hk=>(h k hk).mono λx z _ _ _ _ c=>by rw[e,e];exact c
def Em.ext(h:Em w a b q)(e:∀x,ev p x=ev q x):Em w a b p:=by
 obtain⟨c,c0,h⟩:=h;exact⟨c,c0,h.mono λx z _ _ _ _ d=>by rw[e,e];exact d⟩
theorem Em.mul(h:Em w a b q)(d:Em w a b p):Em w a b (Ji q p):=by
 obtain⟨c,c0,h⟩:=h;obtain⟨k,f,d⟩:=d;refine⟨c*k,Rat.mul_pos c0 f,(h.and d).mono λx z _ _ _ _ e=>?_⟩;rw[Je,Je];have m:∀ {s t:Rat},c<=s->k<=t->c*k<=s*t:=fun {s t} i j=>by
  have g:=Rat.mul_nonneg (a:=s-c) (b:=t) DK DK;have d:=Rat.mul_nonneg (a:=c) (b:=t-k) DK DK;grind
 exact⟨m e.1.1 e.2.1,m e.1.2 e.2.2⟩
def EI.not_abv(h:Irr w a b)(hs:EI w a b q):¬Em w a b q:=λ⟨c,c0,f⟩=>by
 obtain⟨x,z,_,_,_,_,d,e⟩:=h.some ((hs (c/2) DK).and f);have:=d.1.2;have:=e.1;grind
theorem Em.not_neg(h:Irr w a b)(hs:Em w a b q)(d:Em w a b (DQ (-1) q)):False:=by
 obtain⟨c,c0,e⟩:=hs;obtain⟨k,i,f⟩:=d;obtain⟨x,z,_,_,_,_,g,d⟩:=h.some (e.and f);have j:=d.1;rw[Jn]at j;grind
theorem Irr.val(h:Irr w a b)(q:List Rat):(Dh w a b q=0/\EI w a b q)\/(Dh w a b q=1/\Em w a b q)\/(Dh w a b q=-1/\Em w a b (DQ (-1) q)):=by
 obtain⟨g,hg,o⟩:=h.sign q;have o:Nr w a b _:=o;obtain⟨_,_,_,_,_,_,s⟩:=h.some o;rcases s with⟨G,_⟩|s
 . refine Or.inl ⟨G,?_⟩;obtain⟨k,hk⟩:=hg.dq;have hs:EI w a b g:=λe K=>(o.and (Nr.of_sh λr=>Xe g r K)).mono λx z _ _ _ _ c=>by
    refine c.2 λt=>?_;rcases c.1 with d|d|d
    . unfold Stb at t;grind
    . omega
    . omega
   exact(hs.mul k).ext λx=>by rw[Je];exact hk x
 . refine Or.inr ?_;obtain⟨u,v,M⟩:=hg.cop;obtain⟨U,N,H⟩:=OV u a b;obtain⟨V,R,I⟩:=OV v a b;have C:=(JL hg.tg hg.g0 hg.dw).2;have F:U*(1/4/U)=1/4:=by rw[AX,Ak DK]
   have p:∀x,a<=x->x<=b->Wi (1/4/U) (ev (Jm w g) x)->1/(2*V)<=ev q x\/ev q x<=-(1/(2*V)):=λx l D L=>by
    have m:=KP (M x) (H x l D) L (by rw[F];exact Rat.le_refl);have j:=I x l D;have P:1/(2*V)*(2*V)=1:=Ak DK;generalize 1/(2*V)=k at *;have y:0<k:=Xs (a:=2*V) DK DK;refine Classical.byContradiction λhn=>?_;have n:=(j.mul (show Wi k (ev q x)from⟨DK,DK⟩)).2;grind
   have E:Nr w a b λx z=>Stb g x z->Wi (1/4/U) (ev (Jm w g) x)/\Wi (1/4/U) (ev (Jm w g) z):=(Nr.of_sh λr=>Xe (Jm w g) r (Yk Hc N)).mono λx z _ _ _ Q c t=>by
    refine c λhs=>?_;have e:ev w x*ev w z=(ev g x*ev g z)*(ev (Jm w g) x*ev (Jm w g) z):=by rw[C x,C z];grind
    have:=Rat.mul_pos t hs;grind
   have y:0<1/(2*V):=Yk DN DK;have all:=(o.and E);rcases s with⟨l,_⟩|⟨l,_⟩
   . refine Or.inl ⟨l,1/(2*V),y,all.mono λx z m j n _ c=>?_⟩;rcases c.1 with d|d|d
     . omega
     . obtain⟨A,B⟩:=c.2 d.2.1;have f:=p x m (Rat.le_trans j n) A;have i:=p z (Rat.le_trans m j) n B;generalize 1/(2*V)=k at *;constructor
       . rcases f with f|f
         . exact f
         . grind
       . rcases i with i|i
         . exact i
         . grind
     . omega
   . refine Or.inr ⟨l,1/(2*V),y,all.mono λx z m j n _ c=>?_⟩;rcases c.1 with d|d|d
     . omega
     . omega
     . obtain⟨A,B⟩:=c.2 d.2.1;have f:=p x m (Rat.le_trans j n) A;have i:=p z (Rat.le_trans m j) n B;rw[Jn,Jn];generalize 1/(2*V)=k at *;constructor
       . rcases f with f|f<;>grind
       . rcases i with i|i<;>grind
theorem Irr.zero(h:Irr w a b):Dh w a b q=0↔EI w a b q:=by
 rcases h.val q with⟨d,c⟩|⟨d,c⟩|⟨d,c⟩
 . exact⟨λ_=>c,λ_=>d⟩
 . exact⟨λe=>by omega,λe=>absurd c (EI.not_abv h e)⟩
 . refine⟨λe=>by omega,λe=>absurd c (EI.not_abv h ((e.mul [-1]).ext λx=>?_))⟩;rw[Jn,Je,Jo]
def Irr.pos(h:Irr w a b):Dh w a b q=1↔Em w a b q:=by
 rcases h.val q with⟨d,c⟩|⟨d,c⟩|⟨d,c⟩
 . exact⟨λe=>by omega,λe=>absurd e (EI.not_abv h c)⟩
 . exact⟨λ_=>c,λ_=>d⟩
 . exact⟨λe=>by omega,λe=>absurd c λk=>Em.not_neg h e k⟩
def Irr.minus(h:Irr w a b):Dh w a b q=-1↔Em w a b (DQ (-1) q):=by
 rcases h.val q with⟨d,c⟩|⟨d,c⟩|⟨d,c⟩
 . refine⟨λe=>by omega,λe=>absurd e (EI.not_abv h ((c.mul [-1]).ext λx=>?_))⟩;rw[Jn,Je,Jo]
 . exact⟨λe=>by omega,λe=>absurd e λk=>Em.not_neg h c k⟩
 . exact⟨λ_=>c,λ_=>d⟩
theorem Irr.mul(h:Irr w a b)(q p:List Rat):Dh w a b (Ji q p)=Dh w a b q*Dh w a b p:=by
 rcases h.val q with⟨e,f⟩|⟨e,f⟩|⟨e,f⟩
 . rw[e,Int.zero_mul];exact h.zero.2 (f.mul p)
 . rcases h.val p with⟨c,d⟩|⟨c,d⟩|⟨c,d⟩
   . rw[c,FG];exact h.zero.2 ((d.mul q).ext λx=>by rw[Je,Je,AX])
   . rw[e,c];exact h.pos.2 (f.mul d)
   . rw[e,c];exact h.minus.2 ((f.mul d).ext λx=>by rw[Jn,Je,Je,Jn];grind)
 . rcases h.val p with⟨c,d⟩|⟨c,d⟩|⟨c,d⟩
   . rw[c,FG];exact h.zero.2 ((d.mul q).ext λx=>by rw[Je,Je,AX])
   . rw[e,c];exact h.minus.2 ((f.mul d).ext λx=>by rw[Jn,Je,Je,Jn];grind)
   . rw[e,c];exact h.pos.2 ((f.mul d).ext λx=>by rw[Je,Je,Jn,Jn];grind)
def Irr.ext(h:Irr w a b)(e:∀x,ev p x=ev q x):Dh w a b p=Dh w a b q:=by
 rcases h.val q with⟨c,d⟩|⟨c,d⟩|⟨c,d⟩
 . rw[c];exact h.zero.2 (d.ext e)
 . rw[c];exact h.pos.2 (d.ext e)
 . rw[c];exact h.minus.2 (d.ext λx=>by rw[Jn,Jn,e])
theorem Irr.neg_sg(h:Irr w a b)(e:∀x,ev p x=-(ev q x)):Dh w a b p=-(Dh w a b q):=by
 rcases h.val q with⟨c,d⟩|⟨c,d⟩|⟨c,d⟩
 . rw[c];exact h.zero.2 ((d.mul [-1]).ext λx=>by rw[Je,Jo,e];grind)
 . rw[c];exact h.minus.2 (d.ext λx=>by rw[Jn,e];grind)
 . rw[c];exact h.pos.2 (d.ext λx=>by rw[Jn,e];grind)
def OW:EI w a b w:=λe f=>(Nr.of_sh λd=>Xe w d f).mono λx z _ _ _ i c=>c λg=>by unfold Stb at g;grind
def Irr.dvd(h:Irr w a b)(e:Dv w p):Dh w a b p=0:=by
 obtain⟨c,d⟩:=e;exact h.zero.2 ((OW.mul c).ext λx=>by rw[Je];exact d x)
def Irr.cop(h:Irr w a b)(i:DT w p):Dh w a b p≠0:=λe=>by
 obtain⟨u,v,j⟩:=i;have c:=((OW (w:=w) (a:=a) (b:=b)).mul u).ext (p:=Ji u w) λx=>by rw[Je,Je,AX]
 have d:=((h.zero.1 e).mul v).ext (p:=Ji v p) λx=>by rw[Je,Je,AX]
 obtain⟨x,z,_,_,_,_,f,g⟩:=h.some ((c (1/4) Hc).and (d (1/4) Hc));have k:=f.1.2;have l:=g.1.2;rw[Je]at k l;have:=j x;grind
theorem Irr.const(h:Irr w a b)(c:Rat):(0<c->Dh w a b [c]=1)/\(c<0->Dh w a b [c]=-1):=by
 refine⟨λd=>h.pos.2 ⟨c,d,1,DN,λx z _ _ _ _ _=>?_⟩,λd=>h.minus.2 ⟨-c,DK,1,DN,λx z _ _ _ _ _=>?_⟩⟩
 . show c<=ev [c] x/\c<=ev [c] z;rw[Jo,Jo];exact⟨Rat.le_refl,Rat.le_refl⟩
 . show -c<=ev (DQ (-1) [c]) x∧-c<=ev (DQ (-1) [c]) z;rw[Jn,Jn,Jo,Jo];constructor<;>grind
end
section
def Wh(K:Nat)(p:List Rat):Prop:=∀i,∃z:Int,Sm K z/\cf p i=(z:Rat)
variable{K:Nat}
theorem Wh.one{p:List Rat}(h:Wh K p):∀i,∃z:Int,Sm K z/\cf p i*1=(z:Rat):=λi=>by
 obtain⟨z,a,b⟩:=h i;exact⟨z,a,by rw[Rat.mul_one];exact b⟩
theorem qC{p q:List Rat}(hp:Jc p=p)(hq:Jc q=q)(o:Wh K p)(r:Wh K q)(hl:p.length+q.length<=1000000000)(hle:q.length<=p.length)(a:2<=q.length)(s:DT p q):
 ∃(u v:List Rat) (c:Int),Wh ((K+1)*(p.length+q.length)) u/\Wh ((K+1)*(p.length+q.length)) v/\c≠0/\u.length<=q.length/\v.length<=p.length/\∀x,ev u x*ev p x+ev v x*ev q x=(c:Rat):=by
 obtain⟨u,v,B,C,E,F,y,b,hT,A,hv⟩:=WH hp hq (cp:=1) (cq:=1) DN DN o.one r.one hl hle (m:=2) O a;have p0:p≠[]:=λe=>by rw[e]at hle;simp at hle;rw[hle]at a;simp at a
 obtain⟨c,_,t⟩:=hT 0;have g:∀x,ev u x*ev p x+ev v x*ev q x=(c:Rat):=λx=>by
  rw[<-Je,<-Je,<-Ye,<-t];match D:Xx (Ji u p) (Ji v q),b with
  |[],_=>rfl
  |[k],_=>rw[Jo];rfl
  |_::_::_,b=>exact absurd b DL
 refine⟨u,v,c,λi=>?_,λi=>?_,λe=>?_,O,O,g⟩
 . obtain⟨z,d,f⟩:=A i;exact⟨z,d,by rw[f,Rat.mul_one]⟩
 . obtain⟨z,d,f⟩:=hv i;exact⟨z,d,by rw[f,Rat.mul_one]⟩
 . have j:∀x,ev u x*ev p x+ev v x*ev q x=0:=λx=>by rw[g,e];rfl
   have w:Dv p v:=s.dv (c:=v) ⟨DQ (-1) u,λx=>by rw[Je,Jn];have:=j x;grind⟩;have l:v=[]:=Classical.byContradiction λn=>by
    have:=(w.len hp C n).1;omega
   have u0:u=[]:=Classical.byContradiction λn=>by
    refine YN B hp n p0 (YO (Jv _ _) J λx=>?_);have:=j x;rw[l]at this;rw[Je];simp[ev]at this ⊢;grind
   rcases y with h|h
   . exact h u0
   . exact h l
theorem ZR(c:Rat):Wi (Yt c) c/\0<=Yt c:=by
 unfold Yt;unfold Wi;split<;>grind
def GX(H:Rat):List Rat->Rat
 |[]=>0
 |c::p=>Yt c+H*GX H p
def Fqq(H:Rat):List Rat->Rat
 |[]=>0
 |_::p=>GX H p+H*Fqq H p
section
variable {H:Rat}
theorem Ml(a:0<=H)(p:List Rat):0<=GX H p:=by
 induction p with
 |nil=>exact Rat.le_refl
 |cons c p b=>rw[GX];have:=(ZR c).2;have:=Rat.mul_nonneg a b;grind
theorem Rg(a:0<=H)(p:List Rat):0<=Fqq H p:=by
 induction p with
 |nil=>exact Rat.le_refl
 |cons c p b=>rw[Fqq];have:=Ml a p;have:=Rat.mul_nonneg a b;grind
def Rh(p:List Rat){x:Rat}(a:Wi H x):Wi (GX H p) (ev p x):=by
 induction p with
 |nil=>exact⟨by simp[GX,ev],by simp[GX,ev]⟩
 |cons c p b=>rw[GX,Hw];exact(ZR c).1.add (a.mul b)
theorem qD(p:List Rat){x y:Rat}(d:Wi H x)(f:Wi H y)(h:x<=y):Wi (Fqq H p*(y-x)) (ev p x-ev p y):=by
 induction p with
 |nil=>exact⟨by simp[Fqq,ev];grind,by simp[Fqq,ev];grind⟩
 |cons c p g=>
  rw[Fqq,Hw,Hw];have a:=(show Wi (y-x) (x-y)from⟨DK,DK⟩).mul (Rh p d);have b:=f.mul g;have e:c+x*ev p x-(c+y*ev p y)=(x-y)*ev p x+y*(ev p x-ev p y):=DK
  rw[e];exact(a.add b).mono DK
end
variable{f:List Rat}
def qE(tf:Jc f=f)(f0:f≠[]){B:Rat}(a:0<=B):Sh B λx z=>cw f x=cw f z+J3 (DO f) x z:=by
 refine(Y7 tf f0 a).mono λx z _ _ b h=>?_;have c:=Kt tf f0 b;unfold cw;omega
theorem qF(tf:Jc f=f)(f0:f≠[]){a b:Rat}(n:a<=b)(hl:cw f b<cw f a){e:Rat}(r:0<e):∃x,a<=x/\x<=b/\Wi e (ev f x):=by
 refine Classical.byContradiction λhn=>?_;obtain⟨A,w,hA⟩:=JN a;obtain⟨C,z,hC⟩:=JN b;have g:0<=A+C:=DK
 obtain⟨k,hk⟩:=II tf f0;obtain⟨K,j,m⟩:=OV k a b;obtain⟨d,d0,o⟩:=(qE tf f0 g).and (Xe (DO f) g (Yk r j));have i:∀y,a<=y->y<=b->Wi (A+C) y:=λy B D=>⟨by have:=hA.1;have:=hC.1;grind,by have:=hC.2;grind⟩;have:=LZ (F:=cw f) n d0 λs t hs u v p=>by
  have c:=o s t (i s hs DK) (i t DK v) u p;rw[c.1];unfold J3;rw[BE,A8];intro q;refine hn ⟨s,hs,DK,?_⟩;have l:=(c.2 λh=>by unfold Stb at h;have:=q.2;grind).1;rw[hk];exact(l.mul (m s hs DK)).mono (by rw[Ak DK];exact Rat.le_refl)
 omega
theorem ZS(tf:Jc f=f)(f0:f≠[]){H a b:Rat}(k:0<=H)(d:Wi H a)(m:Wi H b)(l:a<=b)(hl:cw f b<cw f a):Wi (Fqq H f*(b-a)) (ev f a):=by
 have g:∀e,0<e->Wi (Fqq H f*(b-a)+e) (ev f a):=λe n=>by
  obtain⟨x,i,p,j⟩:=qF tf f0 l hl n;have o:Wi H x:=⟨by have:=d.1;grind,by have:=m.2;grind⟩;have c:=(qD f d o i).add j;have q:=Rat.mul_nonneg (Rg k f) (show 0<=b-x by grind);rw[show ev f a-ev f x+ev f x=ev f a by grind]at c;exact c.mono DK
 constructor
 . refine Rat.not_lt.1 λh=>?_;have:=(g ((-(Fqq H f*(b-a))-ev f a)/2) DK).1;grind
 . refine Rat.not_lt.1 λh=>?_;have:=(g ((ev f a-Fqq H f*(b-a))/2) DK).2;grind
theorem qG{w u v:List Rat}{c:Int}(tw:Jc w=w)(hl:1<w.length)(m:c≠0)(n:∀x,ev u x*ev w x+ev v x*ev (Jb w) x=(c:Rat)){H a b:Rat}(i:0<=H)(d:Wi H a)(l:Wi H b)(g:a<=b)(t:cw w b+2<=cw w a):
 1<=(GX H u*Fqq H w+GX H v*Fqq H (Jb w))*(b-a):=by
 have w0:w≠[]:=λe=>by rw[e]at hl;simp at hl
 have s:Jb w≠[]:=λe=>by have:=MV tw e;omega
 have y:=ph tw hl g;have o:=ZS tw w0 i d l g O;have p:=ZS (Jt w) s i d l g (by unfold cw at *;omega);have q:=(Rh u d).mul o;have r:=(Rh v d).mul p;have j:=q.add r;rw[n]at j;have k:(1:Rat)<=(c:Rat)\/(c:Rat)<=-1:=by
  rcases Int.lt_or_gt_of_ne m with h|h
  . have f:(c:Rat)<=((-1:Int):Rat):=Rat.intCast_le_intCast.2 O;exact Or.inr f
  . have f:((1:Int):Rat)<=(c:Rat):=Rat.intCast_le_intCast.2 O;exact Or.inl f
 have:=j.1;have:=j.2;rcases k with k|k<;>grind
end
theorem ZT{A X B S T:Rat}(c:0<A*X)(d:0<X*B)(e:0<A*S)(f:0<T*B)(g:S*T<0):False:=by
 have a:=Rat.mul_pos (Rat.mul_pos c d) (Rat.mul_pos e f);have b:(A*X)*(X*B)*((A*S)*(T*B))=((A*X*B)*(A*X*B))*(S*T):=DK
 rw[b]at a;have:=Xb a;grind
section
variable {w v q:List Rat} {a b c d x y:Rat}
def Irr.nn(h:Irr w a b)(hq:Nr w a b λx z=>0<=ev q x\/0<=ev q z):Dh w a b q≠-1:=λe=>by
 obtain⟨k,f,hk⟩:=h.minus.1 e;obtain⟨x,z,_,_,_,_,c,d⟩:=h.some (hq.and hk);rw[Jn,Jn]at d;have:=d.1;have:=d.2;rcases c with c|c<;>grind
def Irr.np(h:Irr w a b)(hq:Nr w a b λx z=>ev q x<=0\/ev q z<=0):Dh w a b q≠1:=λe=>by
 obtain⟨k,f,hk⟩:=h.pos.1 e;obtain⟨x,z,_,_,_,_,c,d⟩:=h.some (hq.and hk);have:=d.1;have:=d.2;rcases c with c|c<;>grind
theorem XB(y x:Rat):ev [-y,1] x=x-y:=by simp only[ev];grind
def Dl(w:List Rat)(a b x:Rat):Int:=Dh w a b [-x,1]
def Irr.sg3(h:Irr w a b)(q:List Rat):Dh w a b q=0\/Dh w a b q=1\/Dh w a b q=-1:=by
 rcases h.val q with⟨c,_⟩|⟨c,_⟩|⟨c,_⟩
 . exact Or.inl c
 . exact Or.inr (Or.inl c)
 . exact Or.inr (Or.inr c)
theorem Ri(a:ev w x≠0):DT w [-x,1]:=by
 obtain⟨s,hs⟩:∃s:List Rat,∀y,ev w y=ev w x+(y-x)*ev s y:=⟨IM w x,λy=>O0 w x y⟩;refine⟨[1/ev w x],DQ (-(1/ev w x)) s,λy=>?_⟩;rw[Jo,Jn,XB,hs y]
 have:1/ev w x*ev w x=1:=Ak a
 grind
theorem Irr.low(h:Irr w a b)(c:x<=a):Dl w a b x=1:=by
 have n:Dl w a b x≠-1:=h.nn ⟨1,DN,λs t d _ _ _ _=>Or.inl (by show 0<=ev [-x,1] s;rw[XB];grind)⟩;rcases h.sg3 [-x,1]with e|e|e
 . exfalso
   rcases Rat.le_iff_lt_or_eq.1 c with c|c
   . refine EI.not_abv h (h.zero.1 e) ⟨a-x,DK,1,DN,λs t d f _ _ _=>?_⟩;show a-x<=ev [-x,1] s/\a-x<=ev [-x,1] t;rw[XB,XB];constructor<;>grind
   . exact h.cop (Ri (h.nz x DK (by have:=h.ab;grind))) e
 . exact e
 . exact absurd e n
theorem Irr.high(h:Irr w a b)(c:b<=x):Dl w a b x=-1:=by
 have n:Dl w a b x≠1:=h.np ⟨1,DN,λs t _ _ d _ _=>Or.inr (by show ev [-x,1] t<=0;rw[XB];grind)⟩;rcases h.sg3 [-x,1]with e|e|e
 . exfalso
   rcases Rat.le_iff_lt_or_eq.1 c with c|c
   . refine EI.not_abv h (((h.zero.1 e).mul [-1]).ext (p:=DQ (-1) [-x,1]) λy=>by rw[Jn,Je,Jo]) ⟨x-b,DK,1,DN,λs t _ f g _ _=>?_⟩;show x-b<=ev (DQ (-1) [-x,1]) s/\x-b<=ev (DQ (-1) [-x,1]) t;rw[Jn,Jn,XB,XB];constructor<;>grind
   . exact h.cop (Ri (h.nz x (by have:=h.ab;grind) DK)) e
 . exact absurd e n
 . exact e
theorem Irr.cside(h:Irr w a b)(i:a<=x)(j:x<=b):(cw w x=cw w b+1->Dl w a b x=1)/\(cw w x=cw w b->Dl w a b x=-1):=by
 have nz:Dl w a b x≠0:=h.cop (Ri (h.nz x i j));constructor
 . intro c1;have n:Dl w a b x≠-1:=h.nn ⟨1,DN,λs t c d f _ g=>Or.inr (by
    show 0<=ev [-x,1] t;rw[XB];obtain⟨k,l,m⟩:=h.neg c d f g;rcases JX x t with r|r
    . grind
    . have:=JI h.tw h.w0 r;omega)⟩
   rcases h.sg3 [-x,1]with e|e|e
   . exact absurd e nz
   . exact e
   . exact absurd e n
 . intro o;have n:Dl w a b x≠1:=h.np ⟨1,DN,λs t c d f _ g=>Or.inl (by
    show ev [-x,1] s<=0;rw[XB];obtain⟨k,l,m⟩:=h.neg c d f g;rcases JX s x with r|r
    . grind
    . have:=JI h.tw h.w0 r;omega)⟩
   rcases h.sg3 [-x,1]with e|e|e
   . exact absurd e nz
   . exact absurd e n
   . exact e
theorem Irr.ends(h:Irr w a b):ev w a*ev w b<0:=by
 obtain⟨s,t,c,i,e,_,f⟩:=h.near (d:=1) DN;obtain⟨j,m,l⟩:=h.neg c (Rat.le_of_lt i) e f;have p1:=h.same Rat.le_refl c DK j;have g:=h.same (show a<=t by grind) e Rat.le_refl l;rcases YW (YU (h.nz a Rat.le_refl (Rat.le_of_lt h.ab)) (h.nz b (Rat.le_of_lt h.ab) Rat.le_refl))with r|r
 . exact r
 . exfalso
   unfold Stb at p1 g;have q1:0<ev w b*ev w b:=by
    obtain⟨_,n⟩:=Jz r;rcases YW (YU n n)with k|k
    . have:=Xg (ev w b);grind
    . exact k
   exact ZT r q1 p1 g f
theorem Irr.mid(h:Irr w a b)(c:a<=x)(d:x<=b):(ev w x*ev w b<0->Dl w a b x=1)/\(0<ev w x*ev w b->Dl w a b x=-1):=by
 refine⟨λe=>?_,λe=>?_⟩
 . obtain⟨c1,c2,c3⟩:=h.neg c d Rat.le_refl e;exact(h.cside c d).1 c2
 . refine(h.cside c d).2 ?_;have k:=JI h.tw h.w0 c;have l:=JI h.tw h.w0 d;have:=h.one;by_cases i:cw w x=cw w b
   . exact i
   . exfalso
     have hs:=h.same Rat.le_refl c d O;have j:=h.ends;unfold Stb at hs;have f:=Rat.mul_pos hs e;have g:ev w a*ev w x*(ev w x*ev w b)=(ev w x*ev w x)*(ev w a*ev w b):=DK
     rw[g]at f;have:=Xb f;grind
def Irr.sid_ne(h:Irr w a b)(x:Rat):Dl w a b x=1\/Dl w a b x=-1:=by
 rcases JX x a with r|r
 . exact Or.inl (h.low r)
 . rcases JX b x with k|k
   . exact Or.inr (h.high k)
   . rcases YW (YU (h.nz x r k) (h.nz b (Rat.le_of_lt h.ab) Rat.le_refl))with e|e
     . exact Or.inl ((h.mid r k).1 e)
     . exact Or.inr ((h.mid r k).2 e)
theorem Irr.sid_mono(h:Irr w a b)(g:x<=y):(Dl w a b y=1->Dl w a b x=1)/\(Dl w a b x=-1->Dl w a b y=-1):=by
 have d:Dl w a b y=1->Dl w a b x=1:=λe=>by
  obtain⟨c,c0,f⟩:=h.pos.1 e;refine h.pos.2 ⟨c,c0,f.mono λs t _ _ _ _ k=>?_⟩;rw[XB,XB]at k ⊢;constructor<;>grind
 refine⟨d,λe=>?_⟩;rcases h.sid_ne y with k|k
 . have:=d k;omega
 . exact k
def Lt(w:List Rat)(a b:Rat)(v:List Rat)(c d:Rat):Prop:=∃x,Dl w a b x=-1/\Dl v c d x=1
theorem Irr.within(h:Irr w a b)(e:Dl w a b c=1)(f:Dl w a b d=-1):Nr w a b λx z=>c<=x/\z<=d:=by
 obtain⟨k,m,hk⟩:=h.pos.1 e;obtain⟨l,n,hl⟩:=h.minus.1 f;refine(hk.and hl).mono λx z _ _ _ _ i=>?_;have g:=i.1.1;have j:=i.2.2;rw[XB]at g;rw[Jn,XB]at j;constructor<;>grind
def Irr.near_sid(h:Irr w a b){z:Rat}(c:a<=x)(d:x<=z)(f:z<=b)(e:ev w x*ev w z<0):Dl w a b x=1/\Dl w a b z=-1:=by
 obtain⟨i,j,g⟩:=h.neg c d f e;exact⟨(h.cside c (Rat.le_trans d f)).1 O,(h.cside (Rat.le_trans c d) f).2 g⟩
theorem ord_lt(h:Irr w a b)(k:Irr v c d)(u:Dl w a b c=1)(y:Dl w a b d=-1):(Dh w a b v=1->0<ev v d->Lt v c d w a b)/\(Dh w a b v=1->ev v d<0->Lt w a b v c d)/\(Dh w a b v=-1->ev v d<0->Lt v c d w a b)/\(Dh w a b v=-1->0<ev v d->Lt w a b v c d):=by
 have s:=h.within u y;refine⟨λe n=>?_,λe n=>?_,λe n=>?_,λe n=>?_⟩
 . obtain⟨m,t,f⟩:=h.pos.1 e;obtain⟨x,z,g,i,j,l,⟨o,p⟩,q,r⟩:=h.some (s.and f);exact⟨x,(k.mid o DK).2 (Rat.mul_pos DK n),(h.near_sid g i j l).1⟩
 . obtain⟨m,t,f⟩:=h.pos.1 e;obtain⟨x,z,g,i,j,l,⟨o,p⟩,q,r⟩:=h.some (s.and f);exact⟨z,(h.near_sid g i j l).2,(k.mid DK p).1 (by have:=Rat.mul_pos (show 0<ev v z by grind) (show 0 < -(ev v d)by grind);grind)⟩
 . obtain⟨m,t,f⟩:=h.minus.1 e;obtain⟨x,z,g,i,j,l,⟨o,p⟩,q,r⟩:=h.some (s.and f);rw[Jn]at q r;exact⟨x,(k.mid o DK).2 (by have:=Rat.mul_pos (show 0 < -(ev v x)by grind) (show 0 < -(ev v d)by grind);grind),(h.near_sid g i j l).1⟩
 . obtain⟨m,t,f⟩:=h.minus.1 e;obtain⟨x,z,g,i,j,l,⟨o,p⟩,q,r⟩:=h.some (s.and f);rw[Jn]at q r;exact⟨z,(h.near_sid g i j l).2,(k.mid DK p).1 (by have:=Rat.mul_pos (show 0 < -(ev v z)by grind) n;grind)⟩
theorem ZU(h:Irr w a b)(m:Df v)(n:Jc v=v)(e:Dh w a b v=0):Nr w a b λx z=>ev v x*ev v z<0:=by
 obtain⟨g,hg,d⟩:=h.sign v;have d:Nr w a b _:=d;have c:=(JL hg.tg hg.g0 hg.dq).2;have f:v=Ji g (Jm v g):=YO n (Jv _ _) λx=>by rw[Je];exact c x
 have k:DT g (Jm v g):=Df.parts (by rw[<-f];exact m);refine(d.and (Nr.of_sh λl=>Mj k l)).mono λx z _ _ _ _ i=>?_;rcases i.1 with j|j|j
 . have st:=i.2.resolve_left λs=>by unfold Stb at s;have:=j.2;grind
   unfold Stb at st;have:=Rat.mul_pos (show 0 < -(ev g x*ev g z)by have:=j.2;grind) st;rw[c x,c z];grind
 . omega
 . omega
def qH(h:Irr w a b)(k:Irr v c d)(q:Dl w a b c=1)(r:Dl w a b d=-1)(e:Dh w a b v=0):∀x,Dl w a b x=Dl v c d x:=by
 have n:=(ZU h k.sq k.tw e).and (h.within q r);intro y;rcases h.sid_ne y with s|s
 . obtain⟨m,B,f⟩:=h.pos.1 s;obtain⟨x,z,t,g,u,A,⟨i,j,l⟩,o,p⟩:=h.some (n.and f);rw[XB]at o;rw[s];exact((k.sid_mono DK).1 (k.near_sid j g l i).1).symm
 . obtain⟨m,B,f⟩:=h.minus.1 s;obtain⟨x,z,t,g,u,A,⟨i,j,l⟩,o,p⟩:=h.some (n.and f);rw[Jn,XB]at p;rw[s];exact((k.sid_mono DK).2 (k.near_sid j g l i).2).symm
end
section
variable {w:List Rat} {a b x z s t m:Rat}
theorem IJ(tw:Jc w=w)(w0:w≠[])(sw:Df w)(e:cw w x=cw w z)(i:x<t)(b:t<=z):ev w t≠0:=λa=>by
 obtain⟨A,p,hA⟩:=JN x;obtain⟨C,q,hC⟩:=JN z;have f:0<=A+C:=DK
 obtain⟨d,d0,m⟩:=(Io tw w0 sw f).and (ZK sw f);have g:∀y,x<=y->y<=z->Wi (A+C) y:=λy i b=>⟨by have:=hA.1;have:=hC.1;grind,by have:=hC.2;grind⟩;obtain⟨k,r,s,u⟩:=Hp d0 (show 0<t-x by grind);have c:=m (t-k) t (g _ DK DK) (g t DK b) DK DK;have n:¬Stb w (t-k) t:=λh=>by unfold Stb at h;rw[a]at h;grind
 have l:=c.2 n DK;have o:ev w (t-k)≠0:=λe=>by rw[a,e]at l;grind
 have j:J3 w (t-k) t=1:=by
  unfold J3;rw[BF ⟨o,by rw[a];grind⟩]
 have v:=JI tw w0 (show x<=t-k by grind);have B:=JI tw w0 b;have:=c.1;omega
theorem Kw(tw:Jc w=w)(w0:w≠[])(sw:Df w)(e:cw w x=cw w z)(l:x<=s)(hs:ev w s≠0)(b:s<=t)(D:t<=z):Stb w s t:=by
 obtain⟨A,v,hA⟩:=JN s;obtain⟨C,B,hC⟩:=JN t;have m:0<=A+C:=DK
 obtain⟨d,d0,n⟩:=Io tw w0 sw m;have g:∀y,s<=y->y<=t->Wi (A+C) y:=λy l b=>⟨by have:=hA.1;have:=hC.1;grind,by have:=hC.2;grind⟩;have nz:∀y,s<=y->y<=t->ev w y≠0:=λy i j=>by
  rcases Rat.le_iff_lt_or_eq.1 i with i|i
  . exact IJ tw w0 sw e (show x<y by grind) DK
  . rw[<-i];exact hs
 have a:=LZ (F:=Kv w) b d0 λp q c o k u=>by
  have E:=n p q (g p c DK) (g q DK k) o u;have G:=JI tw w0 (show x<=p by grind);have H:=JI tw w0 (show q<=z by grind);have f:J3 w p q=0:=O
  refine ZP ?_;unfold J3 at f;unfold Stb;rcases YW (YU (nz p c DK) (nz q DK k))with r|r
  . rw[BF ⟨nz p c DK,DK⟩]at f;cases f
  . exact r
 unfold Kv at a;unfold Stb;rcases YW (nz s Rat.le_refl b)with p|p<;>rcases YW (nz t b Rat.le_refl)with q|q
 . have:=Rat.mul_pos (show 0 < -(ev w s)by grind) (show 0 < -(ev w t)by grind);grind
 . rw[BE DK,BF q]at a;cases a
 . rw[BF p,BE DK]at a;cases a
 . exact Rat.mul_pos p q
structure Spn(w:List Rat)(a b:Rat):Prop where
 tw:Jc w=w
 w0:w≠[]
 sq:Df w
 ab:a<b
 one:cw w a=cw w b+1
theorem Spn.neg(h:Spn w a b)(n:ev w a≠0)(e:ev w b≠0):ev w a*ev w b<0:=by
 obtain⟨A,H,hA⟩:=JN a;obtain⟨C,I,hC⟩:=JN b;have z:0<=A+C:=DK
 obtain⟨d,d0,B⟩:=Io h.tw h.w0 h.sq z;have o:∀y,a<=y->y<=b->Wi (A+C) y:=λy x K=>⟨by have:=hA.1;have:=hC.1;grind,by have:=hC.2;grind⟩;refine Classical.byContradiction λhn=>?_;have hp:0<ev w a*ev w b:=(YW (YU n e)).resolve_left hn;have:=LZ (F:=cw w) (Rat.le_of_lt h.ab) (show 0<d/2 by grind) λs t hs D i M=>by
  refine Classical.byContradiction λN=>?_;have S:=JI h.tw h.w0 hs;have T:=JI h.tw h.w0 D;have U:=JI h.tw h.w0 i;have x:=h.one;have cs:cw w a=cw w s:=O
  have p:cw w t=cw w b:=O
  obtain⟨c,u,g,v,l⟩:∃c,t<=c/\c<=b/\c-s<=d/\ev w c≠0:=by
   by_cases m:ev w t=0
   . have f:t<b:=by
      rcases Rat.le_iff_lt_or_eq.1 i with r|r
      . exact r
      . exact absurd (by rw[<-r];exact m) e
     obtain⟨k,P,Q,R⟩:=Hp (show 0<d/2 by grind) (show 0<b-t by grind);exact⟨t+k,DK,DK,DK,IJ h.tw h.w0 h.sq p (show t<t+k by grind) DK⟩
   . exact⟨t,Rat.le_refl,i,DK,m⟩
  have c2:cw w c=cw w b:=by
   have:=JI h.tw h.w0 u;have:=JI h.tw h.w0 g;omega
  have L:=B s c (o s hs DK) (o c DK g) DK v;have p1:=Kw h.tw h.w0 h.sq cs Rat.le_refl n hs Rat.le_refl;have G:=Kw h.tw h.w0 h.sq c2 Rat.le_refl l g Rat.le_refl;obtain⟨_,E⟩:=Jz p1;have j:J3 w s c=1:=O
  unfold J3 at j;have hle:ev w s*ev w c<=0:=by
   refine Rat.not_lt.1 λf=>?_;rw[BE λq=>by have:=q.2;grind]at j;cases j
  have f:ev w s*ev w c<0:=(YW (YU E l)).resolve_right DK;have q1:0<ev w b*ev w b:=(YW (YU e e)).resolve_left (by have:=Xg (ev w b);grind);exact ZT hp q1 p1 G f
 have:=h.one;omega
theorem Spn.cut(h:Spn w a b)(d:a<m)(c:m<b):((ev w m=0\/0<ev w m*ev w b)->Spn w a m)/\(ev w m≠0->(ev w b=0\/ev w m*ev w b<0)->Spn w m b):=by
 have i:=JI h.tw h.w0 (Rat.le_of_lt d);have j:=JI h.tw h.w0 (Rat.le_of_lt c);have g:=h.one;by_cases e:cw w m=cw w b
 . refine⟨λ_=>⟨h.tw,h.w0,h.sq,d,O⟩,λn k=>?_⟩;exfalso
   have nb:=IJ h.tw h.w0 h.sq e c Rat.le_refl;have:=Kw h.tw h.w0 h.sq e Rat.le_refl n (Rat.le_of_lt c) Rat.le_refl;unfold Stb at this;rcases k with k|k
   . exact nb k
   . grind
 . have f:cw w a=cw w m:=O
   have n:=IJ h.tw h.w0 h.sq f d Rat.le_refl;have hs:Spn w m b:=⟨h.tw,h.w0,h.sq,c,O⟩;refine⟨λk=>?_,λ_ _=>hs⟩;exfalso
   rcases k with k|k
   . exact n k
   . obtain⟨_,nb⟩:=Jz k;have:=hs.neg n nb;grind
def Spn.irr(h:Spn w a b)(c:ev w a≠0)(hn:∀x,a<x->x<=b->ev w x≠0):Irr w a b:=⟨h.tw,h.w0,h.sq,h.ab,λx i j=>by
 rcases Rat.le_iff_lt_or_eq.1 i with i|i
 . exact hn x i j
 . rw[<-i];exact c,h.one⟩
def Spn.rat(h:Spn w a b)(f:a<x)(g:x<=b)(e:ev w x=0):∀y,a<y->y<=b->ev w y=0->y=x:=λy i j k=>by
 have d:∀u v,a<u->u<v->v<=b->ev w u=0->ev w v=0->False:=λu v c l m n o=>by
  have c1:cw w u≠cw w b:=λe=>IJ h.tw h.w0 h.sq e l m o;have c2:cw w a≠cw w u:=λe=>IJ h.tw h.w0 h.sq e c Rat.le_refl n;have p:=JI h.tw h.w0 (Rat.le_of_lt c);have q:=JI h.tw h.w0 (show u<=b by grind);have:=h.one;omega
 rcases JX x y with r|r
 . rcases Rat.le_iff_lt_or_eq.1 r with r|r
   . exact(d x y f r j e k).elim
   . exact r.symm
 . rcases Rat.le_iff_lt_or_eq.1 r with r|r
   . exact(d y x i r g k e).elim
   . exact r
end
section
def hZ(n d:Int):List Int->Int
 |[]=>0
 |c::p=>c*d^p.length+n*hZ n d p
variable{L k:Int}{K:Nat}
theorem ZV(x:Rat):∀zs:List Int,zs≠[]->((x.den:Int):Rat)^(zs.length-1)*ev (zs.map λz:Int=>(z:Rat)) x=(hZ x.num (x.den:Int) zs:Rat):=by
 have i:((x.den:Int):Rat)*x=(x.num:Rat):=by
  have h:=CC x;have g:((x.den:Int):Rat)≠0:=by have:=x.den_nz;exact_mod_cast this
  have f:x=(x.num:Rat)/((x.den:Int):Rat):=by rw[<-AP];exact h.symm
  have d:=Ak (a:=(x.num:Rat)) g;rw[<-f]at d;rw[AX];exact d
 intro zs;induction zs with
 |nil=>intro h;exact absurd J h
 |cons c p b=>
  intro _;match p,b with
  |[],_=>simp[hZ,ev];grind
  |c2::p,b=>
   have e:=b DL;rw[hZ,List.map_cons,Hw];rw[show(c::c2::p).length-1=(c2::p).length-1+1 by simp,Rat.pow_succ,show(c2::p).length=(c2::p).length-1+1 by simp];rw[Fa,Az,Az,<-e,Rat.intCast_pow,Rat.pow_succ,<-i];grind
theorem qI(n d:Int):∀(zs:List Int) (h:zs≠[]),∃q,hZ n d zs=d*q+zs.getLast h*n^(zs.length-1):=by
 intro zs;induction zs with
 |nil=>intro h;exact absurd J h
 |cons c p b=>
  intro a;match p,b,a with
  |[],_,_=>exact⟨0,by simp[hZ]⟩
  |c2::p,b,a=>
   have hg:(c::c2::p).getLast a=(c2::p).getLast DL:=List.getLast_cons DL;obtain⟨q,hq⟩:=b DL;refine⟨c*d^p.length+n*q,?_⟩;rw[hZ,hq,hg];rw[show(c2::p).length=p.length+1 by simp,show(c::c2::p).length-1=p.length+1 by simp,show p.length+1-1=p.length by omega,CH,CH];grind
def ZW{zs:List Int}(h:zs≠[]){x:Rat}(e:ev (zs.map λz:Int=>(z:Rat)) x=0):(x.den:Int)∣zs.getLast h:=by
 have a:=ZV x zs h;rw[e,CZ]at a;have b:hZ x.num (x.den:Int) zs=0:=by exact_mod_cast a.symm
 obtain⟨q,hq⟩:=qI x.num (x.den:Int) zs h;rw[b]at hq;have c:(x.den:Int)∣zs.getLast h*x.num^(zs.length-1):=⟨-q,by rw[Int.mul_neg];omega⟩;have d:x.den∣(zs.getLast h).natAbs*x.num.natAbs^(zs.length-1):=by
  have:=CP.2 c;rwa[Cv,Int.natAbs_pow,Ay]at this
 have f:Nat.Coprime x.den (x.num.natAbs^(zs.length-1)):=(x.reduced.symm).pow_right _;have g:=f.dvd_of_dvd_mul_right d;exact CP.1 (by rw[Ay];exact g)
def Wh.ints{p:List Rat}(h:Wh K p):∃zs:List Int,p=zs.map (λz:Int=>(z:Rat)):=by
 induction p with
 |nil=>exact⟨[],J⟩
 |cons c p d=>
  obtain⟨zs,e⟩:=d (λi=>by obtain⟨z,b,a⟩:=h (i+1);exact⟨z,b,by rw[<-a];rfl⟩);obtain⟨z,_,a⟩:=h 0;exact⟨z::zs,by rw[List.map_cons,<-e,<-a];rfl⟩
def J0(x:Rat)(L:Int):Int:=x.num*L/(x.den:Int)
theorem Mm{x:Rat}:k<=J0 x L↔(k:Rat)<=x*(L:Rat):=by
 have b:(0:Int)<(x.den:Int):=by have:=x.den_nz;omega
 have g:x*((x.den:Int):Rat)=(x.num:Rat):=by
  have h:=CC x;have b:((x.den:Int):Rat)≠0:=by have:=x.den_nz;exact_mod_cast this
  have d:x=(x.num:Rat)/((x.den:Int):Rat):=by rw[<-AP];exact h.symm
  have f:=Ak (a:=(x.num:Rat)) b;rw[<-d]at f;exact f
 have c:(0:Rat)<((x.den:Int):Rat):=by exact_mod_cast b
 unfold J0;rw[Int.le_ediv_iff_mul_le b,<-Rat.intCast_le_intCast,Az,Az,<-g];have e:x*((x.den:Int):Rat)*(L:Rat)=x*(L:Rat)*((x.den:Int):Rat):=DK
 rw[e];constructor
 . intro h;refine Rat.not_lt.1 λd=>?_;have:=Rat.mul_pos (show 0<(k:Rat)-x*(L:Rat)by grind) c;grind
 . intro h;have:=Rat.mul_nonneg (show 0<=x*(L:Rat)-(k:Rat)by grind) (Rat.le_of_lt c);grind
theorem qJ{a b x:Rat}(e:0<L)(d:x*(L:Rat)=(k:Rat))(f:a<x)(g:x<=b)(i:J0 b L-J0 a L<=1):k=J0 b L:=by
 have c:(0:Rat)<(L:Rat):=by exact_mod_cast e
 have j:k<=J0 b L:=Mm.2 (by rw[<-d];have:=Rat.mul_nonneg (show 0<=b-x by grind) (Rat.le_of_lt c);grind);have l:¬k<=J0 a L:=λh=>by
  have:=Mm.1 h;rw[<-d]at this;have:=Rat.mul_pos (show 0<x-a by grind) c;grind
 omega
theorem qK{w:List Rat}(j:Wh K w)(w0:w≠[])(i:cf w (w.length-1)=(L:Rat)){x:Rat}(e:ev w x=0):∃k:Int,x*(L:Rat)=(k:Rat):=by
 obtain⟨zs,c⟩:=j.ints;have z0:zs≠[]:=λh=>w0 (by rw[c,h];rfl);have hl:zs.getLast z0=L:=by
  have d:cf w (w.length-1)=((zs.getLast z0:Int):Rat):=by
   rw[c];unfold cf;rw[Cy,Fq,<-List.getLast?_eq_getElem?,List.getLast?_eq_some_getLast z0];rfl
  rw[i]at d;exact_mod_cast d.symm
 have b:=ZW z0 (x:=x) (by rw[<-c];exact e);rw[hl]at b;obtain⟨q,hq⟩:=b;refine⟨x.num*q,?_⟩;have l:x*((x.den:Int):Rat)=(x.num:Rat):=by
  have h:=CC x;have b:((x.den:Int):Rat)≠0:=by have:=x.den_nz;exact_mod_cast this
  have g:x=(x.num:Rat)/((x.den:Int):Rat):=by rw[<-AP];exact h.symm
  have f:=Ak (a:=(x.num:Rat)) b;rw[<-g]at f;exact f
 rw[hq,Az,Az,<-l];grind
def Dg(a b:Rat):Rat:=(a+b)/2
def G8{a b:Rat}(h:a<b):a<Dg a b/\Dg a b<b/\Dg a b-a=(b-a)/2/\b-Dg a b=(b-a)/2:=by
 unfold Dg;refine⟨DK,DK,DK,DK⟩
def Do(w:List Rat):Nat->Rat->Rat->List (Rat × Rat)
 |0,a,b=>if cw w a<=cw w b then []else [(a,b)]
 |k+1,a,b=>if cw w a<=cw w b then []else if cw w a=cw w b+1 then [(a,b)]else Do w k a (Dg a b)++Do w k (Dg a b) b
def Et(w:List Rat)(H D:Rat):Prop:=∀x z,Wi H x->Wi H z->x<=z->cw w z+2<=cw w x->1<=D*(z-x)
theorem Xj(k:Nat):(0:Rat)<2^k:=by
 induction k with
 |zero=>rw[Rat.pow_zero];decide
 |succ k a=>rw[Rat.pow_succ];grind
def Wi.between{H a b x:Rat}(c:Wi H a)(d:Wi H b)(e:a<=x)(f:x<=b):Wi H x:=⟨by have:=c.1;grind,by have:=d.2;grind⟩
section
variable {w:List Rat} {H D:Rat} (tw:Jc w=w) (w0:w≠[]) (sw:Df w) (hA:Et w H D)
theorem ZX(tw:Jc w=w)(w0:w≠[])(hA:Et w H D):∀(k:Nat) (a b:Rat),Wi H a->Wi H b->a<b->D*(b-a)<2^k->(Do w k a b).length=cw w a-cw w b:=by
 intro k;induction k with
 |zero=>
  intro a b d f e g;rw[Rat.pow_zero]at g;rw[Do];have m:=JI tw w0 (Rat.le_of_lt e);by_cases h:cw w a<=cw w b
  . rw[BF h];simp;omega
  . rw[BE h];by_cases c:cw w b+2<=cw w a
    . have:=hA a b d f (Rat.le_of_lt e) c;grind
    . show 1=_;omega
 |succ k n=>
  intro a b d f e g;obtain⟨i,j,o,p⟩:=G8 e;have l:=d.between f (Rat.le_of_lt i) (Rat.le_of_lt j);rw[Rat.pow_succ]at g;have c1:=JI tw w0 (Rat.le_of_lt i);have c2:=JI tw w0 (Rat.le_of_lt j);rw[Do];by_cases h:cw w a<=cw w b
  . rw[BF h];simp;omega
  . rw[BE h];by_cases c:cw w a=cw w b+1
    . rw[BF c];show 1=_;omega
    . rw[BE c,Aw,n a _ d l i (by rw[o];grind),n _ b l f j (by rw[p];grind)];omega
theorem Rj(tw:Jc w=w)(w0:w≠[])(sw:Df w)(hA:Et w H D):∀(k:Nat) (a b:Rat),Wi H a->Wi H b->a<b->D*(b-a)<2^k->∀s∈Do w k a b,Spn w s.1 s.2/\a<=s.1/\s.2<=b:=by
 intro k;induction k with
 |zero=>
  intro a b e f d g s hs;rw[Rat.pow_zero]at g;rw[Do]at hs;by_cases h:cw w a<=cw w b
  . rw[BF h]at hs;cases hs
  . rw[BE h,List.mem_singleton]at hs;subst hs;refine⟨⟨tw,w0,sw,d,?_⟩,Rat.le_refl,Rat.le_refl⟩;by_cases c:cw w b+2<=cw w a
    . have:=hA a b e f (Rat.le_of_lt d) c;grind
    . show cw w a=cw w b+1;omega
 |succ k n=>
  intro a b e f d g s hs;obtain⟨o,p,q,r⟩:=G8 d;have j:=e.between f (Rat.le_of_lt o) (Rat.le_of_lt p);rw[Rat.pow_succ]at g;rw[Do]at hs;by_cases h:cw w a<=cw w b
  . rw[BF h]at hs;cases hs
  . rw[BE h]at hs;by_cases c:cw w a=cw w b+1
    . rw[BF c,List.mem_singleton]at hs;subst hs;exact⟨⟨tw,w0,sw,d,c⟩,Rat.le_refl,Rat.le_refl⟩
    . rw[BE c,CK]at hs;rcases hs with hs|hs
      . obtain⟨i,l,m⟩:=n a _ e j o (by rw[q];grind) s hs;exact⟨i,l,DK⟩
      . obtain⟨i,l,m⟩:=n _ b j f p (by rw[r];grind) s hs;exact⟨i,DK,m⟩
theorem qL(tw:Jc w=w)(w0:w≠[])(sw:Df w)(hA:Et w H D):∀(k:Nat) (a b:Rat),Wi H a->Wi H b->a<b->D*(b-a)<2^k->(Do w k a b).Pairwise λs t=>s.2<=t.1:=by
 intro k;induction k with
 |zero=>
  intro a b _ _ _ _;rw[Do];split
  . exact List.Pairwise.nil
  . exact List.pairwise_singleton _ _
 |succ k l=>
  intro a b d e o p;obtain⟨f,g,m,n⟩:=G8 o;have c:=d.between e (Rat.le_of_lt f) (Rat.le_of_lt g);rw[Rat.pow_succ]at p;rw[Do];split
  . exact List.Pairwise.nil
  . split
    . exact List.pairwise_singleton _ _
    . refine List.pairwise_append.2 ⟨l a _ d c f (by rw[m];grind),l _ b c e g (by rw[n];grind),λs hs t q=>?_⟩;have i:=(Rj tw w0 sw hA k a _ d c f (by rw[m];grind) s hs).2.2;have j:=(Rj tw w0 sw hA k _ b c e g (by rw[n];grind) t q).2.1;grind
end
def qM{K:Nat}{w:List Rat}(tw:Jc w=w)(sw:Df w)(g:Wh K w)(hs:Wh K (Jb w))(hl:3<=w.length)(m:w.length<=100){H:Rat}(b:0<=H):∃u v:List Rat,Wh ((K+1)*(w.length+(Jb w).length)) u/\Wh ((K+1)*(w.length+(Jb w).length)) v/\u.length<=w.length/\v.length<=w.length/\Et w H (GX H u*Fqq H w+GX H v*Fqq H (Jb w)):=by
 have w0:w≠[]:=λe=>by rw[e]at hl;simp at hl
 have l1:=YY w0;have l2:2<=(Jb w).length:=by
  have h:=Ju tw w0;have e:cf (Jb w) (w.length-2)≠0:=by
   rw[XH,show w.length-2+1=w.length-1 by omega];exact YU h (by have:((w.length-1:Nat):Int)≠0:=(by omega);exact_mod_cast this)
  have:=QY e;omega
 obtain⟨u,v,c,f,hv,d,n,l,e⟩:=qC tw (Jt w) g hs O O l2 sw;exact⟨u,v,f,hv,O,l,λx z i k j a=>qG tw O d e b i k j a⟩
end
section
def Ex(w:List Rat)(a b m:Rat):Rat × Rat:=if ev w m=0\/0<ev w m*ev w b then(a,m)else(m,b)
variable{L:Int}
def ZY{w:List Rat}{a b m:Rat}(h:Spn w a b)(d:a<m)(f:m<b):Spn w (Ex w a b m).1 (Ex w a b m).2/\a<=(Ex w a b m).1/\(Ex w a b m).2<=b/\((Ex w a b m).1=a\/ev w (Ex w a b m).1≠0):=by
 unfold Ex;by_cases c:ev w m=0\/0<ev w m*ev w b
 . rw[BF c];exact⟨(h.cut d f).1 c,Rat.le_refl,Rat.le_of_lt f,Or.inl J⟩
 . rw[BE c];have n:ev w m≠0:=λe=>c (Or.inl e);refine⟨(h.cut d f).2 n ?_,Rat.le_of_lt d,Rat.le_refl,Or.inr n⟩;by_cases nb:ev w b=0
   . exact Or.inl nb
   . exact Or.inr ((YW (YU n nb)).resolve_right λk=>c (Or.inr k))
def qN{w:List Rat}{a b:Rat}(h:a<b):(Ex w a b (Dg a b)).2-(Ex w a b (Dg a b)).1=(b-a)/2:=by
 obtain⟨_,_,c,d⟩:=G8 h;unfold Ex;split
 . exact c
 . exact d
def Hr(w:List Rat)(L:Int):Nat->Rat->Rat->Rat × Rat
 |0,a,b=>(a,b)
 |k+1,a,b=>if 1<J0 b L-J0 a L\/ev w a=0 then Hr w L k (Ex w a b (Dg a b)).1 (Ex w a b (Dg a b)).2 else(a,b)
theorem qO{a b:Rat}(h:(L:Rat)*(b-a)<1):J0 b L-J0 a L<=1:=by
 have e:=Mm.1 (Int.le_refl (J0 b L));have c:¬J0 a L+1<=J0 a L:=O
 have f:a*(L:Rat)<((J0 a L+1:Int):Rat):=Rat.not_le.1 λh=>c (Mm.2 h);have d:((J0 b L:Int):Rat)<((J0 a L+2:Int):Rat):=by
  rw[show J0 a L+2=(J0 a L+1)+1 by omega,Fa (J0 a L+1) 1]
  have:((1:Int):Rat)=1:=rfl
  grind
 have:J0 b L<J0 a L+2:=Rat.intCast_lt_intCast.1 d
 omega
theorem qP{w:List Rat}{H D a b:Rat}(hA:Et w H D)(hD:0<=D)(h:Spn w a b)(g:ev w a=0)(n:-H<a)(c:Wi H b):1<=D*(b-a):=by
 refine Rat.not_lt.1 λhn=>?_;obtain⟨k,r,s,t⟩:=Hp (show 0<a+H by grind) (show 0<(1-D*(b-a))/(D+1)from Yk DK DK);have o:=h.ab;have l:Wi H (a-k):=⟨DK,by have:=c.2;grind⟩;have p:cw w (a-k)≠cw w a:=λe=>IJ h.tw h.w0 h.sq e (show a-k<a by grind) Rat.le_refl g;have m:=JI h.tw h.w0 (show a-k<=a by grind);have q:=h.one;have i:=hA (a-k) b l c DK O;have e:(1-D*(b-a))/(D+1)*(D+1)=1-D*(b-a):=Ak DK;have j:=Rat.mul_nonneg (a:=(1-D*(b-a))/(D+1)-k) (b:=D+1) DK DK;have d:D*(b-(a-k))=D*(b-a)+D*k:=DK
 rw[d]at i;have f:((1-D*(b-a))/(D+1)-k)*(D+1)=1-D*(b-a)-(D*k+k):=by
  have:((1-D*(b-a))/(D+1)-k)*(D+1)=(1-D*(b-a))/(D+1)*(D+1)-k*(D+1):=DK
  rw[this,e];grind
 rw[f]at j;grind
structure Stld(w:List Rat)(L:Int)(a b:Rat):Prop where
 spn:Spn w a b
 one:J0 b L-J0 a L<=1
 low:ev w a≠0
theorem qQ{w:List Rat}{H D:Rat}(hA:Et w H D)(hD:0<=D):∀(k:Nat) (a b:Rat),Spn w a b->-H<a->Wi H b->D*(b-a)<2^k->(L:Rat)*(b-a)<2^k->Stld w L (Hr w L k a b).1 (Hr w L k a b).2/\a<=(Hr w L k a b).1/\(Hr w L k a b).2<=b:=by
 intro k;induction k with
 |zero=>
  intro a b h i g f c;rw[Rat.pow_zero]at f c;refine⟨⟨h,qO c,λe=>?_⟩,Rat.le_refl,Rat.le_refl⟩;have:=qP hA hD h e i g;grind
 |succ k p=>
  intro a b h i g f c;rw[Rat.pow_succ]at f c;rw[Hr];by_cases d:1<J0 b L-J0 a L\/ev w a=0
  . rw[BF d];obtain⟨r,s,_,_⟩:=G8 h.ab;obtain⟨j,v,x,_⟩:=ZY h r s;have l:=qN (w:=w) h.ab;have m:Wi H (Ex w a b (Dg a b)).2:=⟨by have:=j.ab;grind,by have:=g.2;grind⟩;obtain⟨o,t,u⟩:=p _ _ j DK m (by rw[l];grind) (by rw[l];grind);exact⟨o,DK,DK⟩
  . rw[BE d];have n:J0 b L-J0 a L<=1:=by have:=λq=>d (Or.inl q);omega
    exact⟨⟨h,n,λe=>d (Or.inr e)⟩,Rat.le_refl,Rat.le_refl⟩
theorem Stld.fin{K:Nat}{w:List Rat}{a b:Rat}(h:Stld w L a b)(s:Wh K w)(q:cf w (w.length-1)=(L:Rat))(d:0<L):
 (a<Rat.divInt (J0 b L) L->ev w (Rat.divInt (J0 b L) L)=0->Rat.divInt (J0 b L) L<=b/\∀y,a<y->y<=b->ev w y=0->y=Rat.divInt (J0 b L) L)/\
 (¬(a<Rat.divInt (J0 b L) L/\ev w (Rat.divInt (J0 b L) L)=0)->Irr w a b):=by
 have l:(0:Rat)<(L:Rat):=by exact_mod_cast d
 obtain⟨x,f⟩:=ex (Rat.divInt (J0 b L) L);have ex:x*(L:Rat)=((J0 b L:Int):Rat):=by
  rw[<-f,AP];exact Ak DK
 have g:x<=b:=by
  have:=Mm.1 (Int.le_refl (J0 b L));rw[<-ex]at this;refine Rat.not_lt.1 λk=>?_;have:=Rat.mul_pos (show 0<x-b by grind) l;grind
 rw[f];refine⟨λn o=>⟨g,h.spn.rat n g o⟩,λhn=>h.spn.irr h.low λy i j e=>?_⟩;obtain⟨k,hk⟩:=qK s h.spn.w0 q e;have m:=qJ d hk i j h.one;have c:y=x:=by
  rw[m,<-ex]at hk;have p:(y-x)*(L:Rat)=0:=DK
  rcases A2.1 p with r|r<;>grind
 exact hn ⟨by rw[<-c];exact i,by rw[<-c];exact e⟩
section
variable {w q p r g u:List Rat} {a b x z:Rat}
theorem Em.add_sml(h:Em w a b q)(hs:EI w a b p):Em w a b (Xx q p):=by
 obtain⟨c,c0,d⟩:=h;refine⟨c/2,DK,(d.and (hs (c/2) DK)).mono λx z _ _ _ _ i=>?_⟩;rw[Ye,Ye];have e:=i.2.1.1;have f:=i.2.2.1;constructor<;>grind
def EI.add(h:EI w a b q)(hs:EI w a b p):EI w a b (Xx q p):=λe c=>by
 refine((h (e/2) DK).and (hs (e/2) DK)).mono λx z _ _ _ _ i=>?_;rw[Ye,Ye];exact⟨(i.1.1.add i.2.1).mono DK,(i.1.2.add i.2.2).mono DK⟩
theorem Irr.add_sml(h:Irr w a b)(hs:EI w a b p):Dh w a b (Xx q p)=Dh w a b q:=by
 rcases h.val q with⟨c,d⟩|⟨c,d⟩|⟨c,d⟩
 . rw[c];exact h.zero.2 (d.add hs)
 . rw[c];exact h.pos.2 (d.add_sml hs)
 . rw[c];refine h.minus.2 ((d.add_sml ((hs.mul [-1]).ext (p:=DQ (-1) p) λx=>?_)).ext λx=>?_)
   . rw[Jn,Je,Jo]
   . rw[Jn,Ye,Ye,Jn,Jn];grind
def Irr.slope(h:Irr w a b)(r:List Rat):Dh w a b (Jb (Ji w r))=Dh w a b (Jb w)*Dh w a b r:=by
 rw[Sa,h.add_sml (OW.mul (Jb r)),h.mul]
def Irr.slope_ne(h:Irr w a b):Dh w a b (Jb w)≠0:=h.cop h.sq
theorem Irr.times(h:Irr w a b){c:List Rat}{i:Nat}(l:DT w c)(hp:∀x,ev p x=ev w x*(ev w x^i*ev c x))(tp:Jc p=p):Dh w a b (Jb p)=0↔1<=i:=by
 obtain⟨r,d⟩:∃r:List Rat,∀x,ev r x=ev w x^i*ev c x:=by
  clear hp tp l;induction i with
  |zero=>exact⟨c,λx=>by rw[Rat.pow_zero,Cs]⟩
  |succ i g=>
   obtain⟨r,d⟩:=g;exact⟨Ji w r,λx=>by rw[Je,d,Rat.pow_succ];grind⟩
 have e:p=Ji w r:=YO tp (Jv _ _) λx=>by rw[Je,d,hp]
 rw[e,h.slope];constructor
 . intro k;rcases AQ i with f|f
   . exfalso
     rcases Int.mul_eq_zero.1 k with k|k
     . exact h.slope_ne k
     . refine h.cop l ((h.ext λx=>?_).symm.trans k);rw[d,f,Rat.pow_zero,Cs]
   . exact f
 . intro k;obtain⟨j,rfl⟩:∃j,i=j+1:=⟨i-1,O⟩
   have:EI w a b r:=by
    obtain⟨s,hs⟩:∃s:List Rat,∀x,ev s x=ev w x^j*ev c x:=by
     clear d hp;clear k e;induction j with
     |zero=>exact⟨c,λx=>by rw[Rat.pow_zero,Cs]⟩
     |succ i g=>
      obtain⟨r,d⟩:=g;exact⟨Ji w r,λx=>by rw[Je,d,Rat.pow_succ];grind⟩
    exact(OW.mul s).ext λx=>by rw[Je,hs,d,Rat.pow_succ];grind
   rw[h.zero.2 this,FG]
def Rk(tg:Jc g=g)(g0:g≠[])(f:Jc u=u)(u0:u≠[])(sg:Df g)(e:Df u)(d:DT g u)(j:a<=b):cw (Ji g u) a+(cw g b+cw u b)=cw (Ji g u) b+(cw g a+cw u a):=by
 obtain⟨A,k,hA⟩:=JN a;obtain⟨C,l,hC⟩:=JN b;have c:0<=A+C:=DK
 have s:=(((Io (Jv g u) (YN tg f g0 u0) (sg.mul e d) c).and (Io tg g0 sg c)).and (Io f u0 e c)).and (Mi d c);exact glue (B:=A+C) (F:=cw (Ji g u)) (G:=λx=>cw g x+cw u x) (s.mono λx z _ _ _ i=>by
  have:=i.1.1.1;have:=i.1.1.2;have:=i.1.2;have:=i.2;show cw (Ji g u) x+(cw g z+cw u z)=cw (Ji g u) z+(cw g x+cw u x);omega) (hA.mono DK) (hC.mono DK) j
theorem Irr.factor(h:Irr w a b)(tg:Jc g=g)(g0:g≠[])(o:Dv g w):(Dh w a b g=0/\cw g a=cw g b+1)\/(Dh w a b g≠0/\cw g a=cw g b):=by
 have l:=(JL tg g0 o).2;have p:Jc (Jm w g)=Jm w g:=YC _ _;have ew:w=Ji g (Jm w g):=YO h.tw (Jv _ _) λx=>by rw[Je];exact l x
 have u0:Jm w g≠[]:=λe=>h.w0 (by rw[ew,e,YI]);have sw:Df (Ji g (Jm w g)):=by rw[<-ew];exact h.sq
 have sg:Df g:=h.sq.of_dv h.tw o;have t:Df (Jm w g):=h.sq.of_dv h.tw ⟨g,λx=>by rw[l x,AX]⟩;have E:=sw.parts;have q:=Rat.le_of_lt h.ab;have k:=Rk tg g0 p u0 sg t E q;rw[<-ew]at k;have G:=JI tg g0 q;have H:=JI p u0 q;have F:=h.one;have u:∀y,a<=y->y<=b->ev g y≠0:=λy i j e=>h.nz y i j (by rw[l y,e,A6]);have v:∀y,a<=y->y<=b->ev (Jm w g) y≠0:=λy i j e=>h.nz y i j (by rw[l y,e,CZ]);by_cases hg:cw g a=cw g b
 . refine Or.inr ⟨λe=>?_,hg⟩;obtain⟨x,z,f,m,n,_,C⟩:=h.some (ZU h sg tg e);have:=Kw tg g0 sg hg f (u x f DK) m n;unfold Stb at this;grind
 . have B:cw g a=cw g b+1:=O
   have A:cw (Jm w g) a=cw (Jm w g) b:=O
   refine Or.inl ⟨?_,B⟩;have hi:Irr g a b:=⟨tg,g0,sg,h.ab,u,B⟩;rcases h.val g with⟨D,_⟩|⟨_,c,c0,d,d0,o⟩|⟨_,c,c0,d,d0,o⟩
   . exact D
   . exfalso
     obtain⟨x,z,f,m,n,s,C⟩:=hi.near d0;have st:=Kw p u0 t A f (v x f DK) (Rat.le_of_lt m) n;unfold Stb at st;have r:ev w x*ev w z<0:=by
      rw[l x,l z];have:=Rat.mul_pos (show 0 < -(ev g x*ev g z)by grind) st;grind
     have j:=o x z f (Rat.le_of_lt m) n s r;have:=Rat.mul_pos (show 0<ev g x by have:=j.1;grind) (show 0<ev g z by have:=j.2;grind);grind
   . exfalso
     obtain⟨x,z,f,m,n,s,C⟩:=hi.near d0;have st:=Kw p u0 t A f (v x f DK) (Rat.le_of_lt m) n;unfold Stb at st;have r:ev w x*ev w z<0:=by
      rw[l x,l z];have:=Rat.mul_pos (show 0 < -(ev g x*ev g z)by grind) st;grind
     have j:c<=ev (DQ (-1) g) x/\c<=ev (DQ (-1) g) z:=o x z f (Rat.le_of_lt m) n s r;rw[Jn,Jn]at j;have:=Rat.mul_pos (show 0 < -(ev g x)by have:=j.1;grind) (show 0 < -(ev g z)by have:=j.2;grind);grind
theorem Irr.gcd(h:Irr w a b)(tq:Jc q=q):Dh w a b q=0↔cw (Jr w q) a=cw (Jr w q) b+1:=by
 have tg:=JE w q;have g0:=J6 h.tw tq (Or.inl h.w0);obtain⟨d1,o,_⟩:=Yf h.tw tq;obtain⟨g,hg,d⟩:=h.sign q;have d:Nr w a b _:=d;have n:Dv g (Jr w q):=Ko h.tw tq hg.dw hg.dq;have s:Dh w a b q=0↔Dh w a b (Jr w q)=0:=by
  constructor
  . intro e;obtain⟨c,f⟩:=n;refine h.zero.2 (EI.ext (q:=Ji g c) (EI.mul (λk hk=>(d.and (Nr.of_sh λp=>Xe g p hk)).mono λx z _ _ _ _ i=>i.2 λr=>?_) c) λx=>by rw[Je];exact f x);rcases i.1 with j|j|j
    . unfold Stb at r;have:=j.2;grind
    . omega
    . omega
  . intro e;obtain⟨c,f⟩:=o;exact h.zero.2 (((h.zero.1 e).mul c).ext λx=>by rw[Je];exact f x)
 rw[s];rcases h.factor tg g0 d1 with⟨l,m⟩|⟨l,m⟩
 . exact⟨λ_=>m,λ_=>l⟩
 . exact⟨λe=>absurd e l,λe=>by omega⟩
end
end
section
variable {w:List Rat} {x z:Rat}
theorem qR(tw:Jc w=w)(w0:w≠[])(sw:Df w)(n:x<=z)(o:ev w z≠0)(m:cw w x≠cw w z):∃s t,x<=s/\s<t/\t<=z/\ev w s≠0/\ev w t≠0/\cw w s=cw w t+1:=by
 obtain⟨A,p,hA⟩:=JN x;obtain⟨C,u,hC⟩:=JN z;have l:0<=A+C:=DK
 obtain⟨d,d0,g⟩:=Io tw w0 sw l;have b:∀y,x<=y->y<=z->Wi (A+C) y:=λy v B=>⟨by have:=hA.1;have:=hC.1;grind,by have:=hC.2;grind⟩;refine Classical.byContradiction λhn=>m ?_;refine LZ (F:=cw w) n (show 0<d/2 by grind) λs t hs i c E=>?_;refine Classical.byContradiction λH=>?_;have a:cw w s=cw w t+J3 w s t:=g s t (b s hs DK) (b t DK c) i DK;have j:ev w s≠0:=λe=>by
  unfold J3 at a;rw[BE λq=>q.1 e]at a;omega
 have one:cw w s=cw w t+1:=by
  unfold J3 at a;split at a<;>omega
 have lt:s<t:=by
  rcases Rat.le_iff_lt_or_eq.1 i with r|r
  . exact r
  . rw[r]at one;omega
 by_cases f:ev w t=0
 . have G:t<z:=by
    rcases Rat.le_iff_lt_or_eq.1 c with r|r
    . exact r
    . exact absurd (by rw[<-r];exact f) o
   obtain⟨k,I,K,L⟩:=Hp (show 0<d/2 by grind) (show 0<z-t by grind);have D:cw w s=cw w (t+k)+J3 w s (t+k):=g s (t+k) (b s hs DK) (b _ DK DK) DK DK;have N:=JI tw w0 (show t<=t+k by grind);have M:J3 w s (t+k)<=1:=by unfold J3;split<;>omega
   have e:cw w t=cw w (t+k):=O
   exact hn ⟨s,t+k,hs,DK,DK,j,IJ tw w0 sw e (show t<t+k by grind) Rat.le_refl,O⟩
 . exact hn ⟨s,t,hs,lt,c,j,f,one⟩
theorem qS(tw:Jc w=w)(w0:w≠[])(sw:Df w):∀(n:Nat) (x z:Rat),x<=z->ev w x≠0->ev w z≠0->cw w x=cw w z+n->(n%2=0->0<ev w x*ev w z)/\(n%2=1->ev w x*ev w z<0):=by
 intro n;induction n using Nat.strongRecOn with
 |_ n r=>
  intro x z p o q A;rcases AQ n with u|u
  . subst u;have:=Kw tw w0 sw (show cw w x=cw w z by omega) Rat.le_refl o p Rat.le_refl;exact⟨λ_=>this,λh=>by omega⟩
  . obtain⟨s,t,l,y,m,g,i,e⟩:=qR tw w0 sw p q O;have C:=JI tw w0 l;have D:=JI tw w0 m;have B:=(Spn.mk tw w0 sw y e).neg g i;obtain⟨p1,v⟩:=r (cw w x-cw w s) O x s l o g O;obtain⟨q1,q2⟩:=r (cw w t-cw w z) O t z m i q O;have f:(ev w s*ev w t)*(ev w s*ev w t)*(ev w x*ev w z)=(ev w x*ev w s)*(ev w s*ev w t)*(ev w t*ev w z):=DK
    have Q:0<(ev w s*ev w t)*(ev w s*ev w t):=(YW (YU (YU g i) (YU g i))).resolve_left (by have:=Xg (ev w s*ev w t);grind);generalize ev w s*ev w t=b at *;generalize ev w x*ev w s=j at *;generalize ev w t*ev w z=k at *;rcases Nat.mod_two_eq_zero_or_one (cw w x-cw w s)with r1|r1<;>rcases Nat.mod_two_eq_zero_or_one (cw w t-cw w z)with d|d
    . have a:=p1 r1;have c:=q1 d;have:=Rat.mul_pos (Rat.mul_pos a (show 0 < -b by grind)) c;exact⟨λh=>by omega,λ_=>Ku Q (by rw[f];grind)⟩
    . have a:=p1 r1;have c:=q2 d;have:=Rat.mul_pos (Rat.mul_pos a (show 0 < -b by grind)) (show 0 < -k by grind);exact⟨λ_=>Xs Q (by rw[f];grind),λh=>by omega⟩
    . have a:=v r1;have c:=q1 d;have:=Rat.mul_pos (Rat.mul_pos (show 0 < -j by grind) (show 0 < -b by grind)) c;exact⟨λ_=>Xs Q (by rw[f];grind),λh=>by omega⟩
    . have a:=v r1;have c:=q2 d;have:=Rat.mul_pos (Rat.mul_pos (show 0 < -j by grind) (show 0 < -b by grind)) (show 0 < -k by grind);exact⟨λh=>by omega,λ_=>Ku Q (by rw[f];grind)⟩
theorem ZZ(n:Nat):(n%2=0->(-1:Rat)^n=1)/\(n%2=1->(-1:Rat)^n=-1):=by
 induction n with
 |zero=>exact⟨λ_=>by rw[Rat.pow_zero],λh=>by cases h⟩
 |succ n a=>
  rw[Rat.pow_succ];refine⟨λh=>by rw[a.2 O];grind,λh=>by rw[a.1 O];grind⟩
theorem qT(tw:Jc w=w)(w0:w≠[])(sw:Df w):DP (EW (Jq w))<=DP (X2 (Jq w))/\(DP (X2 (Jq w))-DP (EW (Jq w)))%2=(w.length-1)%2:=by
 obtain⟨B1,p,j,hD⟩:=Y9 (Yd tw w0);obtain⟨B2,q,g⟩:=Sg tw w0;obtain⟨B3,s,i⟩:=Si tw w0;obtain⟨X,hX⟩:=ex (B1+B2+B3);have u:=j X DK;have d:=hD (-X) DK;have b:=g X DK;have c:=i (-X) DK;have m:=JI tw w0 (show -X<=X by grind);unfold cw at m;rw[u,d]at m;refine⟨m,?_⟩;obtain⟨_,l⟩:=Jz b;obtain⟨_,n⟩:=Jz c;obtain⟨p1,o⟩:=qS tw w0 sw (DP (X2 (Jq w))-DP (EW (Jq w))) (-X) X DK n l (by unfold cw;rw[u,d];omega);have e:=Rat.mul_pos b c;have f:cf w (w.length-1)*ev w X*((-1)^(w.length-1)*cf w (w.length-1)*ev w (-X))=(cf w (w.length-1)*cf w (w.length-1))*((-1)^(w.length-1)*(ev w (-X)*ev w X)):=DK
 rw[f]at e;have a:=Xb e;rcases Nat.mod_two_eq_zero_or_one (w.length-1)with r|r
 . rw[(ZZ _).1 r,Cs]at a;rcases Nat.mod_two_eq_zero_or_one (DP (X2 (Jq w))-DP (EW (Jq w)))with k|k
   . omega
   . have:=o k;grind
 . rw[(ZZ _).2 r]at a;rcases Nat.mod_two_eq_zero_or_one (DP (X2 (Jq w))-DP (EW (Jq w)))with k|k
   . have:=p1 k;grind
   . omega
end
section
def Eg:List (List Rat × Nat)->List Rat
 |[]=>[1]
 |s::L=>Ji s.1 (Eg L)
structure PtsOk(L:List (List Rat × Nat)):Prop where
 all:∀s∈L,Jc s.1=s.1/\s.1≠[]/\Df s.1/\1<=s.2
 cop:L.Pairwise λa b=>DT a.1 b.1
variable{L:List (List Rat × Nat)}{T:Rat->Int}
def PtsOk.tail{s:List Rat × Nat}(h:PtsOk (s::L)):PtsOk L:=⟨λt a=>h.all t (AR _ a),(List.pairwise_cons.1 h.cop).2⟩
def Kx(L:List (List Rat × Nat)):Jc (Eg L)=Eg L:=by
 cases L with
 |nil=>decide +kernel
 |cons s L=>exact Jv _ _
def Mn(c:List Rat):DT [1] c:=⟨[1],[],λx=>by simp[ev];grind⟩
def OX:∀(L:List (List Rat × Nat)) (c:List Rat),(∀s∈L,DT s.1 c)->DT (Eg L) c:=by
 intro L c;induction L with
 |nil=>intro _;exact Mn c
 |cons s L b=>intro h;exact(h s (AF ..)).mul_left (b λt a=>h t (AR _ a))
def qU:∀(L:List (List Rat × Nat)) (c:List Rat),DT (Eg L) c->∀s∈L,DT s.1 c:=by
 intro L c;induction L with
 |nil=>intro _ s hs;cases hs
 |cons s L d=>
  intro h t b;have a:DT (Ji s.1 (Eg L)) c:=h;rcases Fu.1 b with r|r
  . rw[r];exact a.of_dv ((Dv.refl s.1).mul (Eg L))
  . exact d (a.of_dv ((Dv.refl (Eg L)).mul' s.1)) t r
def PtsOk.sqf(h:PtsOk L):Df (Eg L)/\Eg L≠[]:=by
 induction L with
 |nil=>exact⟨Mn _,by simp[Eg]⟩
 |cons s L e=>
  obtain⟨a,b⟩:=e h.tail;obtain⟨f,g,i,_⟩:=h.all s (AF ..);have c:DT s.1 (Eg L):=(OX L s.1 λt d=>((List.pairwise_cons.1 h.cop).1 t d).symm).symm;exact⟨i.mul a c,YN f (Kx L) g b⟩
def Zc{p q:List Rat}(tp:Jc p=p)(p0:p≠[])(tq:Jc q=q)(q0:q≠[])(h:DT p q):nA (Ji p q)=nA p+nA q:=by
 rw[px tp p0 tq q0,Wz tp tq h,Rf.1];omega
def Ip(L:List (List Rat × Nat))(f:List Rat->Int):Int:=(L.map λs=>f s.1).sum
def qV(h:PtsOk L):nA (Eg L)=Ip L nA:=by
 induction L with
 |nil=>exact Rf.1
 |cons s L c=>
  obtain⟨d,e,_,_⟩:=h.all s (AF ..);have a:DT s.1 (Eg L):=(OX L s.1 λt b=>((List.pairwise_cons.1 h.cop).1 t b).symm).symm;rw[Eg,Zc d e (Kx L) (h.tail.sqf).2 a,c h.tail];simp[Ip]
def qW{p q:List Rat}(tp:Jc p=p)(p0:p≠[])(tq:Jc q=q)(q0:q≠[])(h:∀c,DT p c↔DT q c):DO p=DO q:=by
 have a:=YV tp p0;have b:=YV tq q0;refine Dv.eq a.tw b.tw a.mw b.mw ?_ ?_
 . exact Df.dv b.tw a.tw a.w0 (Ik tp p0) λc k=>(XP tp p0 c).2 ((h c).2 ((XP tq q0 c).1 k))
 . exact Df.dv a.tw b.tw b.w0 (Ik tq q0) λc k=>(XP tq q0 c).2 ((h c).1 ((XP tp p0 c).1 k))
def Zd{p q:List Rat}(tp:Jc p=p)(p0:p≠[])(tq:Jc q=q)(q0:q≠[])(h:DO p=DO q):nA p=nA q:=by
 have:=pN tp p0 tq q0 h;unfold nA;omega
def qX{w c:List Rat}(h:DT w c)(i:Nat):∀r:List Rat,(∀x,ev r x=ev w x^i)->DT r c:=by
 induction i with
 |zero=>intro r a;exact(Mn c).ext (λx=>by rw[a,Rat.pow_zero,Jo]) λ_=>rfl
 |succ i b=>
  intro r a;obtain⟨s,hs⟩:∃s:List Rat,∀x,ev s x=ev w x^i:=by
   clear b a;induction i with
   |zero=>exact⟨[1],λx=>by rw[Rat.pow_zero,Jo]⟩
   |succ i b=>
    obtain⟨s,hs⟩:=b;exact⟨Ji s w,λx=>by rw[Je,hs,Rat.pow_succ]⟩
  exact((b s hs).mul_left h).ext (λx=>by rw[Je,hs,a,Rat.pow_succ]) λ_=>rfl
def Ze(L:List (List Rat × Nat))(c:List Rat)(h:∀s∈L,DT s.1 c):∀r:List Rat,(∀x,ev r x=Du L x)->DT r c:=by
 induction L with
 |nil=>intro r b;exact(Mn c).ext (λx=>by rw[b,Du,Jo]) λ_=>rfl
 |cons s L a=>
  intro r b;obtain⟨u,d⟩:∃u:List Rat,∀x,ev u x=ev s.1 x^s.2:=by
   induction s.2 with
   |zero=>exact⟨[1],λx=>by rw[Rat.pow_zero,Jo]⟩
   |succ i a=>
    obtain⟨u,hs⟩:=a;exact⟨Ji u s.1,λx=>by rw[Je,hs,Rat.pow_succ]⟩
  obtain⟨v,hv⟩:∃v:List Rat,∀x,ev v x=Du L x:=by
   clear a h b;induction L with
   |nil=>exact⟨[1],λx=>by rw[Du,Jo]⟩
   |cons t L a=>
    obtain⟨v,hv⟩:=a;obtain⟨u2,f⟩:∃u:List Rat,∀x,ev u x=ev t.1 x^t.2:=by
     induction t.2 with
     |zero=>exact⟨[1],λx=>by rw[Rat.pow_zero,Jo]⟩
     |succ i a=>
      obtain⟨u,hs⟩:=a;exact⟨Ji u t.1,λx=>by rw[Je,hs,Rat.pow_succ]⟩
    exact⟨Ji u2 v,λx=>by rw[Je,f,hv,Du]⟩
  exact((qX (h s (AF ..)) s.2 u d).mul_left (a (λt e=>h t (AR _ e)) v hv)).ext (λx=>by rw[Je,d,hv,b,Du]) λ_=>rfl
theorem qY{s:List Rat × Nat}(hs:s∈L)(g:1<=s.2):∃c:List Rat,∀x,Du L x=ev s.1 x*ev c x:=by
 have Nw:∀(w:List Rat) (i:Nat),∃u:List Rat,∀x,ev u x=ev w x^i:=λw i=>by
  induction i with
  |zero=>exact⟨[1],λx=>by rw[Rat.pow_zero,Jo]⟩
  |succ i b=>
   obtain⟨u,hs⟩:=b;exact⟨Ji u w,λx=>by rw[Je,hs,Rat.pow_succ]⟩
 have d:∀M:List (List Rat × Nat),∃v:List Rat,∀x,ev v x=Du M x:=λM=>by
  induction M with
  |nil=>exact⟨[1],λx=>by rw[Du,Jo]⟩
  |cons t L b=>
   obtain⟨v,hv⟩:=b;obtain⟨u,a⟩:=Nw t.1 t.2;exact⟨Ji u v,λx=>by rw[Je,a,hv,Du]⟩
 induction L with
 |nil=>cases hs
 |cons t L b=>
  rcases Fu.1 hs with r|r
  . subst r;obtain⟨j,f⟩:∃j,s.2=j+1:=⟨s.2-1,O⟩;obtain⟨u,a⟩:=Nw s.1 j;obtain⟨v,hv⟩:=d L;exact⟨Ji u v,λx=>by rw[Du,f,Rat.pow_succ,Je,a,hv];grind⟩
  . obtain⟨c,e⟩:=b r;obtain⟨u,a⟩:=Nw t.1 t.2;exact⟨Ji u c,λx=>by rw[Du,e,Je,a];grind⟩
def Zf(h:PtsOk L){p:List Rat}(tp:Jc p=p)(p0:p≠[])(hp:∀x,ev (Js p) x=Du L x):nA p=Ip L nA/\DO p=DO (Eg L):=by
 obtain⟨d1,a⟩:=RX tp p0;have e:DO p=DO (Eg L):=qW tp p0 (Kx L) h.sqf.2 λc=>by
  constructor
  . intro k;refine OX L c λs hs=>?_;obtain⟨r,b⟩:=qY hs (h.all s hs).2.2.2;exact(k.of_dv d1).of_dv ⟨r,λx=>by rw[hp];exact b x⟩
  . intro k;exact(Ze L c (qU L c k) (Js p) hp).of_dv a
 exact⟨(Zd tp p0 (Kx L) h.sqf.2 e).trans (qV h),e⟩
theorem qZ{a b:List Rat}(ta:Jc a=a)(tb:Jc b=b)(a0:a≠[])(b0:b≠[])(ma:Js a=a)(mb:Js b=b):Js (Ji a b)=Ji a b:=by
 have h:=Md ta tb a0 b0;rw[Kq ta a0 ma,Kq tb b0 mb]at h;exact YO (Yu _) (Jv _ _) λx=>by rw[LV,h];grind
theorem qe{u v q:List Rat}(b:Jc u=u)(u0:u≠[])(c:Jc v=v)(E:v≠[])(tq:Jc q=q)(h:DT u v):Jr (Ji u v) q=Ji (Jr u q) (Jr v q):=by
 have tm:=Jv u v;obtain⟨d,k,f,l,w⟩:=Yf b tq;obtain⟨g,o,i,j,y⟩:=Yf c tq;obtain⟨c1,c2,_⟩:=Yf tm tq;have g0:=J6 b tq (Or.inl u0);have D:=J6 c tq (Or.inl E);have z:DT (Jr u q) (Jr v q):=(h.of_dv d).of_dv2 g;refine Dv.eq (JE _ _) (Jv _ _) (YM tm tq) (qZ (JE _ _) (JE _ _) g0 D (YM b tq) (YM c tq)) ?_ ?_
 . refine c1.comb c2 (Ji f i) (Xx (Ji (Ji f u) j) (Ji l (Xx (Ji i v) (Ji j q)))) λx=>?_;rw[Je,w,y,Je,Je,Ye,Je,Je,Je,Ye,Je,Je];grind
 . refine Ko tm tq ?_ ?_
   . obtain⟨r,a⟩:=d;obtain⟨s,hs⟩:=g;exact⟨Ji r s,λx=>by rw[Je,Je,Je,a,hs];grind⟩
   . obtain⟨m,n,e⟩:=z;obtain⟨r,a⟩:=k;obtain⟨s,hs⟩:=o;refine⟨Xx (Ji m s) (Ji n r),λx=>?_⟩;rw[Je,Ye,Je,Je];have A:=a x;have B:=hs x;have C:=e x
     have:ev q x=(ev m x*ev (Jr u q) x+ev n x*ev (Jr v q) x)*ev q x:=by rw[C,Cs]
     rw[this];have p:ev m x*ev (Jr u q) x*ev q x=ev m x*ev (Jr u q) x*(ev (Jr v q) x*ev s x):=by rw[<-B]
     have t:ev n x*ev (Jr v q) x*ev q x=ev n x*ev (Jr v q) x*(ev (Jr u q) x*ev r x):=by rw[<-A]
     rw[Rat.add_mul,p,t];grind
def qf(h:PtsOk L){q:List Rat}(tq:Jc q=q):nA (Jr (Eg L) q)=Ip L λw=>nA (Jr w q):=by
 induction L with
 |nil=>rw[Eg,Wz DN tq (Mn q)];exact Rf.1
 |cons s L e=>
  obtain⟨a,c,_,_⟩:=h.all s (AF ..);have b:DT s.1 (Eg L):=(OX L s.1 λt d=>((List.pairwise_cons.1 h.cop).1 t d).symm).symm;have w0:=(h.tail.sqf).2;have tw:=Kx L;rw[Eg,qe a c tw w0 tq b];rw[Zc (JE _ _) (J6 a tq (Or.inl c)) (JE _ _) (J6 tw tq (Or.inl w0)) ((b.of_dv (Yf a tq).1).of_dv2 (Yf tw tq).1),e h.tail];simp[Ip]
theorem qg{p r q:List Rat}(tp:Jc p=p)(p0:p≠[])(tr:Jc r=r)(r0:r≠[])(tq:Jc q=q)(q0:q≠[])(h:DO p=DO r):DO (Jr p q)=DO (Jr r q):=by
 have e:∀ {p r:List Rat},Jc p=p->p≠[]->Jc r=r->r≠[]->DO p=DO r->Dv (DO (Jr p q)) (DO (Jr r q)):=fun {p r} tp p0 tr r0 h=>by
  obtain⟨a,b,c,_,_,_,g,j,_,k⟩:=RY tp p0 tq q0;obtain⟨a',d,c',_,_,u,f1,f2,_,l⟩:=RY tr r0 tq q0;rw[k,l];obtain⟨m,n,t⟩:=(u.of_dv ((Dv.refl d).mul' a'):DT d c');have d1:Dv a (Ji a' d):=by rw[<-f1,<-h,g];exact(Dv.refl a).mul b
  have f:Dv a (Ji a' c'):=by rw[<-f2,j];exact(Dv.refl a).mul c
  refine d1.comb f m n λx=>?_;rw[Je,Je];have i:ev a' x=ev a' x*(ev m x*ev d x+ev n x*ev c' x):=by rw[t x,Rat.mul_one]
  grind
 have o:=J6 tp tq (Or.inl p0);have s:=J6 tr tq (Or.inl r0);have y1:=YV (JE p q) o;have y2:=YV (JE r q) s;exact Dv.eq y1.tw y2.tw y1.mw y2.mw (e tp p0 tr r0 h) (e tr r0 tp p0 h.symm)
def qh(h:PtsOk L){p q:List Rat}(tp:Jc p=p)(p0:p≠[])(hp:∀x,ev (Js p) x=Du L x)(tq:Jc q=q)(q0:q≠[]):nA (Jr p q)=Ip L λw=>nA (Jr w q):=by
 have e:=qg tp p0 (Kx L) h.sqf.2 tq q0 (Zf h tp p0 hp).2;rw[<-qf h tq];exact Zd (JE _ _) (J6 tp tq (Or.inl p0)) (JE _ _) (J6 (Kx L) tq (Or.inl h.sqf.2)) e
structure SdOk(S:Rat->Int):Prop where
 three:∀x,S x=-1\/S x=0\/S x=1
 mono:∀x y,x<y->S x<=0->S y=-1
def D3(S T:Rat->Int):Prop:=∃x,S x<=0/\0<=T x/\S x≠T x
def D3.irr{S:Rat->Int}:¬D3 S S:=λ⟨_,_,_,h⟩=>h J
def D3.trans{S U:Rat->Int}(e:SdOk S)(hT:SdOk T)(h:D3 S T)(d:D3 T U):D3 S U:=by
 obtain⟨x,a,f,g⟩:=h;obtain⟨y,c,b,i⟩:=d;rcases JX x y with r|r
 . rcases Rat.le_iff_lt_or_eq.1 r with r|r
   . have:=e.mono x y r a;exact⟨y,O,b,O⟩
   . subst r;exact⟨x,a,b,O⟩
 . rcases Rat.le_iff_lt_or_eq.1 r with r|r
   . have:=hT.mono y x r c;omega
   . subst r;exact⟨y,a,b,O⟩
def D3.asymm{S:Rat->Int}(b:SdOk S)(hT:SdOk T)(h:D3 S T):¬D3 T S:=λa=>D3.irr (h.trans b hT a)
def Irr.sd{w:List Rat}{a b:Rat}(h:Irr w a b):SdOk (Dl w a b) where
 three x:=by rcases h.sid_ne x with k|k<;>omega
 mono x y hxy hx:=(h.sid_mono (Rat.le_of_lt hxy)).2 (by rcases h.sid_ne x with k|k<;>omega)
def D4(r x:Rat):Int:=if r<x then -1 else if x<r then 1 else 0
def Zg(r:Rat):SdOk (D4 r) where
 three x:=by unfold D4;split;exact Or.inl J;split;exact Or.inr (Or.inr J);exact Or.inr (Or.inl J)
 mono x y hxy hx:=by
  unfold D4 at *;by_cases h:r<x
  . rw[BF DK]
  . rw[BE h]at hx;by_cases k:x<r
    . rw[BF k]at hx;omega
    . rw[BF DK]
def Lt.slt{w v:List Rat}{a b c d:Rat}(h:Lt w a b v c d):D3 (Dl w a b) (Dl v c d):=by
 obtain⟨x,e,f⟩:=h;exact⟨x,O,O,O⟩
def Irr.differ{w v:List Rat}{a b c d:Rat}(h:Irr w a b)(k:Irr v c d)(m:DT w v):¬ ∀x,Dl w a b x=Dl v c d x:=λe=>by
 have g:Dl w a b c=1:=by rw[e];exact k.low Rat.le_refl
 have l:Dl w a b d=-1:=by rw[e];exact k.high Rat.le_refl
 refine h.cop m ?_;rcases h.sg3 v with s|s|s
 . exact s
 . exfalso
   obtain⟨p1,n,_,_⟩:=ord_lt h k g l;have f:=k.nz d (Rat.le_of_lt k.ab) Rat.le_refl;rcases YW f with q|q
   . obtain⟨x,i,j⟩:=n s q;rw[e]at i;omega
   . obtain⟨x,i,j⟩:=p1 s q;rw[e]at j;omega
 . exfalso
   obtain⟨_,_,o,p⟩:=ord_lt h k g l;have f:=k.nz d (Rat.le_of_lt k.ab) Rat.le_refl;rcases YW f with q|q
   . obtain⟨x,i,j⟩:=o s q;rw[e]at j;omega
   . obtain⟨x,i,j⟩:=p s q;rw[e]at i;omega
section
variable {w g q p:List Rat} {a b r:Rat}
def Spn.factor_q(h:Spn w a b)(j:a<r)(l:r<=b)(e:ev w r=0)(tg:Jc g=g)(g0:g≠[])(m:Dv g w):(ev g r=0/\cw g a=cw g b+1)\/(ev g r≠0/\cw g a=cw g b):=by
 have f:=(JL tg g0 m).2;have i:Jc (Jm w g)=Jm w g:=YC _ _;have ew:w=Ji g (Jm w g):=YO h.tw (Jv _ _) λx=>by rw[Je];exact f x
 have u0:Jm w g≠[]:=λe=>h.w0 (by rw[ew,e,YI]);have sw:Df (Ji g (Jm w g)):=by rw[<-ew];exact h.sq
 have sg:Df g:=h.sq.of_dv h.tw m;have n:Df (Jm w g):=h.sq.of_dv h.tw ⟨g,λx=>by rw[f x,AX]⟩;have d:=Rat.le_of_lt h.ab;have k:=Rk tg g0 i u0 sg n sw.parts d;rw[<-ew]at k;have q:=JI tg g0 d;have s:=JI i u0 d;have p:=h.one;by_cases hg:ev g r=0
 . have:cw g a≠cw g b:=λc=>IJ tg g0 sg c j l hg
   exact Or.inl ⟨hg,O⟩
 . have o:ev (Jm w g) r=0:=by
    rw[f r]at e;exact(A2.1 e).resolve_left hg
   have:cw (Jm w g) a≠cw (Jm w g) b:=λc=>IJ i u0 n c j l o
   exact Or.inr ⟨hg,O⟩
def Spn.gcd_q(h:Spn w a b)(j:a<r)(l:r<=b)(e:ev w r=0)(tq:Jc q=q):(ev q r=0/\cw (Jr w q) a=cw (Jr w q) b+1)\/(ev q r≠0/\cw (Jr w q) a=cw (Jr w q) b):=by
 obtain⟨d1,i,s,t,m⟩:=Yf h.tw tq;have g:ev (Jr w q) r=0↔ev q r=0:=by
  constructor
  . intro k;obtain⟨c,n⟩:=i;rw[n,k,A6]
  . intro k;rw[m,e,k,CZ,CZ,Rat.add_zero]
 rcases h.factor_q j l e (JE w q) (J6 h.tw tq (Or.inl h.w0)) d1 with⟨d,f⟩|⟨d,f⟩
 . exact Or.inl ⟨g.1 d,f⟩
 . exact Or.inr ⟨λc=>d (g.2 c),f⟩
def Zh{c:List Rat}(h:DT w c)(e:ev w r=0):ev c r≠0:=λk=>by
 obtain⟨u,v,a⟩:=h;have:=a r;rw[e,k]at this;grind
theorem qi(sw:Df w)(e:ev w r=0){c:List Rat}{i:Nat}(b:DT w c)(hp:∀x,ev p x=ev w x*(ev w x^i*ev c x))(tp:Jc p=p):ev (Jb p) r=0↔1<=i:=by
 obtain⟨s,hs⟩:∃s:List Rat,∀x,ev s x=ev w x^i*ev c x:=by
  clear hp tp b;induction i with
  |zero=>exact⟨c,λx=>by rw[Rat.pow_zero,Cs]⟩
  |succ i g=>
   obtain⟨r,f⟩:=g;exact⟨Ji w r,λx=>by rw[Je,f,Rat.pow_succ];grind⟩
 have d:p=Ji w s:=YO tp (Jv _ _) λx=>by rw[Je,hs,hp]
 have nw:=Zh sw e;rw[d,Yr,e,A6,Rat.add_zero,hs,e];constructor
 . intro k;rcases AQ i with a|a
   . exfalso
     rw[a,Rat.pow_zero,Cs]at k;exact YU nw (Zh b e) k
   . exact a
 . intro k;obtain⟨j,rfl⟩:∃j,i=j+1:=⟨i-1,O⟩;rw[Rat.pow_succ,CZ,A6,CZ]
end
end
section
variable{K:Nat}
def qj{X:Nat}{n d:Int}(hn:Sm X n)(g:Sm X d):∀(zs:List Int),(∀z∈zs,Sm K z)->Sm (K+zs.length*(X+2)) (hZ n d zs):=by
 intro zs;induction zs with
 |nil=>intro _;exact Sm.zero _
 |cons c zs j=>
  intro h;have b:=(h c AF).mul (g.powZ zs.length);have e:=hn.mul (j λz i=>h z (AR _ i));have k:zs.length*(X+2)=zs.length*X+zs.length*2:=C1 _ _ _;have a:(zs.length+1)*(X+2)=zs.length*(X+2)+(X+2):=Nat.succ_mul _ _;rw[hZ,Ah,a];have f:=(b.mono (show K+(zs.length*X+1)<=K+zs.length*(X+2)+X+1 by omega)).add (e.mono (show X+(K+zs.length*(X+2))<=K+zs.length*(X+2)+X+1 by omega));exact f.mono O
theorem qm(n d:Int)(zs:List Int){k:Nat}(hk:k<zs.length):hZ n d (zs.drop (k+1))*n+zs[k]*d^(zs.length-(k+1))=hZ n d (zs.drop k):=by
 rw[AY hk,hZ,Ca];grind
theorem qn(x:Rat)(zs:List Int):XT (hZ x.num (x.den:Int) zs) 0=DY (ev (zs.map λz:Int=>(z:Rat)) x):=by
 by_cases e:zs=[]
 . rw[e];show XT 0 0=DY 0;decide
 . have h:=ZV x zs e;have d:(0:Rat)<((x.den:Int):Rat)^(zs.length-1):=Rat.pow_pos (by have:=x.den_pos;exact_mod_cast this);obtain⟨D,hD⟩:=ex (((x.den:Int):Rat)^(zs.length-1));obtain⟨E,hE⟩:=ex (ev (zs.map λz:Int=>(z:Rat)) x);obtain⟨a,hZ⟩:=ex (hZ x.num (x.den:Int) zs);rw[hD]at h d;rw[hE]at h ⊢;rw[hZ]at h ⊢;unfold XT;rcases Yy E with⟨c,b⟩|⟨c,b⟩|⟨c,b⟩
   . have:=Rat.mul_pos d (show 0 < -E by grind)
     have:(a:Rat)<0:=by rw[<-h];grind
     rw[BF (by exact_mod_cast this),b]
   . have:(a:Rat)=0:=by rw[<-h,c];grind
     have:a=0:=by exact_mod_cast this
     rw[this,b];rfl
   . have:=Rat.mul_pos d c
     have:(0:Rat)<(a:Rat):=by rw[<-h];exact this
     have:0<a:=by exact_mod_cast this
     rw[BE O,BF this,b]
def Wh.zs{p:List Rat}(h:Wh K p):∃zs:List Int,p=zs.map (λz:Int=>(z:Rat))/\∀z∈zs,Sm K z:=by
 obtain⟨zs,e⟩:=h.ints;refine⟨zs,e,λz c=>?_⟩;obtain⟨i,hi,rfl⟩:=C8.1 c;obtain⟨z,b,a⟩:=h i;rw[e,cf]at a
 have:((zs[i]:Int):Rat)=(z:Rat):=by simpa[List.getD,hi]using a
 have:zs[i]=z:=by exact_mod_cast this
 rw[this];exact b
section
variable {w v q:List Rat} {a b c d x:Rat}
variable{k:Rat}
theorem Nr.scl{P:Rat->Rat->Prop}(hk:k≠0):Nr (DQ k w) a b P↔Nr w a b P:=by
 have e:∀x z,ev (DQ k w) x*ev (DQ k w) z<0↔ev w x*ev w z<0:=λx z=>by
  rw[Jn,Jn];have l:ev w x*k*(ev w z*k)=(k*k)*(ev w x*ev w z):=DK
  have hp:0<k*k:=by
   rcases YW hk with h|h
   . have:=Rat.mul_pos (a:=-k) (b:=-k) DK DK;grind
   . exact Rat.mul_pos h h
  rw[l];constructor
  . intro h;exact Ku hp h
  . intro h;have:=Rat.mul_pos hp (show 0 < -(ev w x*ev w z)by grind);grind
 constructor
 . rintro⟨d,d0,h⟩;exact⟨d,d0,λx z c f g i j=>h x z c f g i ((e x z).2 j)⟩
 . rintro⟨d,d0,h⟩;exact⟨d,d0,λx z c f g i j=>h x z c f g i ((e x z).1 j)⟩
theorem Df.scl(hk:k≠0)(h:Df w):Df (DQ k w):=by
 obtain⟨u,v,a⟩:=h;refine⟨DQ (1/k) u,DQ (1/k) v,λx=>?_⟩;rw[Wv,Jn,Jn,Jn,Jn];have e:1/k*k=1:=Ak hk;have:=a x;grind
def Irr.scl{k:Rat}(h:Irr w a b)(hk:k≠0):Irr (DQ k w) a b/\∀q,Dh (DQ k w) a b q=Dh w a b q:=by
 have ts:Jc (DQ k w)=DQ k w:=JK _ _;have f:DQ k w≠[]:=Hn hk h.tw h.w0;have l:=OU ts f h.tw h.w0 (Rb hk h.tw) (Rat.le_of_lt h.ab);have i:Irr (DQ k w) a b:=⟨ts,f,h.sq.scl hk,h.ab,λx i j=>by
  rw[Jn];intro e;rcases A2.1 e with e|e
  . exact h.nz x i j e
  . exact hk e,by have:=h.one;unfold cw at *;omega⟩
 refine⟨i,λq=>?_⟩;rcases h.val q with⟨e,d⟩|⟨e,c,c0,d⟩|⟨e,c,c0,d⟩
 . rw[e];exact i.zero.2 λe g=>(Nr.scl hk).2 (d e g)
 . rw[e];exact i.pos.2 ⟨c,c0,(Nr.scl hk).2 d⟩
 . rw[e];exact i.minus.2 ⟨c,c0,(Nr.scl hk).2 d⟩
theorem Irr.chain(h:Irr w a b):(DP (JF (YQ w (Ji (Jb w) q)) a):Int)-(DP (JF (YQ w (Ji (Jb w) q)) b):Int)=Dh w a b q:=by
 obtain⟨c,c0,g⟩:=Xa h.tw;obtain⟨k,m,i⟩:=Xa (Jv (Jb w) q);have c1:c≠0:=λe=>by grind
 obtain⟨d,j⟩:=h.scl c1;have e:DQ k (Ji (Jb w) q)=Ji (Jb (DQ c w)) (DQ (k/c) q):=YO (JK _ _) (Jv _ _) λx=>by
  rw[Wv,Jn,Je,Je,Jn,Jn];have e:k/c*c=k:=Ak c1;grind
 have l:Dh (DQ c w) a b (DQ (k/c) q)=Dh (DQ c w) a b q:=by
  have f:Dh (DQ c w) a b (DQ (k/c) q)=Dh (DQ c w) a b (Ji [k/c] q):=d.ext λx=>by rw[Jn,Je,Jo,AX]
  rw[f,d.mul,(d.const (k/c)).1 (Yk m c0),Int.one_mul]
 rw[<-j q,<-l];unfold Dh EX YQ;rw[g,i,e]
end
structure RtQ where
 lo:Rat
 hi:Rat
 w:List Rat
 sg:Int
 tm:Nat
def RtQ.cut(r:RtQ)(x:Rat):RtQ:=if r.lo<x/\x<r.hi then(if DY (ev r.w x)=0\/DY (ev r.w x)=r.sg then⟨r.lo,x,r.w,DY (ev r.w x),r.tm⟩else⟨x,r.hi,r.w,r.sg,r.tm⟩)else r
def RtQ.mid(r:RtQ):Rat:=Dg r.lo r.hi
def RtQ.hv(r:RtQ):RtQ:=r.cut r.mid
def RtQ.side(r:RtQ)(x:Rat):Int:=Xt (r.cut x).mid x
def Ey(row:List (List Rat))(a b:Rat):Int:=(DP (JF row a):Int)-(DP (JF row b):Int)
def RtQ.sign(r:RtQ)(q:List Rat):Int:=if r.lo<r.hi then Ey (YQ r.w (Ji (Jb r.w) q)) r.lo r.hi else DY (ev q r.lo)
def RtQ.ord(r s:RtQ):Int:=if s.lo<s.hi then(if r.side s.lo<=0 then -1 else if 0<=r.side s.hi then 1 else r.sign s.w*s.sg)else r.side s.lo
structure RtQ.Ok(r:RtQ):Prop where
 tw:Jc r.w=r.w
 w0:r.w≠[]
 sq:Df r.w
 sgh:r.sg=DY (ev r.w r.hi)
 root:(r.lo=r.hi/\ev r.w r.lo=0)\/Irr r.w r.lo r.hi
def RtQ.S(r:RtQ)(x:Rat):Int:=if r.lo<r.hi then Dl r.w r.lo r.hi x else D4 r.lo x
def G9(r x:Rat):Xt r x=D4 r x:=by
 unfold D4;have e:Xt r x=-1\/Xt r x=0\/Xt r x=1:=by
  unfold Xt XT;split
  . exact Or.inl J
  . split
    . exact Or.inr (Or.inr J)
    . exact Or.inr (Or.inl J)
 have c:=I7 (p:=r) (q:=x);have d:=LL (p:=r) (q:=x);split
 . have:=c.2 (by assumption);omega
 . split
   . exact d.2 (by assumption)
   . rename_i a b
     have:¬Xt r x<0:=λh=>a (c.1 h)
     have:¬Xt r x=1:=λh=>b (d.1 h)
     omega
section
variable {r s t:RtQ} {x:Rat} {q:List Rat}
def RtQ.Ok.irr(h:r.Ok)(hl:r.lo<r.hi):Irr r.w r.lo r.hi:=by
 rcases h.root with⟨e,_⟩|k
 . rw[e]at hl;exact absurd hl (Rat.lt_irrefl)
 . exact k
def RtQ.Ok.rat(h:r.Ok)(hl:¬r.lo<r.hi):r.lo=r.hi/\ev r.w r.lo=0:=by
 rcases h.root with k|k
 . exact k
 . exact absurd k.ab hl
def RtQ.Ok.sd(h:r.Ok):SdOk r.S:=by
 unfold RtQ.S;by_cases hl:r.lo<r.hi
 . have:(λx=>if r.lo<r.hi then Dl r.w r.lo r.hi x else D4 r.lo x)=Dl r.w r.lo r.hi:=funext λx=>BF hl
   show SdOk λx=>if r.lo<r.hi then Dl r.w r.lo r.hi x else D4 r.lo x;rw[this];exact(h.irr hl).sd
 . have:(λx=>if r.lo<r.hi then Dl r.w r.lo r.hi x else D4 r.lo x)=D4 r.lo:=funext λx=>BE hl
   show SdOk λx=>if r.lo<r.hi then Dl r.w r.lo r.hi x else D4 r.lo x;rw[this];exact Zg _
theorem RtQ.Ok.sideS(h:r.Ok)(x:Rat):r.side x=r.S x:=by
 unfold RtQ.side RtQ.S RtQ.cut;by_cases hl:r.lo<r.hi
 . have k:=h.irr hl;rw[BF hl];have o:=G8 hl;by_cases c:r.lo<x/\x<r.hi
   . rw[BF c];have nz:=k.nz x (Rat.le_of_lt c.1) (Rat.le_of_lt c.2);have nb:=k.nz r.hi (Rat.le_of_lt hl) Rat.le_refl;have n:=k.mid (Rat.le_of_lt c.1) (Rat.le_of_lt c.2);rw[h.sgh];by_cases hs:DY (ev r.w x)=0\/DY (ev r.w x)=DY (ev r.w r.hi)
     . rw[BF hs];have hp:0<ev r.w x*ev r.w r.hi:=by
        rcases hs with e|e
        . exact absurd (XV.1 e) nz
        . rcases Yy (ev r.w x)with⟨d,g⟩|⟨d,_⟩|⟨d,g⟩
          . rw[g]at e;have:=VK.1 e.symm;have:=Rat.mul_pos (a:=-(ev r.w x)) (b:=-(ev r.w r.hi)) DK DK;grind
          . exact absurd d nz
          . rw[g]at e;exact Rat.mul_pos d (Ny.1 e.symm)
       rw[n.2 hp];have j:=(G8 c.1).2.1;show Xt (Dg r.lo x) x=-1;rw[G9];unfold D4;rw[BF j]
     . rw[BE hs];have hn:ev r.w x*ev r.w r.hi<0:=by
        rcases Yy (ev r.w x)with⟨d,g⟩|⟨d,_⟩|⟨d,g⟩
        . rcases Yy (ev r.w r.hi)with⟨f,l⟩|⟨f,_⟩|⟨f,l⟩
          . exact absurd (Or.inr (by rw[g,l])) hs
          . exact absurd f nb
          . have:=Rat.mul_pos (a:=-(ev r.w x)) (b:=ev r.w r.hi) DK f;grind
        . exact absurd d nz
        . rcases Yy (ev r.w r.hi)with⟨f,l⟩|⟨f,_⟩|⟨f,l⟩
          . have:=Rat.mul_pos (a:=ev r.w x) (b:=-(ev r.w r.hi)) d DK;grind
          . exact absurd f nb
          . exact absurd (Or.inr (by rw[g,l])) hs
       rw[n.1 hn];have j:=(G8 c.2).1;show Xt (Dg x r.hi) x=1;exact LL.2 j
   . rw[BE c];show Xt (Dg r.lo r.hi) x=_;by_cases m:x<=r.lo
     . rw[k.low m];exact LL.2 (Rat.not_le.1 λi=>absurd o.1 (Rat.not_lt.2 (Rat.le_trans i m)))
     . have j:r.hi<=x:=Rat.not_lt.1 λi=>c ⟨Rat.not_le.1 m,i⟩;rw[k.high j,G9];unfold D4;rw[BF (by have:=o.2.1;grind)]
 . have k:=h.rat hl;rw[BE hl,BE λi=>by have:=i.1;have:=i.2;rw[k.1]at *;grind];show Xt (Dg r.lo r.hi) x=_;rw[<-k.1,show Dg r.lo r.lo=r.lo by unfold Dg;grind,G9]
def RtQ.Ok.signI(h:r.Ok)(hl:r.lo<r.hi):r.sign q=Dh r.w r.lo r.hi q:=by
 unfold RtQ.sign Ey;rw[BF hl];exact(h.irr hl).chain
def RtQ.signR(hl:¬r.lo<r.hi):r.sign q=DY (ev q r.lo):=BE hl
def RtQ.SI(hl:r.lo<r.hi):r.S=Dl r.w r.lo r.hi:=funext λ_=>BF hl
def RtQ.SR(hl:¬r.lo<r.hi):r.S=D4 r.lo:=funext λ_=>BE hl
theorem RtQ.Ok.order(h:r.Ok)(k:s.Ok):(r.ord s=-1/\D3 r.S s.S)\/(r.ord s=1/\D3 s.S r.S)\/(r.ord s=0/\∀x,r.S x=s.S x):=by
 unfold RtQ.ord;by_cases hs:s.lo<s.hi
 . have f:=k.irr hs;rw[BF hs,h.sideS,h.sideS,RtQ.SI hs];have D:=f.low (x:=s.lo) Rat.le_refl;have E:=f.high (x:=s.hi) Rat.le_refl;by_cases l:r.S s.lo<=0
   . rw[BF l];exact Or.inl ⟨J,s.lo,l,O,O⟩
   . rw[BE l];by_cases d:0<=r.S s.hi
     . rw[BF d];exact Or.inr (Or.inl ⟨J,s.hi,O,d,O⟩)
     . rw[BE d];have nb:=f.nz s.hi (Rat.le_of_lt hs) Rat.le_refl;have o:=h.sd.three s.lo;have y:=h.sd.three s.hi;have sg3:(s.sg=-1/\ev s.w s.hi<0)\/(s.sg=1/\0<ev s.w s.hi):=by
        rw[k.sgh];rcases Yy (ev s.w s.hi)with⟨c,m⟩|⟨c,_⟩|⟨c,m⟩
        . exact Or.inl ⟨m,c⟩
        . exact absurd c nb
        . exact Or.inr ⟨m,c⟩
       by_cases n:r.lo<r.hi
       . have u:=h.irr n;rw[h.signI n];rw[RtQ.SI n]at l d o y ⊢;have q:Dl r.w r.lo r.hi s.lo=1:=O
         have t:Dl r.w r.lo r.hi s.hi=-1:=O
         obtain⟨z,A,B,C⟩:=ord_lt u f q t;rcases u.sg3 s.w with e|e|e
         . refine Or.inr (Or.inr ⟨by rw[e,Int.zero_mul],qH u f q t e⟩)
         . rcases sg3 with⟨g,j⟩|⟨g,j⟩
           . exact Or.inl ⟨by rw[e,g];rfl,(A e j).slt⟩
           . exact Or.inr (Or.inl ⟨by rw[e,g];rfl,(z e j).slt⟩)
         . rcases sg3 with⟨g,j⟩|⟨g,j⟩
           . exact Or.inr (Or.inl ⟨by rw[e,g];rfl,(B e j).slt⟩)
           . exact Or.inl ⟨by rw[e,g];rfl,(C e j).slt⟩
       . rw[RtQ.signR n];rw[RtQ.SR n]at l d o y ⊢;have q:D4 r.lo s.lo=1:=O
         have t:D4 r.lo s.hi=-1:=O
         have c:s.lo<r.lo:=LL.1 (by rw[G9];exact q);have m:r.lo<s.hi:=I7.1 (by rw[G9];omega);have nx:=f.nz r.lo (Rat.le_of_lt c) (Rat.le_of_lt m);have p:=f.mid (Rat.le_of_lt c) (Rat.le_of_lt m);have w:Dl s.w s.lo s.hi r.lo=-1->D3 (Dl s.w s.lo s.hi) (D4 r.lo):=λe=>⟨r.lo,O,by unfold D4;rw[BE Rat.lt_irrefl,BE Rat.lt_irrefl];omega,by unfold D4;rw[BE Rat.lt_irrefl,BE Rat.lt_irrefl];omega⟩;have v:Dl s.w s.lo s.hi r.lo=1->D3 (D4 r.lo) (Dl s.w s.lo s.hi):=λe=>⟨r.lo,by unfold D4;rw[BE Rat.lt_irrefl,BE Rat.lt_irrefl];omega,O,by unfold D4;rw[BE Rat.lt_irrefl,BE Rat.lt_irrefl];omega⟩;rcases Yy (ev s.w r.lo)with⟨c1,c2⟩|⟨c1,_⟩|⟨c1,c2⟩
         . rcases sg3 with⟨g,j⟩|⟨g,j⟩
           . refine Or.inr (Or.inl ⟨by rw[c2,g];rfl,w (p.2 ?_)⟩);have:=Rat.mul_pos (a:=-(ev s.w r.lo)) (b:=-(ev s.w s.hi)) DK DK;grind
           . refine Or.inl ⟨by rw[c2,g];rfl,v (p.1 ?_)⟩;have:=Rat.mul_pos (a:=-(ev s.w r.lo)) (b:=ev s.w s.hi) DK j;grind
         . exact absurd c1 nx
         . rcases sg3 with⟨g,j⟩|⟨g,j⟩
           . refine Or.inl ⟨by rw[c2,g];rfl,v (p.1 ?_)⟩;have:=Rat.mul_pos (a:=ev s.w r.lo) (b:=-(ev s.w s.hi)) c1 DK;grind
           . exact Or.inr (Or.inl ⟨by rw[c2,g];rfl,w (p.2 (Rat.mul_pos c1 j))⟩)
 . rw[BE hs,h.sideS,RtQ.SR hs];have F:D4 s.lo s.lo=0:=by unfold D4;rw[BE Rat.lt_irrefl,BE Rat.lt_irrefl]
   rcases h.sd.three s.lo with e|e|e
   . exact Or.inl ⟨e,s.lo,O,O,O⟩
   . refine Or.inr (Or.inr ⟨e,λx=>?_⟩);rcases(show x<s.lo\/x=s.lo\/s.lo<x by grind)with j|j|j
     . have l:=h.sd.three x;have d:¬r.S x<=0:=λi=>by have:=h.sd.mono x s.lo j i;omega
       have o:D4 s.lo x=1:=by unfold D4;rw[BE DK,BF j]
       omega
     . rw[j];omega
     . have d:=h.sd.mono s.lo x j O;have o:D4 s.lo x=-1:=by unfold D4;rw[BF j]
       omega
   . exact Or.inr (Or.inl ⟨e,s.lo,O,O,O⟩)
def RtQ.Ok.ord_lt(h:r.Ok)(k:s.Ok):r.ord s<0↔D3 r.S s.S:=by
 rcases h.order k with⟨e,i⟩|⟨e,i⟩|⟨e,i⟩
 . exact⟨λ_=>i,λ_=>by omega⟩
 . exact⟨λ_=>by omega,λj=>absurd j (D3.asymm k.sd h.sd i)⟩
 . refine⟨λ_=>by omega,λj=>?_⟩;rw[show r.S=s.S from funext i]at j;exact absurd j D3.irr
def RtQ.Ok.ord_gt(h:r.Ok)(k:s.Ok)(i:D3 s.S r.S):r.ord s=1:=by
 rcases h.order k with⟨_,j⟩|⟨e,_⟩|⟨_,j⟩
 . exact absurd j (D3.asymm k.sd h.sd i)
 . exact e
 . rw[show r.S=s.S from funext j]at i;exact absurd i D3.irr
def RtQ.Ok.ord_self(h:r.Ok):r.ord r=0:=by
 rcases h.order h with⟨_,j⟩|⟨_,j⟩|⟨e,_⟩
 . exact absurd j D3.irr
 . exact absurd j D3.irr
 . exact e
end
end
namespace M3
open Go.RowKit Go.Shelf
attribute [local go_sem] Oper.semAt_some
def qo:Sq 1:=Sq.of (show DV 1 1 from⟨Sm.one 1 O,Sm.one 1 O⟩) O
theorem qp(I:Value)(q:Rat)(w:World)(C:Jg w I q)(H:Sq q):
 Calls Tryz.prog 243 #[I] w λe w'=>∃u,e=.returned u/\Jg w' u (Yt q)/\Bl w w':=by
 obtain⟨az,S,aq,ah,bg,X,an,aj,rfl⟩:=Jg.form C;obtain⟨W0,L,g⟩:=LC 41 (.rat q) C 41 (.rat 0) (XE _);have F:=Z H;clear C H;go_enter Tryz.func243,Tryz.ntmps243
 go_upto_region 1 with fail
 rw[L.o];obtain⟨s1,Q,l1,c1,t1,U,k1,d1,v,r1,N,P⟩:=g.o.rat (i:=0) rfl;obtain⟨s,j,m,r⟩:=v.cq;obtain⟨s2,R,l2,c2,t2,W,k2,d2,a,r2,i2,j2⟩:=g.o.rat (i:=1) rfl;obtain⟨b,c,f,d⟩:=a.cq;obtain⟨l,k,p,o⟩:=a.fq;obtain⟨x,D,K⟩:=Db (QF _ q W0 r1 F.o) (λ(V:World) (h:Bl W0 V)=>LJ _ _ 0 q V (XE _) (r1.below h) GS F.o) r1;obtain⟨n,hn⟩:=ex (DY q);rw[hn]at x;have E:=Z hn;clear hn r1 N P;by_cases G:n<0
 . have y:=Z (show 0-q=Yt q by
    have B:=(OI q).1 (by rw[Nz,E.o];exact G);unfold Yt;rw[BF B];grind)
   rw[y.o]at D;go_wp2_with(first
    |(go_at_call 162;refine x.o.mono ?_;rintro e w1 ⟨rfl,hq⟩;clear s j m r;obtain⟨s,j,m,r⟩:=(v.below hq).cq;clear b c f d;obtain⟨b,c,f,d⟩:=(a.below hq).cq;clear l k p o;obtain⟨l,k,p,o⟩:=(a.below hq).fq)
    |(go_at_call 41;refine(D.o _ hq).mono ?_;rintro e w2 ⟨u2,rfl,t,M⟩;obtain⟨bf,T,ay,ai,bi,ae,ap,am,rfl⟩:=Jg.form t;have hq:=Bt hq M;clear s j m r;obtain⟨s,j,m,r⟩:=(v.below hq).cq;clear b c f d;obtain⟨b,c,f,d⟩:=(a.below hq).cq;clear l k p o;obtain⟨l,k,p,o⟩:=(a.below hq).fq))
   have A:=Bt g.o.2.2 hq;have z:=g.o.ge 1 rfl;exact BA (by simp[results,Tryz.results243,go_sem,b,c,f,d]) rfl ⟨_,rfl,t.put4 (a.below hq) rfl rfl rfl rfl _ _ _ _,Jw A z _ _ _ _⟩
 . have y:=Z (show Yt q=q by
    have B:¬q<0:=λh=>G (by rw[<-E.o,<-Nz];exact(OI q).2 h);unfold Yt;rw[BE B])
   go_wp2_with(go_at_call 162;refine x.o.mono ?_;rintro e w1 ⟨rfl,hq⟩;clear s j m r;obtain⟨s,j,m,r⟩:=(v.below hq).cq;clear b c f d;obtain⟨b,c,f,d⟩:=(a.below hq).cq;clear l k p o;obtain⟨l,k,p,o⟩:=(a.below hq).fq)
   have t:=K.o.below hq;rw[<-y.o]at t;have A:=Bt g.o.2.2 hq;have z:=g.o.ge 1 rfl;exact BA (by simp[results,Tryz.results243,go_sem,b,c,f,d]) rfl ⟨_,rfl,t.put4 (a.below hq) rfl rfl rfl rfl _ _ _ _,Jw A z _ _ _ _⟩
def qq(U W:Value)(p q:Rat)(w:World)(G:Jg w U p)(H:Jg w W q)(R:Sq p)(S:Sq q):
 Calls Tryz.prog 242 #[U,W] w λe w'=>∃u,e=.returned u/\Jg w' u (Im p q)/\Bl w w':=by
 obtain⟨s,a,l,c,t,b,k,d,rfl⟩:=Jg.form G;obtain⟨s',a',l',c',t',b',k',d',rfl⟩:=Jg.form H;obtain⟨W0,X,g⟩:=IE 41 (.rat p) G 41 (.rat q) H 41 (.rat 0) (XE _);have Qc:=Z R;have Qb:=Z S;clear G H R S;go_enter Tryz.func242,Tryz.ntmps242
 go_upto_region 1 with fail
 rw[X.o];obtain⟨s1,a1,l1,c1,t1,b1,k1,d1,I,r1,_,_⟩:=g.o.rat (i:=0) rfl;obtain⟨s2,a2,l2,c2,t2,b2,k2,d2,K,L,_,_⟩:=g.o.rat (i:=1) rfl;obtain⟨s3,a3,l3,c3,t3,b3,k3,d3,T,_,_,_⟩:=g.o.rat (i:=2) rfl;have C:=Z (XU _ _ p q W0 r1 L Qc.o Qb.o);obtain⟨n,hn⟩:=ex (Xt p q);rw[hn]at C;obtain⟨N,P,M⟩:=Db hn (And.intro r1 L) λ(V:World) (h:Bl W0 V)=>And.intro (I.below h) (And.intro (K.below h) (T.below h));obtain⟨y,z,A,B⟩:=I.cq;obtain⟨j,m,o,r⟩:=K.cq;clear hn r1 L I K T;by_cases Q:n<0
 . have D:=Z (show Im p q=q from BF (I7.1 (by rw[N.o];exact Q)));go_upto_region 2 with(go_at_call 32;refine C.o.mono ?_;rintro e w1 ⟨rfl,hq⟩;clear y z A B j m o r;obtain⟨_,x,f⟩:=M.o _ hq;obtain⟨y,z,A,B⟩:=x.cq;obtain⟨j,m,o,r⟩:=f.cq;obtain⟨f5,f6,f7,f8⟩:=f.fq;have E:=Z f;clear x f)
   go_wp2_with fail
   have v:=P.o.2.below hq;rw[<-D.o]at v;have F:=Bt g.o.2.2 hq;exact BA (by simp[results,Tryz.results242,go_sem,j,m,o,r]) rfl ⟨_,rfl,v.put4 E.o rfl rfl rfl rfl _ _ _ _,Jw F (g.o.ge 2 rfl) _ _ _ _⟩
 . have D:=Z (show Im p q=p from BE λh=>Q (by rw[<-N.o];exact I7.2 h));go_upto_region 3 with(go_at_call 32;refine C.o.mono ?_;rintro e w1 ⟨rfl,hq⟩;clear y z A B j m o r;obtain⟨x,_,f⟩:=M.o _ hq;obtain⟨y,z,A,B⟩:=x.cq;obtain⟨j,m,o,r⟩:=f.cq;obtain⟨f5,f6,f7,f8⟩:=f.fq;have E:=Z f;clear x f)
   go_wp2_with fail
   have v:=P.o.1.below hq;rw[<-D.o]at v;have F:=Bt g.o.2.2 hq;exact BA (by simp[results,Tryz.results242,go_sem,j,m,o,r]) rfl ⟨_,rfl,v.put4 E.o rfl rfl rfl rfl _ _ _ _,Jw F (g.o.ge 2 rfl) _ _ _ _⟩
