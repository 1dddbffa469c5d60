import Derived.Test.YtdmmbgahnkbnaaaGreatDoorV38
set_option linter.all false
open Go renaming Value->C,World->E
set_option maxRecDepth 99999
set_option maxHeartbeats 0
namespace Go.Proofs.YtdmmbgahnkbnaaaGreatDoor
open Go.RowKit Go.Shelf
section
theorem qB{a b c:Rat}(h:0<a*b):c*a<0↔c*b<0:=by
 by_cases c0:c=0
 . subst c0;simp
 . obtain⟨a0,b0⟩:=Jy h;rw[Rj c0 a0,Rj c0 b0]
   have:¬(a*b<0):=DH
   rw[Rj a0 b0]at this;grind
def Gg:List Rat->Rat
 |[]=>0
 |c::t=>if c=0 then Gg t else c
theorem ZK(t:List Rat):∀(a v:Rat),0<v*Gg t->Xk a t=(if a*v<0 then 1 else 0)+Xk v t:=by
 induction t with
 |nil=>intro a v h;simp[Gg]at h
 |cons c t b=>
  intro a v h;grind[Gg,Xk,qB]
def Iq:Rat->List Rat->Rat
 |a,[]=>a
 |a,b::l=>if b=0 then Iq a l else Iq b l
theorem qC(l:List Rat):∀a b:Rat,Xk a (l++[b])=Xk a l+(if Iq a l*b<0 then 1 else 0):=by
 induction l with
 |nil=>
  intro a b;rw[Al,Iq];by_cases b0:b=0
  . subst b0;simp[Xk]
  . rw[X8 b0];simp[Xk]
 |cons c l d=>
  intro a b;grind[Iq,Xk]
theorem qD(l:List Rat):∀a b:Rat,Iq a (l++[b])=if b=0 then Iq a l else b:=by
 induction l with
 |nil=>intro a b;rfl
 |cons c l d=>
  intro a b;grind[Iq]
def qE(l:List Rat):Iq 0 l.reverse=Gg l:=by
 induction l with
 |nil=>rfl
 |cons c t a=>rw[List.reverse_cons,qD,a,Gg]
theorem ZL(l:List Rat):Gg l=0->∀a,Xk a l=0:=by
 induction l with
 |nil=>intro _ a;rfl
 |cons c t b=>
  intro h a;grind[Gg,Xk]
theorem qF(l:List Rat):DM l.reverse=DM l:=by
 induction l with
 |nil=>rfl
 |cons c t a=>
  rw[List.reverse_cons];show Xk 0 (t.reverse++[c])=Xk 0 (c::t);rw[qC,qE];have a:Xk 0 t.reverse=Xk 0 t:=a;rw[a];by_cases c0:c=0
  . subst c0;rw[Xk,BF rfl,Fl,BE DK];rfl
  . rw[X8 c0,AY,BE (show ¬(0:Rat)<0 by decide)];by_cases f0:Gg t=0
    . rw[f0,AY,BE (show ¬(0:Rat)<0 by decide),ZL t f0,ZL t f0]
    . have ff:0<Gg t*Gg t:=by
       have:=XJ (f:=[Gg t]) f0 (λx=>Jm _ x) 0 0;unfold Stb at this;rwa[Jm]at this
      have b:=ZK t 0 (Gg t) ff;grind[ZK]
def Ir(a b:Rat):Rat:=if a<b then b else a
def EH(p:List Rat):Nat->Rat
 |0=>0
 |n+1=>Ir (EH p n) (Yn (cf p n/cf p (p.length-1)))
def Yf(p:List Rat):Rat:=EH p (p.length-1)+1
theorem ZM(p:List Rat)(n:Nat):0<=EH p n:=by
 induction n with
 |zero=>exact Rat.le_refl
 |succ n a=>
  rw[EH,Ir];grind
theorem qG(p:List Rat)(n:Nat):∀i,i<n->Yn (cf p i/cf p (p.length-1))<=EH p n:=by
 induction n with
 |zero=>intro i h;omega
 |succ n a=>
  intro i h;grind[EH,Ir]
theorem qH{p:List Rat}(tp:Jc p=p)(p0:p≠[])(i:Nat)(h:i+1<p.length):Wi (EH p (p.length-1)*(cf p (p.length-1)*cf p (p.length-1))) (cf p (p.length-1)*cf p i):=by
 have d:=qG p (p.length-1) i O;have j:=Jt tp p0;generalize EH p (p.length-1)=M at *;generalize cf p (p.length-1)=k at *;generalize cf p i=c at *;have e:c=c/k*k:=(Aj j).symm;obtain⟨r,g⟩:=ex (c/k);rw[g]at d e;have l:-M<=r/\r<=M:=by
  unfold Yn at d;grind
 have f:=Xl k;have m:=Rat.mul_nonneg (a:=M-r) (b:=k*k) DH f;have n:=Rat.mul_nonneg (a:=M+r) (b:=k*k) DH f;rw[e];constructor<;>grind
theorem Mr(p:List Rat):0<Yf p:=by
 have:=ZM p (p.length-1);unfold Yf;grind
theorem qI{k v:Rat}(c:k≠0)(h:k*k<=k*v):k*k<=v*v:=by
 have d:0<k*k:=by
  have:=XJ (f:=[k]) c (λx=>Jm _ x) 0 0;unfold Stb at this;rwa[Jm]at this
 have e:=Rat.mul_nonneg (a:=k*v-k*k) (b:=k*v+k*k) DH DH;rcases JV (k*k) (v*v)with h|h
 . exact h
 . rcases Rat.le_iff_lt_or_eq.1 h with h|h
   . have:=Rat.mul_pos (a:=k*k) (b:=k*k-v*v) d DH;grind
   . grind
theorem sq_pow{s:Rat}(hs:s*s=1)(n:Nat):s^n*s^n=1:=by
 induction n with
 |zero=>grind
 |succ n a=>rw[Rat.pow_succ];grind
theorem ZN{p:List Rat}(tp:Jc p=p)(p0:p≠[]){s:Rat}(hs:s*s=1){x:Rat}(b:Yf p<=x):cf p (p.length-1)*cf p (p.length-1)<=ev p (s*x)*ev p (s*x):=by
 have c:=Jt tp p0;have h:=pq hs (ZM p (p.length-1)) p tp p0 _ rfl (qH tp p0) x (by unfold Yf at b;grind);have e:=sq_pow hs (p.length-1);generalize s^(p.length-1)=r at *;generalize cf p (p.length-1)=k at *;generalize ev p (s*x)=v at *;have:=qI (k:=k) (v:=r*v) c DH;have a:r*v*(r*v)=(r*r)*(v*v):=DH
 rw[a,e,Cq]at this;exact this
def ZO{p:List Rat}(tp:Jc p=p)(p0:p≠[]):0<cf p (p.length-1)*cf p (p.length-1):=by
 have:=XJ (f:=[cf p (p.length-1)]) (Jt tp p0) (λx=>Jm _ x) 0 0;unfold Stb at this;rwa[Jm]at this
theorem qJ{p:List Rat}(tp:Jc p=p)(p0:p≠[]):DM (JD (Jw p) (Yf p))=DM (FW (Jw p)):=by
 obtain⟨B,e,c,_⟩:=Xa (Yi tp p0);have b0:=Mr p;have:=ZI tp p0 (ZO tp p0) (a:=Yf p) (b:=Yf p+B) (by clear c;grind) (λx d _=>by
  have:=ZN tp p0 (s:=1) DH d;rwa[Cq]at this)
 grind
theorem qK{p:List Rat}(tp:Jc p=p)(p0:p≠[]):DM (JD (Jw p) (-(Yf p)))=DM (EE (Jw p)):=by
 obtain⟨B,d,_,c⟩:=Xa (Yi tp p0);have b0:=Mr p;have:=ZI tp p0 (ZO tp p0) (a:=-(Yf p+B)) (b:=-(Yf p)) (by clear c;grind) (λx _ e=>by
  have:=ZN tp p0 (s:=-1) DH (x:=-x) (by clear c;grind);rwa[show(-1:Rat)*-x=x by clear c;grind]at this)
 grind
def nA(p:List Rat):Int:=(DM (EE (Jw p)):Int)-(DM (FW (Jw p)):Int)
def nB(p:List Rat)(x:Rat):Int:=(DM (EE (Jw p)):Int)-(DM (JD (Jw p) x):Int)
def Rk(p:Prop)[Decidable p]:Int:=if p then 1 else 0
section
variable {p q:List Rat} (tp:Jc p=p) (p0:p≠[]) (tq:Jc q=q) (q0:q≠[])
def Rl(tp:Jc p=p)(p0:p≠[])(tq:Jc q=q)(q0:q≠[]):nA (Ji p q)=nA p+nA q-nA (Js p q):=by
 have h:=ph tp p0 tq q0;unfold nA;omega
def ZP(tp:Jc p=p)(p0:p≠[])(tq:Jc q=q)(q0:q≠[])(x:Rat):nB (Ji p q) x=nB p x+nB q x-nB (Js p q) x:=by
 have h:=ZH tp p0 tq q0 x;unfold nB;omega
end
variable{R:List Rat}
theorem ZR{p:List Rat}(tp:Jc p=p)(p0:p≠[]){F:Rat->Nat}(h:∀ {B:Rat},0<=B->Sh B λx z=>F x+J1 (DL p) x z=F z){u d:Nat}{X:Rat}(r:∀x,X<=x->F x=u)(q:∀x,x<=-X->F x=d):nA p=(u:Int)-(d:Int)/\∀x,nB p x=(F x:Int)-(d:Int):=by
 have g:∀a b,a<=b->DM (JD (Jw p) a)+F a=DM (JD (Jw p) b)+F b:=λa b j=>by
  obtain⟨A,k,hA⟩:=JN a;obtain⟨C,m,hC⟩:=JN b;have f:0<=A+C:=DH
  exact ZJ (P:=λx z=>DM (JD (Jw p) x)+F x=DM (JD (Jw p) z)+F z) (λ_=>rfl) (λ_ _ _ c e=>c.trans e)
   (((Ri tp p0 f).and (h f)).mono λx z _ _ _ ⟨c,e⟩=>by show _=_;omega) (hA.mono DH) (hC.mono DH) j
 obtain⟨B,l,c,e⟩:=Xa (Yi tp p0);obtain⟨n,o,i⟩:=JN X;have y1:=i.1;grind[nA,nB]
theorem Ky(r:Rat):Jc [-r,1]=[-r,1]/\Jr [-r,1]=[-r,1]/\DL [-r,1]=[-r,1]:=by
 have t:Jc [-r,1]=[-r,1]:=XA (Or.inr (by show(1:Rat)≠0;decide));have m:Jr [-r,1]=[-r,1]:=YG (Yo _) t λx=>by
  rw[Ku];show _*(1/(1:Rat))=_;grind
 refine⟨t,m,pi t DI m ⟨[],[1],λx=>?_⟩⟩;rw[Jm,XZ];simp only[ev,dv];grind
theorem ZS(r:Rat):nA [-r,1]=1/\∀x,nB [-r,1] x=Rk (r<=x):=by
 obtain⟨t,m,f⟩:=Ky r;obtain⟨b,e,a⟩:=JN r;have y1:=a.1;have y2:=a.2;obtain⟨g,i⟩:=ZR t DI (F:=λx=>if r<=x then 1 else 0) (λj=>Sh.all λx z _ _ k=>by
  grind[pm]) (u:=1) (d:=0) (X:=b+1) (λx c=>BF DH) (λx c=>BE DH)
 grind[Rk]
def Kz:nA [1]=0/\∀x,nB [1] x=0:=by
 have t:Jc [(1:Rat)]=[1]:=DK
 refine ZR t DI (F:=λ_=>0) (λb=>Sh.all λx z _ _ _=>?_) (u:=0) (d:=0) (X:=0) (λ_ _=>rfl) (λ_ _=>rfl) |> λh=>⟨by rw[h.1];rfl,λx=>by rw[h.2 x];rfl⟩
 show 0+J1 (DL [1]) x z=0;have a:=YN t DI;have:=(a.dv.len a.tw a.tR a.R0).1;rw[XY t]at this;rw[X2 (RK a.tw a.w0 (by simpa using this) x z)]
theorem OX{p:List Rat}(tp:Jc p=p)(r:Rat):Js p [-r,1]=if ev p r=0 then [-r,1]else [1]:=by
 obtain⟨t,m,_⟩:=Ky r;have e:=ND p r;have a:∀x,ev [-r,1] x=x-r:=λx=>by simp only[ev];grind
 by_cases h:ev p r=0
 . rw[BF h];have d:Dv [-r,1] p:=⟨Ha p r,λx=>by rw[e x,h,a];grind⟩;grind[J6,Dv.eq,JE,YF,Ik,Dv.refl]
 . rw[BE h];refine RZ tp t ⟨[1/ev p r],DN (-(1/ev p r)) (Ha p r),λx=>?_⟩;grind[Jo,ev]
structure Made(p:List Rat)(R:List Rat):Prop where
 tp:Jc p=p
 p0:p≠[]
 all:nA p=(R.length:Int)
 bel:∀x,nB p x=((R.filter λr=>decide (r<=x)).length:Int)
 rt:∀r,ev p r=0↔r∈R
theorem Made.one:Made [1] [] where
 tp:=DK
 p0:=DI
 all:=Kz.1
 bel:=λx=>Kz.2 x
 rt:=λr=>by rw[Jm];simp
theorem Made.old{p:List Rat}(h:Made p R){r:Rat}(a:r∈R):Made (Ji p [-r,1]) R:=by
 obtain⟨t,m,_⟩:=Ky r;have g:=OX h.tp r;rw[BF ((h.rt r).2 a)]at g;refine⟨Jq _ _,Yt h.tp t h.p0 DI,?_,λx=>?_,λx=>?_⟩
 . rw[Rl h.tp h.p0 t DI,g,h.all];omega
 . rw[ZP h.tp h.p0 t DI,g,h.bel];omega
 . rw[Jd];constructor
   . intro e;rcases AM.1 e with e|e
     . exact(h.rt x).1 e
     grind[ev]
   . intro e;rw[(h.rt x).2 e];grind
theorem Made.new{p:List Rat}(h:Made p R){r:Rat}(a:r ∉ R):Made (Ji p [-r,1]) (R++[r]):=by
 obtain⟨t,m,_⟩:=Ky r;have g:=OX h.tp r;rw[BE λe=>a ((h.rt r).1 e)]at g;obtain⟨l1,l2⟩:=ZS r;refine⟨Jq _ _,Yt h.tp t h.p0 DI,?_,λx=>?_,λx=>?_⟩
 . rw[Rl h.tp h.p0 t DI,g,h.all,l1,Kz.1,Am];simp
 . rw[ZP h.tp h.p0 t DI,g,h.bel,l2,Kz.2,List.filter_append,Am];grind[Rk]
 . rw[Jd,Cp,List.mem_singleton];constructor
   . intro e;rcases AM.1 e with e|e
     . exact Or.inl ((h.rt x).1 e)
     . exact Or.inr (by simp only[ev]at e;grind)
   . rintro(e|e)
     . rw[(h.rt x).2 e];grind
     . rw[e];simp only[ev];grind
theorem OY(c:Rat):Jc [c,0,1]=[c,0,1]/\∀x,ev [c,0,1] x=c+x*x:=by
 refine⟨XA (Or.inr (by show(1:Rat)≠0;decide)),λx=>?_⟩;simp only[ev];grind
end
section
variable{k:Rat}
def ZT{w:List Rat}(h:DY w){B:Rat}(a:0<=B):Sh B λx z=>¬Stb w x z->x<z->0<ev (Jb w) x*(ev w z-ev w x):=by
 obtain⟨u,v,c⟩:=h;obtain⟨U,l,b⟩:=XR u a;have d:U*(1/4/U)=1/4:=by rw[AU,Aj DH]
 refine rise_of (y:=v) (k:=3/4) a DH ((Xj w a (Yl Hb l)).mono λx z i j _ e hn=>?_);obtain⟨f,g⟩:=e hn;exact⟨KV (c x) (b x i) f (by rw[d];exact Rat.le_refl),KV (c z) (b z j) g (by rw[d];exact Rat.le_refl)⟩
theorem qL{g:List Rat}:∀(n:Nat) (a b:List Rat),b.length<=n->Jc b=b->Dv g a->Dv g b->∀p∈EW a b,Dv g p:=by
 intro n;induction n with
 |zero=>
  intro a b hn _ d _ p hp
  have:b=[]:=Ak.1 O
  subst this;rw[KL,List.mem_singleton]at hp;rw[hp];exact d
 |succ n k=>
  intro a b hn tb d e p hp;by_cases b0:b=[]
  . subst b0;rw[KL,List.mem_singleton]at hp;rw[hp];exact d
  . rw[XM tb b0]at hp;rcases Fh.1 hp with hp|hp
    . rw[hp];exact d
    . have hl:=Xo (a:=a) tb b0;obtain⟨q,c,c0,j⟩:=Ra (a:=a) tb b0;refine k b (XI a b) O (Ij _ _) e (d.comb e [-(Ed a b/c)] (Ji [1/c] q) λx=>?_) p hp;rw[Jm,Jd,Jm];have l:=j x;have f:1/c*c=1:=Aj DH;have i:Ed a b/c=1/c*Ed a b:=by rw[FG,FG,Cq,AU]
      rw[i];have m:ev (XI a b) x=1/c*(c*ev (XI a b) x):=by rw[<-Rat.mul_assoc,f,Cq]
      grind
theorem qM(hk:k≠0):∀(l:List Rat) (a:Rat),Xk (k*a) (l.map λx=>k*x)=Xk a l:=by
 intro l;induction l with
 |nil=>intro a;rfl
 |cons b l c=>
  intro a;rw[List.map_cons];by_cases b0:b=0
  . rw[b0,Fl,Xk,Xk,BF rfl,BF rfl,c]
  . have kb:k*b≠0:=λe=>by rcases AM.1 e with e|e;exact hk e;exact b0 e
    rw[X8 kb,X8 b0,c];have e:k*a*(k*b)=(k*k)*(a*b):=DH
    have d:0<k*k:=by
     rcases Rat.le_iff_lt_or_eq.1 (Xl k)with h|h
     . exact h
     . rcases AM.1 h.symm with h|h<;>exact absurd h hk
    by_cases hn:a*b<0
    . rw[BF hn,BF (by rw[e];have:=Rat.mul_pos d (show 0 < -(a*b)by grind);grind)]
    . rw[BE hn,BE (by rw[e];have:=Rat.mul_nonneg (a:=k*k) (b:=a*b) DH DH;grind)]
def ZU(hk:k≠0)(l:List Rat):DM (l.map λx=>k*x)=DM l:=by
 have:=qM hk l 0;rwa[Fl]at this
theorem Xw{a b:Rat}(h:0<a)(c:0<a*b):0<b:=by
 rcases JV b 0 with q|q
 . have:=Rat.mul_nonneg (a:=a) (b:=-b) DH DH;grind
 . rcases Rat.le_iff_lt_or_eq.1 q with q|q
   . exact q
   . rw[<-q]at c;grind
theorem KN{a b:Rat}(h:0<a)(c:a*b<0):b<0:=by
 have:=Xw (a:=a) (b:=-b) h DH;grind
def ZV{a b:Rat}(h:a<0)(c:a*b<0):0<b:=Xw (a:=-a) (b:=b) DH DH
theorem qN{A C d:Rat}(h:0<d*(C-A))(c:A*C<0):A*d<0:=by
 have e:=Rat.mul_pos h (show 0<A*A-A*C by have:=Xl A;grind);have f:=Xg (a:=C-A) (b:=-(A*d)) DH;grind
def D8(w q:List Rat):List (List Rat):=EW w (Ji (Jb w) q)
structure TkG(w q g:List Rat):Prop where
 tg:Jc g=g
 g0:g≠[]
 dw:Dv g w
 dq:Dv g q
 all:∀d,Dv d w->Dv d q->Dv d g
 cop:DR (Jn w g) q
 stay:∀ {B:Rat},0<=B->Sh B λx z=>Stb w x z->DM (JD (D8 w q) x)=DM (JD (D8 w q) z)
 step:∀ {B:Rat},0<=B->Sh B λx z=>ev w x*ev w z<0->(ev g x*ev g z<0/\DM (JD (D8 w q) x)=DM (JD (D8 w q) z))\/
  (Stb g x z/\Stb q x z/\((0<ev q x/\DM (JD (D8 w q) x)=DM (JD (D8 w q) z)+1)\/(ev q x<0/\DM (JD (D8 w q) x)+1=DM (JD (D8 w q) z))))
theorem ZW{w q:List Rat}(tw:Jc w=w)(w0:w≠[])(hs:DY w):∃g,TkG w q g:=by
 have tb:=Jq (Jb w) q;obtain⟨g,_,tg,g0,m,G,h4,hD⟩:=Mm _ w (Ji (Jb w) q) (Aa _) tw tb w0;have k:=(JI tg g0 m).2;have I:=(JI tg g0 G).2;have U:∀p∈D8 w q,∀x,ev p x=ev g x*ev (Jn p g) x:=λp hp x=>(JI tg g0 (qL _ w _ (Aa _) tb m G p hp)).2 x;have hv:∀x,ev g x≠0->DM (JD (D8 w q) x)=DM (JD ((D8 w q).map λp=>Jn p g) x):=λx l=>by
  rw[<-ZU l (JD ((D8 w q).map λp=>Jn p g) x)];congr 1;unfold JD;rw[FA,FA];exact Ce λp hp=>U p hp x
 have X:w=Ji g (Jn w g):=YG tw (Jq _ _) λx=>by rw[Jd];exact k x
 have K:DR (Jn w g) g:=(DY.parts (a:=g) (b:=Jn w g) (by rw[<-X];exact hs)).symm;have dq:Dv g q:=by
  have c1:DR g (Jb w):=DR.of_dv hs m;exact c1.dv G
 obtain⟨t,i⟩:=chnL_head w (Ji (Jb w) q);have j:StC (Jn w g::t.map λp=>Jn p g):=by
  have:=hD;rw[i,List.map_cons]at this;exact this
 have o:(D8 w q).map (λp=>Jn p g)=Jn w g::t.map λp=>Jn p g:=by
  unfold D8;rw[i,List.map_cons]
 have es:∀n y,t=n::y->n=Ji (Jb w) q:=λn y e=>by
  rw[e]at i;have b0:Ji (Jb w) q≠[]:=λe=>by
   rw[e,KL]at i;cases i
  rw[XM tb b0]at i;obtain⟨t2,ae⟩:=chnL_head (Ji (Jb w) q) (XI w (Ji (Jb w) q));rw[ae]at i;injection i with _ i
  injection i with i _
  exact i.symm
 have H:DR (Jn w g) q:=by
  match t,j,es with
  |[],j,_=>
   obtain⟨⟨c,c0,u⟩⟩:=j;refine⟨[1/c],[],λx=>?_⟩;rw[Jm,u]
   have:1/c*c=1:=Aj c0
   simp[ev];grind
  |n::y,j,es=>
   obtain rfl:=es n y rfl;have W:DR (Jn w g) (Jn (Ji (Jb w) q) g):=j.cop;exact DR.right (b:=Jb w) ((K.mul W).ext (λ_=>rfl) λx=>by rw[Jd g,I x])
 refine⟨g,tg,g0,m,dq,λd d1 d2=>h4 d d1 (d2.mul' (Jb w)),H,fun {B} s=>?_,fun {B} s=>?_⟩
 . refine((j.gd s).and (Mq K s)).mono λx z _ _ _ hh f=>?_;have hg:=hh.1;have D:=hh.2;have e:ev w x*ev w z=(ev g x*ev g z)*(ev (Jn w g) x*ev (Jn w g) z):=by rw[k x,k z];grind
   unfold Stb at f D;rw[e]at f;obtain⟨v,n2⟩:=Jy f;have su:Stb (Jn w g) x z:=by
    unfold Stb;rcases D with h|h
    . exact h
    . exact Xw h f
   have l:ev g x≠0:=λe=>v (by rw[e,AY]);have A:ev g z≠0:=λe=>v (by rw[e,Fl]);rw[hv x l,hv z A,o];exact hg.stay su
 . match t,j,o,es with
   |[],j,o,_=>
    obtain⟨⟨c,c0,u⟩⟩:=j;refine(Sh.all λx z _ _ _ f=>Or.inl ?_);have e:ev w x*ev w z=(ev g x*ev g z)*(c*c):=by rw[k x,k z,u,u];grind
    rw[e]at f;have c2:0<c*c:=by
     rcases Rat.le_iff_lt_or_eq.1 (Xl c)with h|h
     . exact h
     . rcases AM.1 h.symm with h|h<;>exact absurd h c0
    have r:ev g x*ev g z<0:=KN c2 DH;obtain⟨l,A⟩:=PJ r;refine⟨r,?_⟩;rw[hv x l,hv z A,o];show DM [ev (Jn w g) x]=DM [ev (Jn w g) z];rw[u,u]
   |n::y,j,o,es=>
    obtain rfl:=es n y rfl;refine(((j.gd s).and (Mq H s)).and (ZT hs s)).mono λx z _ _ ah hh f=>?_;have hg:=hh.1.1;have D:=hh.1.2;have hr:=hh.2;have e:ev w x*ev w z=(ev g x*ev g z)*(ev (Jn w g) x*ev (Jn w g) z):=by rw[k x,k z];grind
    have V:x<z:=by
     rcases Rat.le_iff_lt_or_eq.1 ah with h|h
     . exact h
     . rw[<-h]at f;have:=Xl (ev w x);grind
    have ai:=qN (hr (λh=>by unfold Stb at h;grind) V) f;rw[e]at f;obtain⟨v,n2⟩:=PJ f;have l:ev g x≠0:=λe=>v (by rw[e,AY]);have A:ev g z≠0:=λe=>v (by rw[e,Fl]);rw[hv x l,hv z A,o];by_cases r:ev g x*ev g z<0
    . exact Or.inl ⟨r,hg.stay (ZV r f)⟩
    . have N:0<ev g x*ev g z:=by
       rcases Rat.le_iff_lt_or_eq.1 (Rat.not_lt.1 r)with h|h
       . exact h
       . exact absurd h.symm v
      have un:=KN N f;have R:¬Stb (Jn w g) x z:=λh=>by unfold Stb at h;grind
      have ss:=(hg.adj).resolve_left R;have sq:=D.resolve_left R;refine Or.inr ⟨N,sq,?_⟩;obtain⟨s1,s2⟩:=Jy ss;rw[JX,List.map_cons,JX,JX,JX,Iy s1,Iy s2,hg.tail.same _ _ _ (Aa _) ss];have L:(ev g x*ev g x)*(ev (Jn w g) x*ev (Jn (Ji (Jb w) q) g) x)=(ev w x*ev (Jb w) x)*ev q x:=by
       have h1:=k x;have m:=I x;rw[Jd]at m;rw[Rat.mul_assoc (ev w x),m,h1];grind
      have M:0<ev g x*ev g x:=by
       rcases Rat.le_iff_lt_or_eq.1 (Xl (ev g x))with h|h
       . exact h
       . rcases AM.1 h.symm with h|h<;>exact absurd h l
      have e2:(ev (Jn w g) x*ev (Jn (Ji (Jb w) q) g) x)*(ev (Jn w g) z*ev (Jn (Ji (Jb w) q) g) z)=(ev (Jn w g) x*ev (Jn w g) z)*(ev (Jn (Ji (Jb w) q) g) x*ev (Jn (Ji (Jb w) q) g) z):=DH
      have F:(ev (Jn w g) x*ev (Jn w g) z)*(ev (Jn (Ji (Jb w) q) g) x*ev (Jn (Ji (Jb w) q) g) z)<0:=by
       have:=Rat.mul_pos (show 0 < -(ev (Jn w g) x*ev (Jn w g) z)by grind) ss;grind
      rw[<-e2]at F;generalize ev (Jn w g) x*ev (Jn (Ji (Jb w) q) g) x=P at *;generalize ev (Jn w g) z*ev (Jn (Ji (Jb w) q) g) z=Q at *;generalize Xk (ev (Jn (Ji (Jb w) q) g) z) _=T at *;obtain⟨S,_⟩:=Jy sq;rcases JV (ev q x) 0 with h|h
      . have q1:ev q x<0:=by
         rcases Rat.le_iff_lt_or_eq.1 h with h|h
         . exact h
         . exact absurd h S
        have p1:0<P:=Xw M (by rw[L];have:=Rat.mul_pos (show 0 < -(ev w x*ev (Jb w) x)by grind) (show 0 < -(ev q x)by grind);grind);have q2:Q<0:=KN p1 F;refine Or.inr ⟨q1,?_⟩;rw[BE DH,BF q2];omega
      . have q1:0<ev q x:=by
         rcases Rat.le_iff_lt_or_eq.1 h with h|h
         . exact h
         . exact absurd h.symm S
        have p1:P<0:=KN M (by rw[L];have:=Rat.mul_pos (show 0 < -(ev w x*ev (Jb w) x)by grind) q1;grind);have q2:0<Q:=ZV p1 F;refine Or.inl ⟨q1,?_⟩;rw[BF p1,BE DH];omega
def cw(w:List Rat)(x:Rat):Nat:=DM (JD (Jw w) x)
def qO{w:List Rat}(tw:Jc w=w)(w0:w≠[])(hs:DY w):∃k:Rat,k≠0/\w=DN k (DL w):=by
 have a:=YN tw w0;exact Dv.anti a.tw tw (Ht tw w0) (DY.dv a.tw tw w0 hs λc h=>(XD tw w0 c).1 h)
def Is{w:List Rat}(tw:Jc w=w)(w0:w≠[])(hs:DY w){B:Rat}(c:0<=B):Sh B λx z=>cw w x=cw w z+J1 w x z:=by
 obtain⟨k,e,a⟩:=qO tw w0 hs;refine(Y8 tw w0 c).mono λx z _ _ d h=>?_;have f:=Kx tw w0 d;have b:=pu e (DL w) x z;rw[<-a]at b;unfold cw;omega
def JF{w:List Rat}(tw:Jc w=w)(w0:w≠[]){a b:Rat}(h:a<=b):cw w b<=cw w a:=pW tw w0 h
def GI(a b x:Rat):Rat:=if x<a then a else if b<x then b else x
theorem ZX{a b:Rat}(h:a<=b)(x:Rat):a<=GI a b x/\GI a b x<=b:=by
 unfold GI;split
 . exact⟨Rat.le_refl,h⟩
 . split
   . exact⟨h,Rat.le_refl⟩
   . grind
def ZY{a b x:Rat}(c:a<=x)(d:x<=b):GI a b x=x:=by
 unfold GI;rw[BE DH,BE DH]
theorem qP{a b:Rat}(h:a<=b){x z:Rat}(c:x<=z):GI a b x<=GI a b z/\GI a b z-GI a b x<=z-x:=by
 unfold GI;split<;>split<;>(try split)<;>(try split)<;>constructor<;>grind
def Lc{F:Rat->Nat}{a b d:Rat}(c:a<=b)(i:0<d)(h:∀x z,a<=x->x<=z->z<=b->z-x<=d->F x=F z):F a=F b:=by
 obtain⟨A,k,hA⟩:=JN a;obtain⟨C,l,hC⟩:=JN b;have:=glue (B:=A+C) (F:=λx=>F (GI a b x)) (G:=λ_=>0) (a:=a) (b:=b) ⟨d,i,λx y _ _ j hs=>by
  obtain⟨f,g⟩:=qP c j;have:=h _ _ (ZX c x).1 f (ZX c y).2 (Rat.le_trans g hs);show F (GI a b x)+0=F (GI a b y)+0;omega⟩ (hA.mono DH) (hC.mono DH) c
 have e:F (GI a b a)+0=F (GI a b b)+0:=this;rw[ZY Rat.le_refl c,ZY c Rat.le_refl]at e;omega
structure Irr(w:List Rat)(a b:Rat):Prop where
 tw:Jc w=w
 w0:w≠[]
 sq:DY w
 ab:a<b
 nz:∀x,a<=x->x<=b->ev w x≠0
 one:cw w a=cw w b+1
def YO{p:Rat}(h:p≠0):p<0\/0<p:=by
 rcases JV p 0 with r|r
 . rcases Rat.le_iff_lt_or_eq.1 r with r|r
   . exact Or.inl r
   . exact absurd r h
 . rcases Rat.le_iff_lt_or_eq.1 r with r|r
   . exact Or.inr r
   . exact absurd r.symm h
section
variable {w:List Rat} {a b:Rat}
theorem Irr.still(h:Irr w a b){F:Rat->Nat}(hF:∀ {B:Rat},0<=B->Sh B λx z=>Stb w x z->F x=F z){x z:Rat}(p:a<=x)(q:x<=z)(u:z<=b)(e:cw w x=cw w z):F x=F z:=by
 obtain⟨A,v,hA⟩:=JN a;obtain⟨C,D,hC⟩:=JN b;have j:0<=A+C:=DH
 obtain⟨d,d0,m⟩:=(Is h.tw h.w0 h.sq j).and (hF j);have l:∀y,a<=y->y<=b->Wi (A+C) y:=λy c f=>⟨by have:=hA.1;have:=hC.1;grind,by have:=hC.2;grind⟩;refine Lc q d0 λs t hs o k n=>?_;have c:a<=s:=Rat.le_trans p hs;have f:t<=b:=Rat.le_trans k u;have i:=m s t (l s c DH) (l t DH f) o n;have G:=JF h.tw h.w0 hs;have H:=JF h.tw h.w0 k;have g:J1 w s t=0:=by have:=i.1;omega
 refine i.2 ?_;unfold J1 at g;unfold Stb;rcases YO (Y7 (h.nz s c DH) (h.nz t DH f))with r|r
 . rw[BF ⟨h.nz s c DH,DH⟩]at g;cases g
 . exact r
def K0(w:List Rat)(x:Rat):Nat:=if 0<ev w x then 1 else 0
theorem ZZ{w:List Rat}{x z:Rat}(h:Stb w x z):K0 w x=K0 w z:=by
 unfold K0;unfold Stb at h;by_cases c:0<ev w x
 . rw[BF c,BF (Xw c h)]
 . obtain⟨d,_⟩:=Jy h;have e:ev w x<0:=(YO d).resolve_right c;have f:ev w z<0:=by have:=Xw (a:=-(ev w x)) (b:=-(ev w z)) DH DH;grind
   rw[BE c,BE DH]
theorem Irr.same(h:Irr w a b){x z:Rat}(d:a<=x)(g:x<=z)(f:z<=b)(e:cw w x=cw w z):Stb w x z:=by
 have c:=h.still (F:=K0 w) (λi=>Sh.all λs t _ _ _ hs=>ZZ hs) d g f e;unfold K0 at c;unfold Stb;rcases YO (h.nz x d DH)with p|p<;>rcases YO (h.nz z DH f)with q|q
 . have:=Rat.mul_pos (show 0 < -(ev w x)by grind) (show 0 < -(ev w z)by grind);grind
 . rw[BE DH,BF q]at c;cases c
 . rw[BF p,BE DH]at c;cases c
 . exact Rat.mul_pos p q
theorem Irr.neg(h:Irr w a b){x z:Rat}(c:a<=x)(d:x<=z)(f:z<=b)(e:ev w x*ev w z<0):cw w a=cw w x/\cw w x=cw w z+1/\cw w z=cw w b:=by
 have g:=JF h.tw h.w0 c;have i:=JF h.tw h.w0 d;have j:=JF h.tw h.w0 f;have:=h.one;have n:cw w x≠cw w z:=λq=>by have:=h.same c d f q;unfold Stb at this;grind
 omega
theorem Irr.near(h:Irr w a b){d:Rat}(o:0<d):∃x z,a<=x/\x<z/\z<=b/\z-x<=d/\ev w x*ev w z<0:=by
 refine Classical.byContradiction λhn=>?_;have F:cw w a=cw w b:=by
  obtain⟨A,u,hA⟩:=JN a;obtain⟨C,v,hC⟩:=JN b;have m:0<=A+C:=DH
  obtain⟨e,j,p⟩:=Is h.tw h.w0 h.sq m;obtain⟨f,f0,f1,f2⟩:=Hq o j;have i:∀y,a<=y->y<=b->Wi (A+C) y:=λy B D=>⟨by have:=hA.1;have:=hC.1;grind,by have:=hC.2;grind⟩;refine Lc (Rat.le_of_lt h.ab) f0 λs t hs g c G=>?_;have l:=p s t (i s hs DH) (i t DH c) g DH;rw[l];unfold J1;rw[BE,Cf];intro q;have n:=Y7 (h.nz s hs DH) (h.nz t DH c);rcases YO n with r|r
  . refine hn ⟨s,t,hs,?_,c,DH,r⟩;rcases Rat.le_iff_lt_or_eq.1 g with k|k
    . exact k
    . rw[<-k]at r;have:=Xl (ev w s);grind
  . have:=q.2;grind
 have:=h.one;omega
end
def De(w:List Rat)(a b:Rat)(q:List Rat):Int:=(DM (JD (D8 w q) a):Int)-(DM (JD (D8 w q) b):Int)
theorem Irr.sign{w:List Rat}{a b:Rat}(h:Irr w a b)(q:List Rat):∃g,TkG w q g/\∃d,0<d/\∀x z,a<=x->x<=z->z<=b->z-x<=d->ev w x*ev w z<0->
 (De w a b q=0/\ev g x*ev g z<0)\/(De w a b q=1/\Stb g x z/\0<ev q x/\0<ev q z)\/(De w a b q=-1/\Stb g x z/\ev q x<0/\ev q z<0):=by
 obtain⟨g,hg⟩:=ZW (q:=q) h.tw h.w0 h.sq;obtain⟨A,s,hA⟩:=JN a;obtain⟨C,t,hC⟩:=JN b;have e:0<=A+C:=DH
 have n:∀y,a<=y->y<=b->Wi (A+C) y:=λy u v=>⟨by have:=hA.1;have:=hC.1;grind,by have:=hC.2;grind⟩;obtain⟨d,d0,p⟩:=hg.step e;refine⟨g,hg,d,d0,λx z i o j hs hn=>?_⟩;obtain⟨c1,c2,c3⟩:=h.neg i o j hn;have l:=h.still (F:=λy=>DM (JD (D8 w q) y)) (λe=>hg.stay e) Rat.le_refl i DH c1;have m:=h.still (F:=λy=>DM (JD (D8 w q) y)) (λe=>hg.stay e) (show a<=z by grind) j Rat.le_refl c3;have l:DM (JD (D8 w q) a)=DM (JD (D8 w q) x):=l;have m:DM (JD (D8 w q) z)=DM (JD (D8 w q) b):=m;unfold De;rcases p x z (n x i DH) (n z DH j) o hs hn with⟨f,k⟩|⟨f,k,c⟩
 . exact Or.inl ⟨O,f⟩
 . rcases c with⟨c,r⟩|⟨c,r⟩
   . exact Or.inr (Or.inl ⟨O,f,c,Xw c k⟩)
   . refine Or.inr (Or.inr ⟨O,f,c,?_⟩);have:=Xw (a:=-(ev q x)) (b:=-(ev q z)) DH (by unfold Stb at k;grind);grind
end
def Nr(w:List Rat)(a b:Rat)(P:Rat->Rat->Prop):Prop:=∃d,0<d/\∀x z,a<=x->x<=z->z<=b->z-x<=d->ev w x*ev w z<0->P x z
section
variable {w q p:List Rat} {a b:Rat} {P Q:Rat->Rat->Prop}
def Nr.and(h:Nr w a b P)(c:Nr w a b Q):Nr w a b λx z=>P x z/\Q x z:=by
 obtain⟨d,d0,h⟩:=h;obtain⟨e,m,c⟩:=c;obtain⟨f,f0,f1,f2⟩:=Hq d0 m;exact⟨f,f0,λx z g i j k l=>⟨h x z g i j (Rat.le_trans k f1) l,c x z g i j (Rat.le_trans k f2) l⟩⟩
def Nr.mono(h:Nr w a b P)(hi:∀x z,a<=x->x<=z->z<=b->ev w x*ev w z<0->P x z->Q x z):Nr w a b Q:=by
 obtain⟨d,d0,h⟩:=h;exact⟨d,d0,λx z c e f i g=>hi x z c e f g (h x z c e f i g)⟩
def Irr.some(h:Irr w a b)(c:Nr w a b P):∃x z,a<=x/\x<=z/\z<=b/\ev w x*ev w z<0/\P x z:=by
 obtain⟨d,d0,c⟩:=c;obtain⟨x,z,e,f,g,j,i⟩:=h.near d0;exact⟨x,z,e,Rat.le_of_lt f,g,i,c x z e (Rat.le_of_lt f) g j i⟩
theorem Nr.of_sh(h:∀ {B:Rat},0<=B->Sh B P):Nr w a b P:=by
 obtain⟨A,l,hA⟩:=JN a;obtain⟨C,m,hC⟩:=JN b;have j:0<=A+C:=DH
 obtain⟨d,d0,k⟩:=h j;have g:∀y,a<=y->y<=b->Wi (A+C) y:=λy n o=>⟨by have:=hA.1;have:=hC.1;grind,by have:=hC.2;grind⟩;exact⟨d,d0,λx z e c f i _=>k x z (g x e (Rat.le_trans c f)) (g z (Rat.le_trans e c) f) c i⟩
theorem OZ(p:List Rat)(a b:Rat):∃K,0<K/\∀x,a<=x->x<=b->Wi K (ev p x):=by
 obtain⟨A,e,hA⟩:=JN a;obtain⟨C,f,hC⟩:=JN b;obtain⟨K,c,d⟩:=XR p (show 0<=A+C by grind);exact⟨K,c,λx g i=>d x ⟨by have:=hA.1;have:=hC.1;grind,by have:=hC.2;grind⟩⟩
def EI(w:List Rat)(a b:Rat)(q:List Rat):Prop:=∀e,0<e->Nr w a b λx z=>Wi e (ev q x)/\Wi e (ev q z)
def Er(w:List Rat)(a b:Rat)(q:List Rat):Prop:=∃c,0<c/\Nr w a b λx z=>c<=ev q x/\c<=ev q z
def EI.mul(h:EI w a b q)(p:List Rat):EI w a b (Ji q p):=λe l=>by
 obtain⟨K,k,j⟩:=OZ p a b;refine(h (e/K) (Yl l k)).mono λx z c f g _ i=>?_;have d:e/K*K=e:=Aj DH;rw[Jd,Jd];exact⟨((i.1.mul (j x c (Rat.le_trans f g))).mono (by rw[d];exact Rat.le_refl)),((i.2.mul (j z (Rat.le_trans c f) g)).mono (by rw[d];exact Rat.le_refl))⟩
def EI.ext(h:EI w a b q)(e:∀x,ev p x=ev q x):EI w a b p:=λk hk=>(h k hk).mono λx z _ _ _ _ c=>by rw[e,e];exact c
def Er.ext(h:Er w a b q)(e:∀x,ev p x=ev q x):Er w a b p:=by
 obtain⟨c,c0,h⟩:=h;exact⟨c,c0,h.mono λx z _ _ _ _ d=>by rw[e,e];exact d⟩
theorem Er.mul(h:Er w a b q)(d:Er w a b p):Er w a b (Ji q p):=by
 obtain⟨c,c0,h⟩:=h;obtain⟨k,f,d⟩:=d;refine⟨c*k,Rat.mul_pos c0 f,(h.and d).mono λx z _ _ _ _ e=>?_⟩;rw[Jd,Jd];have m:∀ {s t:Rat},c<=s->k<=t->c*k<=s*t:=fun {s t} i j=>by
  have g:=Rat.mul_nonneg (a:=s-c) (b:=t) DH DH;have d:=Rat.mul_nonneg (a:=c) (b:=t-k) DH DH;grind
 exact⟨m e.1.1 e.2.1,m e.1.2 e.2.2⟩
theorem EI.not_abv(h:Irr w a b)(hs:EI w a b q):¬Er w a b q:=λ⟨c,c0,f⟩=>by
 obtain⟨x,z,_,_,_,_,d,e⟩:=h.some ((hs (c/2) DH).and f);have:=d.1.2;have:=e.1;grind
theorem Er.not_neg(h:Irr w a b)(hs:Er w a b q)(d:Er w a b (DN (-1) q)):False:=by
 obtain⟨c,c0,e⟩:=hs;obtain⟨k,i,f⟩:=d;obtain⟨x,z,_,_,_,_,g,d⟩:=h.some (e.and f);have j:=d.1;rw[Jo]at j;grind
theorem Irr.val(h:Irr w a b)(q:List Rat):(De w a b q=0/\EI w a b q)\/(De w a b q=1/\Er w a b q)\/(De w a b q=-1/\Er w a b (DN (-1) q)):=by
 obtain⟨g,hg,o⟩:=h.sign q;have o:Nr w a b _:=o;obtain⟨_,_,_,_,_,_,s⟩:=h.some o;rcases s with⟨I,_⟩|s
 . refine Or.inl ⟨I,?_⟩;obtain⟨k,hk⟩:=hg.dq;have hs:EI w a b g:=λe M=>(o.and (Nr.of_sh λr=>Xj g r M)).mono λx z _ _ _ _ c=>by
    refine c.2 λt=>?_;rcases c.1 with d|d|d
    . unfold Stb at t;grind
    . omega
    . omega
   exact(hs.mul k).ext λx=>by rw[Jd];exact hk x
 . refine Or.inr ?_;obtain⟨u,v,P⟩:=hg.cop;obtain⟨U,Q,K⟩:=OZ u a b;obtain⟨V,T,L⟩:=OZ v a b;have D:=(JI hg.tg hg.g0 hg.dw).2;have H:U*(1/4/U)=1/4:=by rw[AU,Aj DH]
   have p:∀x,a<=x->x<=b->Wi (1/4/U) (ev (Jn w g) x)->1/(2*V)<=ev q x\/ev q x<=-(1/(2*V)):=λx l F N=>by
    have m:=KV (P x) (K x l F) N (by rw[H];exact Rat.le_refl);have j:=L x l F;have R:1/(2*V)*(2*V)=1:=Aj DH;generalize 1/(2*V)=k at *;have y:0<k:=Xw (a:=2*V) DH DH;refine Classical.byContradiction λhn=>?_;have n:=(j.mul (show Wi k (ev q x)from⟨DH,DH⟩)).2;grind
   have G:Nr w a b λx z=>Stb g x z->Wi (1/4/U) (ev (Jn w g) x)/\Wi (1/4/U) (ev (Jn w g) z):=(Nr.of_sh λr=>Xj (Jn w g) r (Yl Hb Q)).mono λx z _ _ _ S c t=>by
    refine c λhs=>?_;have e:ev w x*ev w z=(ev g x*ev g z)*(ev (Jn w g) x*ev (Jn w g) z):=by rw[D x,D z];grind
    have:=Rat.mul_pos t hs;grind
   have y:0<1/(2*V):=Yl DK DH;have all:=(o.and G);rcases s with⟨l,_⟩|⟨l,_⟩
   . refine Or.inl ⟨l,1/(2*V),y,all.mono λx z m j n _ c=>?_⟩;rcases c.1 with d|d|d
     . omega
     . obtain⟨A,B⟩:=c.2 d.2.1;have f:=p x m (Rat.le_trans j n) A;have i:=p z (Rat.le_trans m j) n B;generalize 1/(2*V)=k at *;constructor
       . rcases f with f|f
         . exact f
         . grind
       . rcases i with i|i
         . exact i
         . grind
     . omega
   . refine Or.inr ⟨l,1/(2*V),y,all.mono λx z m j n _ c=>?_⟩;rcases c.1 with d|d|d
     . omega
     . omega
     . obtain⟨A,B⟩:=c.2 d.2.1;have f:=p x m (Rat.le_trans j n) A;have i:=p z (Rat.le_trans m j) n B;rw[Jo,Jo];generalize 1/(2*V)=k at *;constructor
       . rcases f with f|f<;>grind
       . rcases i with i|i<;>grind
theorem Irr.zero(h:Irr w a b):De w a b q=0↔EI w a b q:=by
 rcases h.val q with⟨d,c⟩|⟨d,c⟩|⟨d,c⟩
 . exact⟨λ_=>c,λ_=>d⟩
 . exact⟨λe=>by omega,λe=>absurd c (EI.not_abv h e)⟩
 . refine⟨λe=>by omega,λe=>absurd c (EI.not_abv h ((e.mul [-1]).ext λx=>?_))⟩;rw[Jo,Jd,Jm]
def Irr.pos(h:Irr w a b):De w a b q=1↔Er w a b q:=by
 rcases h.val q with⟨d,c⟩|⟨d,c⟩|⟨d,c⟩
 . exact⟨λe=>by omega,λe=>absurd e (EI.not_abv h c)⟩
 . exact⟨λ_=>c,λ_=>d⟩
 . exact⟨λe=>by omega,λe=>absurd c λk=>Er.not_neg h e k⟩
def Irr.minus(h:Irr w a b):De w a b q=-1↔Er w a b (DN (-1) q):=by
 rcases h.val q with⟨d,c⟩|⟨d,c⟩|⟨d,c⟩
 . refine⟨λe=>by omega,λe=>absurd e (EI.not_abv h ((c.mul [-1]).ext λx=>?_))⟩;rw[Jo,Jd,Jm]
 . exact⟨λe=>by omega,λe=>absurd e λk=>Er.not_neg h c k⟩
 . exact⟨λ_=>c,λ_=>d⟩
theorem Irr.mul(h:Irr w a b)(q p:List Rat):De w a b (Ji q p)=De w a b q*De w a b p:=by
 rcases h.val q with⟨e,f⟩|⟨e,f⟩|⟨e,f⟩
 . rw[e,Int.zero_mul];exact h.zero.2 (f.mul p)
 . rcases h.val p with⟨c,d⟩|⟨c,d⟩|⟨c,d⟩
   . rw[c,FB];exact h.zero.2 ((d.mul q).ext λx=>by rw[Jd,Jd,AU])
   . rw[e,c];exact h.pos.2 (f.mul d)
   . rw[e,c];exact h.minus.2 ((f.mul d).ext λx=>by rw[Jo,Jd,Jd,Jo];grind)
 . rcases h.val p with⟨c,d⟩|⟨c,d⟩|⟨c,d⟩
   . rw[c,FB];exact h.zero.2 ((d.mul q).ext λx=>by rw[Jd,Jd,AU])
   . rw[e,c];exact h.minus.2 ((f.mul d).ext λx=>by rw[Jo,Jd,Jd,Jo];grind)
   . rw[e,c];exact h.pos.2 ((f.mul d).ext λx=>by rw[Jd,Jd,Jo,Jo];grind)
def Irr.ext(h:Irr w a b)(e:∀x,ev p x=ev q x):De w a b p=De w a b q:=by
 rcases h.val q with⟨c,d⟩|⟨c,d⟩|⟨c,d⟩
 . rw[c];exact h.zero.2 (d.ext e)
 . rw[c];exact h.pos.2 (d.ext e)
 . rw[c];exact h.minus.2 (d.ext λx=>by rw[Jo,Jo,e])
theorem Oa:EI w a b w:=λe f=>(Nr.of_sh λd=>Xj w d f).mono λx z _ _ _ i c=>c λg=>by unfold Stb at g;grind
def Irr.dvd(h:Irr w a b)(e:Dv w p):De w a b p=0:=by
 obtain⟨c,d⟩:=e;exact h.zero.2 ((Oa.mul c).ext λx=>by rw[Jd];exact d x)
theorem Irr.cop(h:Irr w a b)(i:DR w p):De w a b p≠0:=λe=>by
 obtain⟨u,v,j⟩:=i;have c:=((Oa (w:=w) (a:=a) (b:=b)).mul u).ext (p:=Ji u w) λx=>by rw[Jd,Jd,AU]
 have d:=((h.zero.1 e).mul v).ext (p:=Ji v p) λx=>by rw[Jd,Jd,AU]
 obtain⟨x,z,_,_,_,_,f,g⟩:=h.some ((c (1/4) Hb).and (d (1/4) Hb));have k:=f.1.2;have l:=g.1.2;rw[Jd]at k l;have:=j x;grind
theorem Irr.const(h:Irr w a b)(c:Rat):(0<c->De w a b [c]=1)/\(c<0->De w a b [c]=-1):=by
 refine⟨λd=>h.pos.2 ⟨c,d,1,DK,λx z _ _ _ _ _=>?_⟩,λd=>h.minus.2 ⟨-c,DH,1,DK,λx z _ _ _ _ _=>?_⟩⟩
 . show c<=ev [c] x/\c<=ev [c] z;rw[Jm,Jm];exact⟨Rat.le_refl,Rat.le_refl⟩
 . show -c<=ev (DN (-1) [c]) x∧-c<=ev (DN (-1) [c]) z;rw[Jo,Jo,Jm,Jm];constructor<;>grind
end
section
def Wh(K:Nat)(p:List Rat):Prop:=∀i,∃z:Int,Sm K z/\cf p i=(z:Rat)
variable{K:Nat}
theorem Wh.one{p:List Rat}(h:Wh K p):∀i,∃z:Int,Sm K z/\cf p i*1=(z:Rat):=λi=>by
 obtain⟨z,a,b⟩:=h i;exact⟨z,a,by rw[Rat.mul_one];exact b⟩
theorem qQ{p q:List Rat}(hp:Jc p=p)(hq:Jc q=q)(o:Wh K p)(r:Wh K q)(hl:p.length+q.length<=1000000000)(hle:q.length<=p.length)(a:2<=q.length)(s:DR p q):
 ∃(u v:List Rat) (c:Int),Wh ((K+1)*(p.length+q.length)) u/\Wh ((K+1)*(p.length+q.length)) v/\c≠0/\u.length<=q.length/\v.length<=p.length/\∀x,ev u x*ev p x+ev v x*ev q x=(c:Rat):=by
 obtain⟨u,v,B,D,G,H,y,b,hT,A,hv⟩:=WM hp hq (cp:=1) (cq:=1) DK DK o.one r.one hl hle (m:=2) O a;have p0:p≠[]:=λe=>by rw[e]at hle;simp at hle;rw[hle]at a;simp at a
 obtain⟨c,_,t⟩:=hT 0;have g:∀x,ev u x*ev p x+ev v x*ev q x=(c:Rat):=λx=>by
  rw[<-Jd,<-Jd,<-Yc,<-t];match F:XB (Ji u p) (Ji v q),b with
  |[],_=>rfl
  |[k],_=>rw[Jm];rfl
  |_::_::_,b=>exact absurd b DI
 refine⟨u,v,c,λi=>?_,λi=>?_,λe=>?_,O,O,g⟩
 . obtain⟨z,d,f⟩:=A i;exact⟨z,d,by rw[f,Rat.mul_one]⟩
 . obtain⟨z,d,f⟩:=hv i;exact⟨z,d,by rw[f,Rat.mul_one]⟩
 . have j:∀x,ev u x*ev p x+ev v x*ev q x=0:=λx=>by rw[g,e];rfl
   have w:Dv p v:=s.dv (c:=v) ⟨DN (-1) u,λx=>by rw[Jd,Jo];have:=j x;grind⟩;have l:v=[]:=Classical.byContradiction λn=>by
    have:=(w.len hp D n).1;omega
   have u0:u=[]:=Classical.byContradiction λn=>by
    refine Yt B hp n p0 (YG (Jq _ _) rfl λx=>?_);have:=j x;rw[l]at this;rw[Jd];simp[ev]at this ⊢;grind
   rcases y with h|h
   . exact h u0
   . exact h l
theorem Rm(c:Rat):Wi (Yn c) c/\0<=Yn c:=by
 unfold Yn;unfold Wi;split<;>grind
def GX(H:Rat):List Rat->Rat
 |[]=>0
 |c::p=>Yn c+H*GX H p
def Es(H:Rat):List Rat->Rat
 |[]=>0
 |_::p=>GX H p+H*Es H p
section
variable {H:Rat}
theorem Ms(a:0<=H)(p:List Rat):0<=GX H p:=by
 induction p with
 |nil=>exact Rat.le_refl
 |cons c p b=>rw[GX];have:=(Rm c).2;have:=Rat.mul_nonneg a b;grind
theorem Mt(a:0<=H)(p:List Rat):0<=Es H p:=by
 induction p with
 |nil=>exact Rat.le_refl
 |cons c p b=>rw[Es];have:=Ms a p;have:=Rat.mul_nonneg a b;grind
def Rn(p:List Rat){x:Rat}(a:Wi H x):Wi (GX H p) (ev p x):=by
 induction p with
 |nil=>exact⟨by simp[GX,ev],by simp[GX,ev]⟩
 |cons c p b=>rw[GX,Hz];exact(Rm c).1.add (a.mul b)
theorem Ro(p:List Rat){x y:Rat}(d:Wi H x)(f:Wi H y)(h:x<=y):Wi (Es H p*(y-x)) (ev p x-ev p y):=by
 induction p with
 |nil=>exact⟨by simp[Es,ev];grind,by simp[Es,ev];grind⟩
 |cons c p g=>
  rw[Es,Hz,Hz];have a:=(show Wi (y-x) (x-y)from⟨DH,DH⟩).mul (Rn p d);have b:=f.mul g;have e:c+x*ev p x-(c+y*ev p y)=(x-y)*ev p x+y*(ev p x-ev p y):=DH
  rw[e];exact(a.add b).mono DH
end
variable{f:List Rat}
def qR(tf:Jc f=f)(f0:f≠[]){B:Rat}(a:0<=B):Sh B λx z=>cw f x=cw f z+J1 (DL f) x z:=by
 refine(Y8 tf f0 a).mono λx z _ _ b h=>?_;have c:=Kx tf f0 b;unfold cw;omega
theorem qS(tf:Jc f=f)(f0:f≠[]){a b:Rat}(n:a<=b)(hl:cw f b<cw f a){e:Rat}(r:0<e):∃x,a<=x/\x<=b/\Wi e (ev f x):=by
 refine Classical.byContradiction λhn=>?_;obtain⟨A,w,hA⟩:=JN a;obtain⟨C,z,hC⟩:=JN b;have g:0<=A+C:=DH
 obtain⟨k,hk⟩:=Ht tf f0;obtain⟨K,j,m⟩:=OZ k a b;obtain⟨d,d0,o⟩:=(qR tf f0 g).and (Xj (DL f) g (Yl r j));have i:∀y,a<=y->y<=b->Wi (A+C) y:=λy B D=>⟨by have:=hA.1;have:=hC.1;grind,by have:=hC.2;grind⟩;have:=Lc (F:=cw f) n d0 λs t hs u v p=>by
  have c:=o s t (i s hs DH) (i t DH v) u p;rw[c.1];unfold J1;rw[BE,Cf];intro q;refine hn ⟨s,hs,DH,?_⟩;have l:=(c.2 λh=>by unfold Stb at h;have:=q.2;grind).1;rw[hk];exact(l.mul (m s hs DH)).mono (by rw[Aj DH];exact Rat.le_refl)
 omega
theorem Zc(tf:Jc f=f)(f0:f≠[]){H a b:Rat}(k:0<=H)(d:Wi H a)(m:Wi H b)(l:a<=b)(hl:cw f b<cw f a):Wi (Es H f*(b-a)) (ev f a):=by
 have g:∀e,0<e->Wi (Es H f*(b-a)+e) (ev f a):=λe n=>by
  obtain⟨x,i,p,j⟩:=qS tf f0 l hl n;have o:Wi H x:=⟨by have:=d.1;grind,by have:=m.2;grind⟩;have c:=(Ro f d o i).add j;have q:=Rat.mul_nonneg (Mt k f) (show 0<=b-x by grind);rw[show ev f a-ev f x+ev f x=ev f a by grind]at c;exact c.mono DH
 constructor
 . refine Rat.not_lt.1 λh=>?_;have:=(g ((-(Es H f*(b-a))-ev f a)/2) DH).1;grind
 . refine Rat.not_lt.1 λh=>?_;have:=(g ((ev f a-Es H f*(b-a))/2) DH).2;grind
theorem qT{w u v:List Rat}{c:Int}(tw:Jc w=w)(hl:1<w.length)(m:c≠0)(n:∀x,ev u x*ev w x+ev v x*ev (Jb w) x=(c:Rat)){H a b:Rat}(i:0<=H)(d:Wi H a)(l:Wi H b)(g:a<=b)(t:cw w b+2<=cw w a):
 1<=(GX H u*Es H w+GX H v*Es H (Jb w))*(b-a):=by
 have w0:w≠[]:=λe=>by rw[e]at hl;simp at hl
 have s:Jb w≠[]:=λe=>by have:=Mc tw e;omega
 have y:=qA tw hl g;have o:=Zc tw w0 i d l g O;have p:=Zc (Ju w) s i d l g (by unfold cw at *;omega);have q:=(Rn u d).mul o;have r:=(Rn v d).mul p;have j:=q.add r;rw[n]at j;have k:(1:Rat)<=(c:Rat)\/(c:Rat)<=-1:=by
  rcases Int.lt_or_gt_of_ne m with h|h
  . have f:(c:Rat)<=((-1:Int):Rat):=Rat.intCast_le_intCast.2 O;exact Or.inr f
  . have f:((1:Int):Rat)<=(c:Rat):=Rat.intCast_le_intCast.2 O;exact Or.inl f
 have:=j.1;have:=j.2;rcases k with k|k<;>grind
end
theorem Zd{A X B S T:Rat}(c:0<A*X)(d:0<X*B)(e:0<A*S)(f:0<T*B)(g:S*T<0):False:=by
 have a:=Rat.mul_pos (Rat.mul_pos c d) (Rat.mul_pos e f);have b:(A*X)*(X*B)*((A*S)*(T*B))=((A*X*B)*(A*X*B))*(S*T):=DH
 rw[b]at a;have:=Xg a;grind
section
variable {w v q:List Rat} {a b c d x y:Rat}
theorem Irr.nn(h:Irr w a b)(hq:Nr w a b λx z=>0<=ev q x\/0<=ev q z):De w a b q≠-1:=λe=>by
 obtain⟨k,f,hk⟩:=h.minus.1 e;obtain⟨x,z,_,_,_,_,c,d⟩:=h.some (hq.and hk);rw[Jo,Jo]at d;have:=d.1;have:=d.2;rcases c with c|c<;>grind
theorem Irr.np(h:Irr w a b)(hq:Nr w a b λx z=>ev q x<=0\/ev q z<=0):De w a b q≠1:=λe=>by
 obtain⟨k,f,hk⟩:=h.pos.1 e;obtain⟨x,z,_,_,_,_,c,d⟩:=h.some (hq.and hk);have:=d.1;have:=d.2;rcases c with c|c<;>grind
theorem Ym(y x:Rat):ev [-y,1] x=x-y:=by simp only[ev];grind
def Dj(w:List Rat)(a b x:Rat):Int:=De w a b [-x,1]
def Irr.sg3(h:Irr w a b)(q:List Rat):De w a b q=0\/De w a b q=1\/De w a b q=-1:=by
 rcases h.val q with⟨c,_⟩|⟨c,_⟩|⟨c,_⟩
 . exact Or.inl c
 . exact Or.inr (Or.inl c)
 . exact Or.inr (Or.inr c)
theorem Rp(a:ev w x≠0):DR w [-x,1]:=by
 obtain⟨s,hs⟩:∃s:List Rat,∀y,ev w y=ev w x+(y-x)*ev s y:=⟨Ha w x,λy=>ND w x y⟩;refine⟨[1/ev w x],DN (-(1/ev w x)) s,λy=>?_⟩;rw[Jm,Jo,Ym,hs y]
 have:1/ev w x*ev w x=1:=Aj a
 grind
theorem Irr.low(h:Irr w a b)(c:x<=a):Dj w a b x=1:=by
 have n:Dj w a b x≠-1:=h.nn ⟨1,DK,λs t d _ _ _ _=>Or.inl (by show 0<=ev [-x,1] s;rw[Ym];grind)⟩;rcases h.sg3 [-x,1]with e|e|e
 . exfalso
   rcases Rat.le_iff_lt_or_eq.1 c with c|c
   . refine EI.not_abv h (h.zero.1 e) ⟨a-x,DH,1,DK,λs t d f _ _ _=>?_⟩;show a-x<=ev [-x,1] s/\a-x<=ev [-x,1] t;rw[Ym,Ym];constructor<;>grind
   . exact h.cop (Rp (h.nz x DH (by have:=h.ab;grind))) e
 . exact e
 . exact absurd e n
theorem Irr.high(h:Irr w a b)(c:b<=x):Dj w a b x=-1:=by
 have n:Dj w a b x≠1:=h.np ⟨1,DK,λs t _ _ d _ _=>Or.inr (by show ev [-x,1] t<=0;rw[Ym];grind)⟩;rcases h.sg3 [-x,1]with e|e|e
 . exfalso
   rcases Rat.le_iff_lt_or_eq.1 c with c|c
   . refine EI.not_abv h (((h.zero.1 e).mul [-1]).ext (p:=DN (-1) [-x,1]) λy=>by rw[Jo,Jd,Jm]) ⟨x-b,DH,1,DK,λs t _ f g _ _=>?_⟩;show x-b<=ev (DN (-1) [-x,1]) s/\x-b<=ev (DN (-1) [-x,1]) t;rw[Jo,Jo,Ym,Ym];constructor<;>grind
   . exact h.cop (Rp (h.nz x (by have:=h.ab;grind) DH)) e
 . exact absurd e n
 . exact e
theorem Irr.cside(h:Irr w a b)(i:a<=x)(j:x<=b):(cw w x=cw w b+1->Dj w a b x=1)/\(cw w x=cw w b->Dj w a b x=-1):=by
 have nz:Dj w a b x≠0:=h.cop (Rp (h.nz x i j));constructor
 . intro c1;have n:Dj w a b x≠-1:=h.nn ⟨1,DK,λs t c d f _ g=>Or.inr (by
    show 0<=ev [-x,1] t;rw[Ym];obtain⟨k,l,m⟩:=h.neg c d f g;rcases JV x t with r|r
    . grind
    . have:=JF h.tw h.w0 r;omega)⟩
   rcases h.sg3 [-x,1]with e|e|e
   . exact absurd e nz
   . exact e
   . exact absurd e n
 . intro o;have n:Dj w a b x≠1:=h.np ⟨1,DK,λs t c d f _ g=>Or.inl (by
    show ev [-x,1] s<=0;rw[Ym];obtain⟨k,l,m⟩:=h.neg c d f g;rcases JV s x with r|r
    . grind
    . have:=JF h.tw h.w0 r;omega)⟩
   rcases h.sg3 [-x,1]with e|e|e
   . exact absurd e nz
   . exact absurd e n
   . exact e
theorem Irr.ends(h:Irr w a b):ev w a*ev w b<0:=by
 obtain⟨s,t,c,i,e,_,f⟩:=h.near (d:=1) DK;obtain⟨j,m,l⟩:=h.neg c (Rat.le_of_lt i) e f;have p1:=h.same Rat.le_refl c DH j;have g:=h.same (show a<=t by grind) e Rat.le_refl l;rcases YO (Y7 (h.nz a Rat.le_refl (Rat.le_of_lt h.ab)) (h.nz b (Rat.le_of_lt h.ab) Rat.le_refl))with r|r
 . exact r
 . exfalso
   unfold Stb at p1 g;have q1:0<ev w b*ev w b:=by
    obtain⟨_,n⟩:=Jy r;rcases YO (Y7 n n)with k|k
    . have:=Xl (ev w b);grind
    . exact k
   exact Zd r q1 p1 g f
theorem Irr.mid(h:Irr w a b)(c:a<=x)(d:x<=b):(ev w x*ev w b<0->Dj w a b x=1)/\(0<ev w x*ev w b->Dj w a b x=-1):=by
 refine⟨λe=>?_,λe=>?_⟩
 . obtain⟨c1,c2,c3⟩:=h.neg c d Rat.le_refl e;exact(h.cside c d).1 c2
 . refine(h.cside c d).2 ?_;have k:=JF h.tw h.w0 c;have l:=JF h.tw h.w0 d;have:=h.one;by_cases i:cw w x=cw w b
   . exact i
   . exfalso
     have hs:=h.same Rat.le_refl c d O;have j:=h.ends;unfold Stb at hs;have f:=Rat.mul_pos hs e;have g:ev w a*ev w x*(ev w x*ev w b)=(ev w x*ev w x)*(ev w a*ev w b):=DH
     rw[g]at f;have:=Xg f;grind
def Irr.sid_ne(h:Irr w a b)(x:Rat):Dj w a b x=1\/Dj w a b x=-1:=by
 rcases JV x a with r|r
 . exact Or.inl (h.low r)
 . rcases JV b x with k|k
   . exact Or.inr (h.high k)
   . rcases YO (Y7 (h.nz x r k) (h.nz b (Rat.le_of_lt h.ab) Rat.le_refl))with e|e
     . exact Or.inl ((h.mid r k).1 e)
     . exact Or.inr ((h.mid r k).2 e)
theorem Irr.sid_mono(h:Irr w a b)(g:x<=y):(Dj w a b y=1->Dj w a b x=1)/\(Dj w a b x=-1->Dj w a b y=-1):=by
 have d:Dj w a b y=1->Dj w a b x=1:=λe=>by
  obtain⟨c,c0,f⟩:=h.pos.1 e;refine h.pos.2 ⟨c,c0,f.mono λs t _ _ _ _ k=>?_⟩;rw[Ym,Ym]at k ⊢;constructor<;>grind
 refine⟨d,λe=>?_⟩;rcases h.sid_ne y with k|k
 . have:=d k;omega
 . exact k
theorem Irr.sub(h:Irr w a b)(m:a<=c)(n:c<d)(o:d<=b)(e:ev w c*ev w d<0):Irr w c d/\∀q,De w c d q=De w a b q:=by
 obtain⟨p,r,s⟩:=h.neg m (Rat.le_of_lt n) o e;refine⟨⟨h.tw,h.w0,h.sq,n,λx i j=>h.nz x DH DH,r⟩,λq=>?_⟩;obtain⟨g,hg⟩:=ZW (q:=q) h.tw h.w0 h.sq;have k:=h.still (F:=λy=>DM (JD (D8 w q) y)) (λf=>hg.stay f) Rat.le_refl m DH p;have l:=h.still (F:=λy=>DM (JD (D8 w q) y)) (λf=>hg.stay f) (show a<=d by grind) o Rat.le_refl s;have k:DM (JD (D8 w q) a)=DM (JD (D8 w q) c):=k;have l:DM (JD (D8 w q) d)=DM (JD (D8 w q) b):=l;unfold De;omega
def Lt(w:List Rat)(a b:Rat)(v:List Rat)(c d:Rat):Prop:=∃x,Dj w a b x=-1/\Dj v c d x=1
theorem Irr.within(h:Irr w a b)(e:Dj w a b c=1)(f:Dj w a b d=-1):Nr w a b λx z=>c<=x/\z<=d:=by
 obtain⟨k,m,hk⟩:=h.pos.1 e;obtain⟨l,n,hl⟩:=h.minus.1 f;refine(hk.and hl).mono λx z _ _ _ _ i=>?_;have g:=i.1.1;have j:=i.2.2;rw[Ym]at g;rw[Jo,Ym]at j;constructor<;>grind
def Irr.near_sid(h:Irr w a b){z:Rat}(c:a<=x)(d:x<=z)(f:z<=b)(e:ev w x*ev w z<0):Dj w a b x=1/\Dj w a b z=-1:=by
 obtain⟨i,j,g⟩:=h.neg c d f e;exact⟨(h.cside c (Rat.le_trans d f)).1 O,(h.cside (Rat.le_trans c d) f).2 g⟩
theorem ord_lt(h:Irr w a b)(k:Irr v c d)(u:Dj w a b c=1)(y:Dj w a b d=-1):(De w a b v=1->0<ev v d->Lt v c d w a b)/\(De w a b v=1->ev v d<0->Lt w a b v c d)/\(De w a b v=-1->ev v d<0->Lt v c d w a b)/\(De w a b v=-1->0<ev v d->Lt w a b v c d):=by
 have s:=h.within u y;refine⟨λe n=>?_,λe n=>?_,λe n=>?_,λe n=>?_⟩
 . obtain⟨m,t,f⟩:=h.pos.1 e;obtain⟨x,z,g,i,j,l,⟨o,p⟩,q,r⟩:=h.some (s.and f);exact⟨x,(k.mid o DH).2 (Rat.mul_pos DH n),(h.near_sid g i j l).1⟩
 . obtain⟨m,t,f⟩:=h.pos.1 e;obtain⟨x,z,g,i,j,l,⟨o,p⟩,q,r⟩:=h.some (s.and f);exact⟨z,(h.near_sid g i j l).2,(k.mid DH p).1 (by have:=Rat.mul_pos (show 0<ev v z by grind) (show 0 < -(ev v d)by grind);grind)⟩
 . obtain⟨m,t,f⟩:=h.minus.1 e;obtain⟨x,z,g,i,j,l,⟨o,p⟩,q,r⟩:=h.some (s.and f);rw[Jo]at q r;exact⟨x,(k.mid o DH).2 (by have:=Rat.mul_pos (show 0 < -(ev v x)by grind) (show 0 < -(ev v d)by grind);grind),(h.near_sid g i j l).1⟩
 . obtain⟨m,t,f⟩:=h.minus.1 e;obtain⟨x,z,g,i,j,l,⟨o,p⟩,q,r⟩:=h.some (s.and f);rw[Jo]at q r;exact⟨z,(h.near_sid g i j l).2,(k.mid DH p).1 (by have:=Rat.mul_pos (show 0 < -(ev v z)by grind) n;grind)⟩
theorem Ze(h:Irr w a b)(m:DY v)(n:Jc v=v)(e:De w a b v=0):Nr w a b λx z=>ev v x*ev v z<0:=by
 obtain⟨g,hg,d⟩:=h.sign v;have d:Nr w a b _:=d;have c:=(JI hg.tg hg.g0 hg.dq).2;have f:v=Ji g (Jn v g):=YG n (Jq _ _) λx=>by rw[Jd];exact c x
 have k:DR g (Jn v g):=DY.parts (by rw[<-f];exact m);refine(d.and (Nr.of_sh λl=>Mq k l)).mono λx z _ _ _ _ i=>?_;rcases i.1 with j|j|j
 . have st:=i.2.resolve_left λs=>by unfold Stb at s;have:=j.2;grind
   unfold Stb at st;have:=Rat.mul_pos (show 0 < -(ev g x*ev g z)by have:=j.2;grind) st;rw[c x,c z];grind
 . omega
 . omega
theorem qU(h:Irr w a b)(k:Irr v c d)(q:Dj w a b c=1)(r:Dj w a b d=-1)(e:De w a b v=0):∀x,Dj w a b x=Dj v c d x:=by
 have n:=(Ze h k.sq k.tw e).and (h.within q r);intro y;rcases h.sid_ne y with s|s
 . obtain⟨m,B,f⟩:=h.pos.1 s;obtain⟨x,z,t,g,u,A,⟨i,j,l⟩,o,p⟩:=h.some (n.and f);rw[Ym]at o;rw[s];exact((k.sid_mono DH).1 (k.near_sid j g l i).1).symm
 . obtain⟨m,B,f⟩:=h.minus.1 s;obtain⟨x,z,t,g,u,A,⟨i,j,l⟩,o,p⟩:=h.some (n.and f);rw[Jo,Ym]at p;rw[s];exact((k.sid_mono DH).2 (k.near_sid j g l i).2).symm
end
section
variable {w:List Rat} {a b x z s t m:Rat}
theorem It(tw:Jc w=w)(w0:w≠[])(sw:DY w)(e:cw w x=cw w z)(i:x<t)(b:t<=z):ev w t≠0:=λa=>by
 obtain⟨A,p,hA⟩:=JN x;obtain⟨C,q,hC⟩:=JN z;have f:0<=A+C:=DH
 obtain⟨d,d0,m⟩:=(Is tw w0 sw f).and (ZT sw f);have g:∀y,x<=y->y<=z->Wi (A+C) y:=λy i b=>⟨by have:=hA.1;have:=hC.1;grind,by have:=hC.2;grind⟩;obtain⟨k,r,s,u⟩:=Hq d0 (show 0<t-x by grind);have c:=m (t-k) t (g _ DH DH) (g t DH b) DH DH;have n:¬Stb w (t-k) t:=λh=>by unfold Stb at h;rw[a]at h;grind
 have l:=c.2 n DH;have o:ev w (t-k)≠0:=λe=>by rw[a,e]at l;grind
 have j:J1 w (t-k) t=1:=by
  unfold J1;rw[BF ⟨o,by rw[a];grind⟩]
 have v:=JF tw w0 (show x<=t-k by grind);have B:=JF tw w0 b;have:=c.1;omega
theorem K1(tw:Jc w=w)(w0:w≠[])(sw:DY w)(e:cw w x=cw w z)(f:x<=s)(hs:ev w s≠0)(a:s<=t)(v:t<=z):Stb w s t:=by
 obtain⟨A,r,hA⟩:=JN s;obtain⟨C,u,hC⟩:=JN t;have g:0<=A+C:=DH
 obtain⟨d,d0,k⟩:=Is tw w0 sw g;have b:∀y,s<=y->y<=t->Wi (A+C) y:=λy f a=>⟨by have:=hA.1;have:=hC.1;grind,by have:=hC.2;grind⟩;have nz:∀y,s<=y->y<=t->ev w y≠0:=λy i j=>by
  grind[It]
 have o:=Lc (F:=K0 w) a d0 λp q l c m n=>by
  have B:=k p q (b p l DH) (b q DH m) c n;have D:=JF tw w0 (show x<=p by grind);have G:=JF tw w0 c;have H:=JF tw w0 (show q<=z by grind);grind[J1,ZZ,Stb]
 unfold K0 at o;unfold Stb;rcases YO (nz s Rat.le_refl a)with p|p<;>rcases YO (nz t a Rat.le_refl)with q|q
 . have:=Rat.mul_pos (show 0 < -(ev w s)by grind) (show 0 < -(ev w t)by grind);grind
 . grind
 . grind
 . exact Rat.mul_pos p q
structure Spn(w:List Rat)(a b:Rat):Prop where
 tw:Jc w=w
 w0:w≠[]
 sq:DY w
 ab:a<b
 one:cw w a=cw w b+1
theorem Spn.neg(h:Spn w a b)(l:ev w a≠0)(g:ev w b≠0):ev w a*ev w b<0:=by
 obtain⟨A,H,hA⟩:=JN a;obtain⟨C,I,hC⟩:=JN b;have x:0<=A+C:=DH
 obtain⟨d,d0,z⟩:=Is h.tw h.w0 h.sq x;have n:∀y,a<=y->y<=b->Wi (A+C) y:=λy v L=>⟨by have:=hA.1;have:=hC.1;grind,by have:=hC.2;grind⟩;refine Classical.byContradiction λhn=>?_;have hp:0<ev w a*ev w b:=(YO (Y7 l g)).resolve_left hn;have:=Lc (F:=cw w) (Rat.le_of_lt h.ab) (show 0<d/2 by grind) λs t hs B m N=>by
  refine Classical.byContradiction λP=>?_;have T:=JF h.tw h.w0 hs;have U:=JF h.tw h.w0 B;have V:=JF h.tw h.w0 m;have v:=h.one;have cs:cw w a=cw w s:=O
  have o:cw w t=cw w b:=O
  obtain⟨c,p,f,u,i⟩:∃c,t<=c/\c<=b/\c-s<=d/\ev w c≠0:=by
   by_cases K:ev w t=0
   . have e:t<b:=by
      rcases Rat.le_iff_lt_or_eq.1 m with r|r
      . exact r
      . grind
     obtain⟨k,Q,R,S⟩:=Hq (show 0<d/2 by grind) (show 0<b-t by grind);exact⟨t+k,DH,DH,DH,It h.tw h.w0 h.sq o (show t<t+k by grind) DH⟩
   grind
  have c2:cw w c=cw w b:=by
   have:=JF h.tw h.w0 p;have:=JF h.tw h.w0 f;omega
  have M:=z s c (n s hs DH) (n c DH f) DH u;have p1:=K1 h.tw h.w0 h.sq cs Rat.le_refl l hs Rat.le_refl;have G:=K1 h.tw h.w0 h.sq c2 Rat.le_refl i f Rat.le_refl;obtain⟨_,D⟩:=Jy p1;have j:J1 w s c=1:=O
  unfold J1 at j;have hle:ev w s*ev w c<=0:=by
   refine Rat.not_lt.1 λe=>?_;rw[BE λq=>by have:=q.2;grind]at j;cases j
  have e:ev w s*ev w c<0:=(YO (Y7 D i)).resolve_right DH;have q1:0<ev w b*ev w b:=(YO (Y7 g g)).resolve_left (by have:=Xl (ev w b);grind);exact Zd hp q1 p1 G e
 have:=h.one;omega
theorem Spn.cut(h:Spn w a b)(d:a<m)(c:m<b):((ev w m=0\/0<ev w m*ev w b)->Spn w a m)/\(ev w m≠0->(ev w b=0\/ev w m*ev w b<0)->Spn w m b):=by
 have i:=JF h.tw h.w0 (Rat.le_of_lt d);have j:=JF h.tw h.w0 (Rat.le_of_lt c);have g:=h.one;by_cases e:cw w m=cw w b
 . refine⟨λ_=>⟨h.tw,h.w0,h.sq,d,O⟩,λn k=>?_⟩;exfalso
   have nb:=It h.tw h.w0 h.sq e c Rat.le_refl;have:=K1 h.tw h.w0 h.sq e Rat.le_refl n (Rat.le_of_lt c) Rat.le_refl;grind[Stb]
 . have f:cw w a=cw w m:=O
   have n:=It h.tw h.w0 h.sq f d Rat.le_refl;have hs:Spn w m b:=⟨h.tw,h.w0,h.sq,c,O⟩;refine⟨λk=>?_,λ_ _=>hs⟩;exfalso
   rcases k with k|k
   . exact n k
   . obtain⟨_,nb⟩:=Jy k;have:=hs.neg n nb;grind
theorem Spn.irr(h:Spn w a b)(c:ev w a≠0)(hn:∀x,a<x->x<=b->ev w x≠0):Irr w a b:=⟨h.tw,h.w0,h.sq,h.ab,λx i j=>by
 grind,h.one⟩
theorem Spn.rat(h:Spn w a b)(m:a<x)(n:x<=b)(e:ev w x=0):∀y,a<y->y<=b->ev w y=0->y=x:=λy i j k=>by
 have o:∀u v,a<u->u<v->v<=b->ev w u=0->ev w v=0->False:=λu v c d f g l=>by
  have c1:cw w u≠cw w b:=λe=>It h.tw h.w0 h.sq e d f l;have c2:cw w a≠cw w u:=λe=>It h.tw h.w0 h.sq e c Rat.le_refl g;have p:=JF h.tw h.w0 (Rat.le_of_lt c);have q:=JF h.tw h.w0 (show u<=b by grind);have:=h.one;omega
 grind
end
section
def hZ(n d:Int):List Int->Int
 |[]=>0
 |c::p=>c*d^p.length+n*hZ n d p
variable{L k:Int}{K:Nat}
theorem Rq(x:Rat):∀zs:List Int,zs≠[]->((x.den:Int):Rat)^(zs.length-1)*ev (zs.map λz:Int=>(z:Rat)) x=(hZ x.num (x.den:Int) zs:Rat):=by
 have g:((x.den:Int):Rat)*x=(x.num:Rat):=by
  have h:=Cj x;have f:((x.den:Int):Rat)≠0:=by have:=x.den_nz;exact_mod_cast this
  have e:x=(x.num:Rat)/((x.den:Int):Rat):=by rw[<-AD];exact h.symm
  have b:=Aj (a:=(x.num:Rat)) f;rw[<-e]at b;rw[AU];exact b
 intro zs;induction zs with
 |nil=>intro h;exact absurd rfl h
 |cons c p d=>
  intro _;match p,d with
  |[],_=>simp[hZ,ev];grind
  |c2::p,d=>
   rw[hZ,List.map_cons,Hz];grind
theorem qV(n d:Int):∀(zs:List Int) (h:zs≠[]),∃q,hZ n d zs=d*q+zs.getLast h*n^(zs.length-1):=by
 intro zs;induction zs with
 |nil=>intro h;exact absurd rfl h
 |cons c p b=>
  intro a;match p,b,a with
  |[],_,_=>exact⟨0,by simp[hZ]⟩
  |c2::p,b,a=>
   have hg:(c::c2::p).getLast a=(c2::p).getLast DI:=List.getLast_cons DI;obtain⟨q,hq⟩:=b DI;refine⟨c*d^p.length+n*q,?_⟩;grind[hZ]
def Rr{zs:List Int}(h:zs≠[]){x:Rat}(e:ev (zs.map λz:Int=>(z:Rat)) x=0):(x.den:Int)∣zs.getLast h:=by
 have a:=Rq x zs h;rw[e,Fl]at a;have b:hZ x.num (x.den:Int) zs=0:=by exact_mod_cast a.symm
 obtain⟨q,hq⟩:=qV x.num (x.den:Int) zs h;rw[b]at hq;have c:(x.den:Int)∣zs.getLast h*x.num^(zs.length-1):=⟨-q,by rw[Int.mul_neg];omega⟩;have d:x.den∣(zs.getLast h).natAbs*x.num.natAbs^(zs.length-1):=by
  have:=Cu.2 c;rwa[Cx,Int.natAbs_pow,Az]at this
 have f:Nat.Coprime x.den (x.num.natAbs^(zs.length-1)):=(x.reduced.symm).pow_right _;have g:=f.dvd_of_dvd_mul_right d;exact Cu.1 (by rw[Az];exact g)
def Wh.ints{p:List Rat}(h:Wh K p):∃zs:List Int,p=zs.map (λz:Int=>(z:Rat)):=by
 induction p with
 |nil=>exact⟨[],rfl⟩
 |cons c p d=>
  obtain⟨zs,e⟩:=d (λi=>by obtain⟨z,b,a⟩:=h (i+1);exact⟨z,b,by rw[<-a];rfl⟩);obtain⟨z,_,a⟩:=h 0;exact⟨z::zs,by rw[List.map_cons,<-e,<-a];rfl⟩
def J0(x:Rat)(L:Int):Int:=x.num*L/(x.den:Int)
theorem Mu{x:Rat}:k<=J0 x L↔(k:Rat)<=x*(L:Rat):=by
 have b:(0:Int)<(x.den:Int):=by have:=x.den_nz;omega
 have g:x*((x.den:Int):Rat)=(x.num:Rat):=by
  have h:=Cj x;have b:((x.den:Int):Rat)≠0:=by have:=x.den_nz;exact_mod_cast this
  have d:x=(x.num:Rat)/((x.den:Int):Rat):=by rw[<-AD];exact h.symm
  have f:=Aj (a:=(x.num:Rat)) b;rw[<-d]at f;exact f
 have c:(0:Rat)<((x.den:Int):Rat):=by exact_mod_cast b
 unfold J0;rw[Int.le_ediv_iff_mul_le b,<-Rat.intCast_le_intCast,Aq,Aq,<-g];have e:x*((x.den:Int):Rat)*(L:Rat)=x*(L:Rat)*((x.den:Int):Rat):=DH
 rw[e];constructor
 . intro h;refine Rat.not_lt.1 λd=>?_;have:=Rat.mul_pos (show 0<(k:Rat)-x*(L:Rat)by grind) c;grind
 . intro h;have:=Rat.mul_nonneg (show 0<=x*(L:Rat)-(k:Rat)by grind) (Rat.le_of_lt c);grind
theorem qW{a b x:Rat}(e:0<L)(d:x*(L:Rat)=(k:Rat))(f:a<x)(g:x<=b)(i:J0 b L-J0 a L<=1):k=J0 b L:=by
 have c:(0:Rat)<(L:Rat):=by exact_mod_cast e
 have j:k<=J0 b L:=Mu.2 (by rw[<-d];have:=Rat.mul_nonneg (show 0<=b-x by grind) (Rat.le_of_lt c);grind);have l:¬k<=J0 a L:=λh=>by
  have:=Mu.1 h;rw[<-d]at this;have:=Rat.mul_pos (show 0<x-a by grind) c;grind
 omega
theorem qX{w:List Rat}(j:Wh K w)(w0:w≠[])(i:cf w (w.length-1)=(L:Rat)){x:Rat}(e:ev w x=0):∃k:Int,x*(L:Rat)=(k:Rat):=by
 obtain⟨zs,c⟩:=j.ints;have z0:zs≠[]:=λh=>w0 (by rw[c,h];rfl);have hl:zs.getLast z0=L:=by
  have d:cf w (w.length-1)=((zs.getLast z0:Int):Rat):=by
   rw[c];unfold cf;rw[CK,Fe,<-List.getLast?_eq_getElem?,List.getLast?_eq_some_getLast z0];rfl
  rw[i]at d;exact_mod_cast d.symm
 have b:=Rr z0 (x:=x) (by rw[<-c];exact e);rw[hl]at b;obtain⟨q,hq⟩:=b;refine⟨x.num*q,?_⟩;have l:x*((x.den:Int):Rat)=(x.num:Rat):=by
  have h:=Cj x;have b:((x.den:Int):Rat)≠0:=by have:=x.den_nz;exact_mod_cast this
  have g:x=(x.num:Rat)/((x.den:Int):Rat):=by rw[<-AD];exact h.symm
  have f:=Aj (a:=(x.num:Rat)) b;rw[<-g]at f;exact f
 rw[hq,Aq,Aq,<-l];grind
def Da(a b:Rat):Rat:=(a+b)/2
theorem Gh{a b:Rat}(h:a<b):a<Da a b/\Da a b<b/\Da a b-a=(b-a)/2/\b-Da a b=(b-a)/2:=by
 unfold Da;grind
def Dl(w:List Rat):Nat->Rat->Rat->List (Rat × Rat)
 |0,a,b=>if cw w a<=cw w b then []else [(a,b)]
 |k+1,a,b=>if cw w a<=cw w b then []else if cw w a=cw w b+1 then [(a,b)]else Dl w k a (Da a b)++Dl w k (Da a b) b
def Ez(w:List Rat)(H D:Rat):Prop:=∀x z,Wi H x->Wi H z->x<=z->cw w z+2<=cw w x->1<=D*(z-x)
theorem YT(k:Nat):(0:Rat)<2^k:=by
 induction k with
 |zero=>rw[Rat.pow_zero];decide
 |succ k a=>rw[Rat.pow_succ];grind
theorem Wi.between{H a b x:Rat}(c:Wi H a)(d:Wi H b)(e:a<=x)(f:x<=b):Wi H x:=⟨by have:=c.1;grind,by have:=d.2;grind⟩
section
variable {w:List Rat} {H D:Rat} (tw:Jc w=w) (w0:w≠[]) (sw:DY w) (hA:Ez w H D)
theorem Zf(tw:Jc w=w)(w0:w≠[])(hA:Ez w H D):∀(k:Nat) (a b:Rat),Wi H a->Wi H b->a<b->D*(b-a)<2^k->(Dl w k a b).length=cw w a-cw w b:=by
 intro k;induction k with
 |zero=>
  intro a b c e d g;rw[Rat.pow_zero]at g;rw[Dl];have m:=JF tw w0 (Rat.le_of_lt d);by_cases h:cw w a<=cw w b
  . rw[BF h];simp;omega
  . rw[BE h];by_cases f:cw w b+2<=cw w a
    . have:=hA a b c e (Rat.le_of_lt d) f;grind
    . show 1=_;omega
 |succ k n=>
  intro a b c e d g;obtain⟨i,j,o,p⟩:=Gh d;have l:=c.between e (Rat.le_of_lt i) (Rat.le_of_lt j);rw[Rat.pow_succ]at g;have c1:=JF tw w0 (Rat.le_of_lt i);have c2:=JF tw w0 (Rat.le_of_lt j);rw[Dl];by_cases h:cw w a<=cw w b
  . rw[BF h];simp;omega
  . rw[BE h];by_cases f:cw w a=cw w b+1
    . grind
    . rw[BE f,Am,n a _ c l i (by rw[o];grind),n _ b l e j (by rw[p];grind)];omega
theorem Rs(tw:Jc w=w)(w0:w≠[])(sw:DY w)(hA:Ez w H D):∀(k:Nat) (a b:Rat),Wi H a->Wi H b->a<b->D*(b-a)<2^k->∀s∈Dl w k a b,Spn w s.1 s.2/\a<=s.1/\s.2<=b:=by
 intro k;induction k with
 |zero=>
  intro a b e f c g s hs;rw[Rat.pow_zero]at g;rw[Dl]at hs;by_cases h:cw w a<=cw w b
  . rw[BF h]at hs;cases hs
  . rw[BE h,List.mem_singleton]at hs;subst hs;refine⟨⟨tw,w0,sw,c,?_⟩,Rat.le_refl,Rat.le_refl⟩;by_cases d:cw w b+2<=cw w a
    . have:=hA a b e f (Rat.le_of_lt c) d;grind
    grind
 |succ k m=>
  intro a b e f c g s hs;obtain⟨i,j,n,o⟩:=Gh c;have l:=e.between f (Rat.le_of_lt i) (Rat.le_of_lt j);rw[Rat.pow_succ]at g;rw[Dl]at hs;by_cases h:cw w a<=cw w b
  . rw[BF h]at hs;cases hs
  . rw[BE h]at hs;by_cases d:cw w a=cw w b+1
    . rw[BF d,List.mem_singleton]at hs;subst hs;exact⟨⟨tw,w0,sw,c,d⟩,Rat.le_refl,Rat.le_refl⟩
    grind
theorem qY(tw:Jc w=w)(w0:w≠[])(sw:DY w)(hA:Ez w H D):∀(k:Nat) (a b:Rat),Wi H a->Wi H b->a<b->D*(b-a)<2^k->(Dl w k a b).Pairwise λs t=>s.2<=t.1:=by
 intro k;induction k with
 |zero=>
  intro a b _ _ _ _;rw[Dl];split
  . exact List.Pairwise.nil
  grind
 |succ k l=>
  intro a b d e o p;obtain⟨f,g,m,n⟩:=Gh o;have c:=d.between e (Rat.le_of_lt f) (Rat.le_of_lt g);rw[Rat.pow_succ]at p;rw[Dl];split
  . exact List.Pairwise.nil
  . split
    . grind
    . refine List.pairwise_append.2 ⟨l a _ d c f (by rw[m];grind),l _ b c e g (by rw[n];grind),λs hs t q=>?_⟩;have i:=(Rs tw w0 sw hA k a _ d c f (by rw[m];grind) s hs).2.2;have j:=(Rs tw w0 sw hA k _ b c e g (by rw[n];grind) t q).2.1;grind
end
def qZ{K:Nat}{w:List Rat}(tw:Jc w=w)(sw:DY w)(g:Wh K w)(hs:Wh K (Jb w))(hl:3<=w.length)(m:w.length<=100){H:Rat}(b:0<=H):∃u v:List Rat,Wh ((K+1)*(w.length+(Jb w).length)) u/\Wh ((K+1)*(w.length+(Jb w).length)) v/\u.length<=w.length/\v.length<=w.length/\Ez w H (GX H u*Es H w+GX H v*Es H (Jb w)):=by
 have w0:w≠[]:=λe=>by rw[e]at hl;simp at hl
 have l1:=YW w0;have l2:2<=(Jb w).length:=by
  have h:=Jt tw w0;have e:cf (Jb w) (w.length-2)≠0:=by
   rw[XK,show w.length-2+1=w.length-1 by omega];exact Y7 h (by have:((w.length-1:Nat):Int)≠0:=(by omega);exact_mod_cast this)
  have:=Q7 e;omega
 obtain⟨u,v,c,f,hv,d,n,l,e⟩:=qQ tw (Ju w) g hs O O l2 sw;exact⟨u,v,f,hv,O,l,λx z i k j a=>qT tw O d e b i k j a⟩
end
section
def E0(w:List Rat)(a b m:Rat):Rat × Rat:=if ev w m=0\/0<ev w m*ev w b then(a,m)else(m,b)
variable{L:Int}
theorem Zg{w:List Rat}{a b m:Rat}(h:Spn w a b)(d:a<m)(f:m<b):Spn w (E0 w a b m).1 (E0 w a b m).2/\a<=(E0 w a b m).1/\(E0 w a b m).2<=b/\((E0 w a b m).1=a\/ev w (E0 w a b m).1≠0):=by
 unfold E0;by_cases c:ev w m=0\/0<ev w m*ev w b
 . rw[BF c];exact⟨(h.cut d f).1 c,Rat.le_refl,Rat.le_of_lt f,Or.inl rfl⟩
 . rw[BE c];have n:ev w m≠0:=λe=>c (Or.inl e);refine⟨(h.cut d f).2 n ?_,Rat.le_of_lt d,Rat.le_refl,Or.inr n⟩;grind[Y7]
theorem qe{w:List Rat}{a b:Rat}(h:a<b):(E0 w a b (Da a b)).2-(E0 w a b (Da a b)).1=(b-a)/2:=by
 grind[Gh,E0]
def Hu(w:List Rat)(L:Int):Nat->Rat->Rat->Rat × Rat
 |0,a,b=>(a,b)
 |k+1,a,b=>if 1<J0 b L-J0 a L\/ev w a=0 then Hu w L k (E0 w a b (Da a b)).1 (E0 w a b (Da a b)).2 else(a,b)
theorem qf{a b:Rat}(h:(L:Rat)*(b-a)<1):J0 b L-J0 a L<=1:=by
 have e:=Mu.1 (Int.le_refl (J0 b L));have c:¬J0 a L+1<=J0 a L:=O
 have f:a*(L:Rat)<((J0 a L+1:Int):Rat):=Rat.not_le.1 λh=>c (Mu.2 h);have d:((J0 b L:Int):Rat)<((J0 a L+2:Int):Rat):=by
  rw[show J0 a L+2=(J0 a L+1)+1 by omega,Fc (J0 a L+1) 1]
  have:((1:Int):Rat)=1:=rfl
  grind
 have:J0 b L<J0 a L+2:=Rat.intCast_lt_intCast.1 d
 omega
theorem qg{w:List Rat}{H D a b:Rat}(hA:Ez w H D)(hD:0<=D)(h:Spn w a b)(d:ev w a=0)(g:-H<a)(c:Wi H b):1<=D*(b-a):=by
 refine Rat.not_lt.1 λhn=>?_;obtain⟨k,p,q,r⟩:=Hq (show 0<a+H by grind) (show 0<(1-D*(b-a))/(D+1)from Yl DH DH);have l:=h.ab;have f:Wi H (a-k):=⟨DH,by have:=c.2;grind⟩;have n:cw w (a-k)≠cw w a:=λe=>It h.tw h.w0 h.sq e (show a-k<a by grind) Rat.le_refl d;have m:=JF h.tw h.w0 (show a-k<=a by grind);have o:=h.one;have i:=hA (a-k) b f c DH O;have e:(1-D*(b-a))/(D+1)*(D+1)=1-D*(b-a):=Aj DH;have j:=Rat.mul_nonneg (a:=(1-D*(b-a))/(D+1)-k) (b:=D+1) DH DH;grind
structure Stld(w:List Rat)(L:Int)(a b:Rat):Prop where
 spn:Spn w a b
 one:J0 b L-J0 a L<=1
 low:ev w a≠0
theorem qh{w:List Rat}{H D:Rat}(hA:Ez w H D)(hD:0<=D):∀(k:Nat) (a b:Rat),Spn w a b->-H<a->Wi H b->D*(b-a)<2^k->(L:Rat)*(b-a)<2^k->Stld w L (Hu w L k a b).1 (Hu w L k a b).2/\a<=(Hu w L k a b).1/\(Hu w L k a b).2<=b:=by
 intro k;induction k with
 |zero=>
  intro a b h i g f c;rw[Rat.pow_zero]at f c;refine⟨⟨h,qf c,λe=>?_⟩,Rat.le_refl,Rat.le_refl⟩;have:=qg hA hD h e i g;grind
 |succ k p=>
  intro a b h i g f c;rw[Rat.pow_succ]at f c;rw[Hu];by_cases d:1<J0 b L-J0 a L\/ev w a=0
  . rw[BF d];obtain⟨m,n,_,_⟩:=Gh h.ab;obtain⟨l,r,s,_⟩:=Zg h m n;have t:=qe (w:=w) h.ab;have o:Wi H (E0 w a b (Da a b)).2:=⟨by have:=l.ab;grind,by have:=g.2;grind⟩;grind
  . rw[BE d];have j:J0 b L-J0 a L<=1:=by have:=λq=>d (Or.inl q);omega
    exact⟨⟨h,j,λe=>d (Or.inr e)⟩,Rat.le_refl,Rat.le_refl⟩
theorem Stld.fin{K:Nat}{w:List Rat}{a b:Rat}(h:Stld w L a b)(o:Wh K w)(n:cf w (w.length-1)=(L:Rat))(c:0<L):
 (a<Rat.divInt (J0 b L) L->ev w (Rat.divInt (J0 b L) L)=0->Rat.divInt (J0 b L) L<=b/\∀y,a<y->y<=b->ev w y=0->y=Rat.divInt (J0 b L) L)/\
 (¬(a<Rat.divInt (J0 b L) L/\ev w (Rat.divInt (J0 b L) L)=0)->Irr w a b):=by
 have g:(0:Rat)<(L:Rat):=by exact_mod_cast c
 obtain⟨x,d⟩:=ex (Rat.divInt (J0 b L) L);have ex:x*(L:Rat)=((J0 b L:Int):Rat):=by
  rw[<-d,AD];exact Aj DH
 have f:x<=b:=by
  have:=Mu.1 (Int.le_refl (J0 b L));rw[<-ex]at this;refine Rat.not_lt.1 λk=>?_;have:=Rat.mul_pos (show 0<x-b by grind) g;grind
 rw[d];refine⟨λl m=>⟨f,h.spn.rat l f m⟩,λhn=>h.spn.irr h.low λy i j e=>?_⟩;obtain⟨k,hk⟩:=qX o h.spn.w0 n e;have p:=qW c hk i j h.one;grind[AM]
section
variable {w q p r g u:List Rat} {a b x z:Rat}
theorem Er.add_sml(h:Er w a b q)(hs:EI w a b p):Er w a b (XB q p):=by
 obtain⟨c,c0,d⟩:=h;refine⟨c/2,DH,(d.and (hs (c/2) DH)).mono λx z _ _ _ _ i=>?_⟩;rw[Yc,Yc];have e:=i.2.1.1;have f:=i.2.2.1;constructor<;>grind
def EI.add(h:EI w a b q)(hs:EI w a b p):EI w a b (XB q p):=λe c=>by
 refine((h (e/2) DH).and (hs (e/2) DH)).mono λx z _ _ _ _ i=>?_;rw[Yc,Yc];exact⟨(i.1.1.add i.2.1).mono DH,(i.1.2.add i.2.2).mono DH⟩
theorem Irr.add_sml(h:Irr w a b)(hs:EI w a b p):De w a b (XB q p)=De w a b q:=by
 rcases h.val q with⟨c,d⟩|⟨c,d⟩|⟨c,d⟩
 . rw[c];exact h.zero.2 (d.add hs)
 . rw[c];exact h.pos.2 (d.add_sml hs)
 . rw[c];refine h.minus.2 ((d.add_sml ((hs.mul [-1]).ext (p:=DN (-1) p) λx=>?_)).ext λx=>?_)
   . rw[Jo,Jd,Jm]
   . rw[Jo,Yc,Yc,Jo,Jo];grind
def Irr.slope(h:Irr w a b)(r:List Rat):De w a b (Jb (Ji w r))=De w a b (Jb w)*De w a b r:=by
 rw[Sn,h.add_sml (Oa.mul (Jb r)),h.mul]
def Irr.slope_ne(h:Irr w a b):De w a b (Jb w)≠0:=h.cop h.sq
theorem Irr.times(h:Irr w a b){c:List Rat}{i:Nat}(l:DR w c)(hp:∀x,ev p x=ev w x*(ev w x^i*ev c x))(tp:Jc p=p):De w a b (Jb p)=0↔1<=i:=by
 obtain⟨r,d⟩:∃r:List Rat,∀x,ev r x=ev w x^i*ev c x:=by
  clear hp tp l;induction i with
  |zero=>exact⟨c,λx=>by rw[Rat.pow_zero,Cq]⟩
  |succ i g=>
   obtain⟨r,d⟩:=g;exact⟨Ji w r,λx=>by rw[Jd,d,Rat.pow_succ];grind⟩
 have e:p=Ji w r:=YG tp (Jq _ _) λx=>by rw[Jd,d,hp]
 rw[e,h.slope];constructor
 . intro k;rcases AN i with f|f
   . exfalso
     rcases Int.mul_eq_zero.1 k with k|k
     . exact h.slope_ne k
     . refine h.cop l ((h.ext λx=>?_).symm.trans k);rw[d,f,Rat.pow_zero,Cq]
   . exact f
 . intro k;obtain⟨j,rfl⟩:∃j,i=j+1:=⟨i-1,O⟩
   have:EI w a b r:=by
    obtain⟨s,hs⟩:∃s:List Rat,∀x,ev s x=ev w x^j*ev c x:=by
     clear d hp;clear k e;induction j with
     |zero=>exact⟨c,λx=>by rw[Rat.pow_zero,Cq]⟩
     |succ i g=>
      obtain⟨r,d⟩:=g;exact⟨Ji w r,λx=>by rw[Jd,d,Rat.pow_succ];grind⟩
    exact(Oa.mul s).ext λx=>by rw[Jd,hs,d,Rat.pow_succ];grind
   rw[h.zero.2 this,FB]
def Rt(tg:Jc g=g)(g0:g≠[])(f:Jc u=u)(u0:u≠[])(sg:DY g)(e:DY u)(d:DR g u)(j:a<=b):cw (Ji g u) a+(cw g b+cw u b)=cw (Ji g u) b+(cw g a+cw u a):=by
 obtain⟨A,k,hA⟩:=JN a;obtain⟨C,l,hC⟩:=JN b;have c:0<=A+C:=DH
 have s:=(((Is (Jq g u) (Yt tg f g0 u0) (sg.mul e d) c).and (Is tg g0 sg c)).and (Is f u0 e c)).and (Mp d c);exact glue (B:=A+C) (F:=cw (Ji g u)) (G:=λx=>cw g x+cw u x) (s.mono λx z _ _ _ i=>by
  omega) (hA.mono DH) (hC.mono DH) j
theorem Irr.factor(h:Irr w a b)(tg:Jc g=g)(g0:g≠[])(o:Dv g w):(De w a b g=0/\cw g a=cw g b+1)\/(De w a b g≠0/\cw g a=cw g b):=by
 have l:=(JI tg g0 o).2;have p:Jc (Jn w g)=Jn w g:=YE _ _;have ew:w=Ji g (Jn w g):=YG h.tw (Jq _ _) λx=>by rw[Jd];exact l x
 have u0:Jn w g≠[]:=λe=>h.w0 (by rw[ew,e,YS]);have sw:DY (Ji g (Jn w g)):=by rw[<-ew];exact h.sq
 have sg:DY g:=h.sq.of_dv h.tw o;have t:DY (Jn w g):=h.sq.of_dv h.tw ⟨g,λx=>by rw[l x,AU]⟩;have G:=sw.parts;have q:=Rat.le_of_lt h.ab;have k:=Rt tg g0 p u0 sg t G q;rw[<-ew]at k;have I:=JF tg g0 q;have K:=JF p u0 q;have H:=h.one;have u:∀y,a<=y->y<=b->ev g y≠0:=λy i j e=>h.nz y i j (by rw[l y,e,AY]);have v:∀y,a<=y->y<=b->ev (Jn w g) y≠0:=λy i j e=>h.nz y i j (by rw[l y,e,Fl]);by_cases hg:cw g a=cw g b
 . refine Or.inr ⟨λe=>?_,hg⟩;obtain⟨x,z,f,m,n,_,D⟩:=h.some (Ze h sg tg e);have:=K1 tg g0 sg hg f (u x f DH) m n;unfold Stb at this;grind
 . have B:cw g a=cw g b+1:=O
   have A:cw (Jn w g) a=cw (Jn w g) b:=O
   refine Or.inl ⟨?_,B⟩;have hi:Irr g a b:=⟨tg,g0,sg,h.ab,u,B⟩;rcases h.val g with⟨F,_⟩|⟨_,c,c0,d,d0,o⟩|⟨_,c,c0,d,d0,o⟩
   . exact F
   . exfalso
     obtain⟨x,z,f,m,n,s,D⟩:=hi.near d0;have st:=K1 p u0 t A f (v x f DH) (Rat.le_of_lt m) n;unfold Stb at st;have r:ev w x*ev w z<0:=by
      rw[l x,l z];have:=Rat.mul_pos (show 0 < -(ev g x*ev g z)by grind) st;grind
     have j:=o x z f (Rat.le_of_lt m) n s r;have:=Rat.mul_pos (show 0<ev g x by have:=j.1;grind) (show 0<ev g z by have:=j.2;grind);grind
   . exfalso
     obtain⟨x,z,f,m,n,s,D⟩:=hi.near d0;have st:=K1 p u0 t A f (v x f DH) (Rat.le_of_lt m) n;unfold Stb at st;have r:ev w x*ev w z<0:=by
      rw[l x,l z];have:=Rat.mul_pos (show 0 < -(ev g x*ev g z)by grind) st;grind
     have j:c<=ev (DN (-1) g) x/\c<=ev (DN (-1) g) z:=o x z f (Rat.le_of_lt m) n s r;rw[Jo,Jo]at j;have:=Rat.mul_pos (show 0 < -(ev g x)by have:=j.1;grind) (show 0 < -(ev g z)by have:=j.2;grind);grind
theorem Irr.gcd(h:Irr w a b)(tq:Jc q=q):De w a b q=0↔cw (Js w q) a=cw (Js w q) b+1:=by
 have tg:=JE w q;have g0:=Yd h.tw tq (Or.inl h.w0);obtain⟨d1,m,_⟩:=J6 h.tw tq;obtain⟨g,hg,d⟩:=h.sign q;have d:Nr w a b _:=d;have l:Dv g (Js w q):=Ik h.tw tq hg.dw hg.dq;have s:De w a b q=0↔De w a b (Js w q)=0:=by
  constructor
  . intro e;obtain⟨c,f⟩:=l;refine h.zero.2 (EI.ext (q:=Ji g c) (EI.mul (λk hk=>(d.and (Nr.of_sh λn=>Xj g n hk)).mono λx z _ _ _ _ i=>i.2 λo=>?_) c) λx=>by rw[Jd];exact f x);rcases i.1 with j|j|j
    . unfold Stb at o;have:=j.2;grind
    . omega
    . omega
  . intro e;obtain⟨c,f⟩:=m;exact h.zero.2 (((h.zero.1 e).mul c).ext λx=>by rw[Jd];exact f x)
 rw[s];rcases h.factor tg g0 d1 with⟨p,r⟩|⟨p,r⟩
 . omega
 omega
end
end
section
variable {w:List Rat} {x z:Rat}
theorem qi(tw:Jc w=w)(w0:w≠[])(sw:DY w)(l:x<=z)(H:ev w z≠0)(j:cw w x≠cw w z):∃s t,x<=s/\s<t/\t<=z/\ev w s≠0/\ev w t≠0/\cw w s=cw w t+1:=by
 obtain⟨A,n,hA⟩:=JN x;obtain⟨C,o,hC⟩:=JN z;have i:0<=A+C:=DH
 obtain⟨d,d0,c⟩:=Is tw w0 sw i;have a:∀y,x<=y->y<=z->Wi (A+C) y:=λy q u=>⟨by have:=hA.1;have:=hC.1;grind,by have:=hC.2;grind⟩;refine Classical.byContradiction λhn=>j ?_;refine Lc (F:=cw w) l (show 0<d/2 by grind) λs t hs f g B=>?_;refine Classical.byContradiction λG=>?_;have b:cw w s=cw w t+J1 w s t:=c s t (a s hs DH) (a t DH g) f DH;have m:ev w s≠0:=λe=>by
  unfold J1 at b;grind
 have one:cw w s=cw w t+1:=by
  unfold J1 at b;split at b<;>omega
 have lt:s<t:=by
  rcases Rat.le_iff_lt_or_eq.1 f with r|r
  . exact r
  . rw[r]at one;omega
 by_cases p:ev w t=0
 . have D:t<z:=by
    rcases Rat.le_iff_lt_or_eq.1 g with r|r
    . exact r
    . grind
   obtain⟨k,I,K,L⟩:=Hq (show 0<d/2 by grind) (show 0<z-t by grind);have v:cw w s=cw w (t+k)+J1 w s (t+k):=c s (t+k) (a s hs DH) (a _ DH DH) DH DH;have N:=JF tw w0 (show t<=t+k by grind);have M:J1 w s (t+k)<=1:=by unfold J1;split<;>omega
   have e:cw w t=cw w (t+k):=O
   exact hn ⟨s,t+k,hs,DH,DH,m,It tw w0 sw e (show t<t+k by grind) Rat.le_refl,O⟩
 grind
theorem qj(tw:Jc w=w)(w0:w≠[])(sw:DY w):∀(n:Nat) (x z:Rat),x<=z->ev w x≠0->ev w z≠0->cw w x=cw w z+n->(n%2=0->0<ev w x*ev w z)/\(n%2=1->ev w x*ev w z<0):=by
 intro n;induction n using Nat.strongRecOn with
 |_ n q=>
  intro x z o m p A;rcases AN n with u|u
  . subst u;have:=K1 tw w0 sw (show cw w x=cw w z by omega) Rat.le_refl m o Rat.le_refl;exact⟨λ_=>this,λh=>by omega⟩
  . obtain⟨s,t,k,y,l,f,g,e⟩:=qi tw w0 sw o p O;have D:=JF tw w0 k;have F:=JF tw w0 l;have B:=(Spn.mk tw w0 sw y e).neg f g;obtain⟨p1,v⟩:=q (cw w x-cw w s) O x s k m f O;obtain⟨q1,q2⟩:=q (cw w t-cw w z) O t z l g p O;have r:(ev w s*ev w t)*(ev w s*ev w t)*(ev w x*ev w z)=(ev w x*ev w s)*(ev w s*ev w t)*(ev w t*ev w z):=DH
    have Q:0<(ev w s*ev w t)*(ev w s*ev w t):=(YO (Y7 (Y7 f g) (Y7 f g))).resolve_left (by have:=Xl (ev w s*ev w t);grind);generalize ev w s*ev w t=b at *;generalize ev w x*ev w s=i at *;generalize ev w t*ev w z=j at *;rcases Nat.mod_two_eq_zero_or_one (cw w x-cw w s)with r1|r1<;>rcases Nat.mod_two_eq_zero_or_one (cw w t-cw w z)with d|d
    . have a:=p1 r1;have c:=q1 d;have:=Rat.mul_pos (Rat.mul_pos a (show 0 < -b by grind)) c;exact⟨λh=>by omega,λ_=>KN Q (by rw[r];grind)⟩
    . have a:=p1 r1;have c:=q2 d;have:=Rat.mul_pos (Rat.mul_pos a (show 0 < -b by grind)) (show 0 < -j by grind);grind[Xw]
    . have a:=v r1;have c:=q1 d;have:=Rat.mul_pos (Rat.mul_pos (show 0 < -i by grind) (show 0 < -b by grind)) c;grind[Xw]
    . have a:=v r1;have c:=q2 d;have:=Rat.mul_pos (Rat.mul_pos (show 0 < -i by grind) (show 0 < -b by grind)) (show 0 < -j by grind);exact⟨λh=>by omega,λ_=>KN Q (by rw[r];grind)⟩
theorem Zh(n:Nat):(n%2=0->(-1:Rat)^n=1)/\(n%2=1->(-1:Rat)^n=-1):=by
 induction n with
 |zero=>grind
 |succ n a=>
  grind
theorem qm(tw:Jc w=w)(w0:w≠[])(sw:DY w):DM (FW (Jw w))<=DM (EE (Jw w))/\(DM (EE (Jw w))-DM (FW (Jw w)))%2=(w.length-1)%2:=by
 obtain⟨B1,n,j,hD⟩:=Xa (Yi tw w0);obtain⟨B2,o,g⟩:=Sv tw w0;obtain⟨B3,p,i⟩:=Sw tw w0;obtain⟨X,hX⟩:=ex (B1+B2+B3);have u:=j X DH;have d:=hD (-X) DH;have b:=g X DH;have c:=i (-X) DH;have m:=JF tw w0 (show -X<=X by grind);unfold cw at m;rw[u,d]at m;refine⟨m,?_⟩;obtain⟨_,k⟩:=Jy b;obtain⟨_,l⟩:=Jy c;obtain⟨p1,q⟩:=qj tw w0 sw (DM (EE (Jw w))-DM (FW (Jw w))) (-X) X DH l k (by unfold cw;rw[u,d];omega);have e:=Rat.mul_pos b c;have f:cf w (w.length-1)*ev w X*((-1)^(w.length-1)*cf w (w.length-1)*ev w (-X))=(cf w (w.length-1)*cf w (w.length-1))*((-1)^(w.length-1)*(ev w (-X)*ev w X)):=DH
 rw[f]at e;have a:=Xg e;rcases Nat.mod_two_eq_zero_or_one (w.length-1)with r|r
 . rw[(Zh _).1 r,Cq]at a;grind
 . rw[(Zh _).2 r]at a;grind
end
section
def Ej:List (List Rat × Nat)->List Rat
 |[]=>[1]
 |s::L=>Ji s.1 (Ej L)
structure PtsOk(L:List (List Rat × Nat)):Prop where
 all:∀s∈L,Jc s.1=s.1/\s.1≠[]/\DY s.1/\1<=s.2
 cop:L.Pairwise λa b=>DR a.1 b.1
variable{L:List (List Rat × Nat)}{T:Rat->Int}
def PtsOk.tail{s:List Rat × Nat}(h:PtsOk (s::L)):PtsOk L:=⟨λt a=>h.all t (AB _ a),(List.pairwise_cons.1 h.cop).2⟩
theorem K3(L:List (List Rat × Nat)):Jc (Ej L)=Ej L:=by
 cases L with
 |nil=>decide +kernel
 |cons s L=>exact Jq _ _
theorem Mv(c:List Rat):DR [1] c:=⟨[1],[],λx=>by simp[ev];grind⟩
def Ob:∀(L:List (List Rat × Nat)) (c:List Rat),(∀s∈L,DR s.1 c)->DR (Ej L) c:=by
 intro L c;induction L with
 |nil=>intro _;exact Mv c
 |cons s L b=>intro h;exact(h s (Ao ..)).mul_left (b λt a=>h t (AB _ a))
def qn:∀(L:List (List Rat × Nat)) (c:List Rat),DR (Ej L) c->∀s∈L,DR s.1 c:=by
 intro L c;induction L with
 |nil=>intro _ s hs;cases hs
 |cons s L d=>
  intro h t b;have a:DR (Ji s.1 (Ej L)) c:=h;rcases Fh.1 b with r|r
  . rw[r];exact a.of_dv ((Dv.refl s.1).mul (Ej L))
  . exact d (a.of_dv ((Dv.refl (Ej L)).mul' s.1)) t r
def PtsOk.sqf(h:PtsOk L):DY (Ej L)/\Ej L≠[]:=by
 induction L with
 |nil=>exact⟨Mv _,by simp[Ej]⟩
 |cons s L e=>
  obtain⟨a,b⟩:=e h.tail;obtain⟨f,g,i,_⟩:=h.all s (Ao ..);have c:DR s.1 (Ej L):=(Ob L s.1 λt d=>((List.pairwise_cons.1 h.cop).1 t d).symm).symm;exact⟨i.mul a c,Yt f (K3 L) g b⟩
def Zi{p q:List Rat}(tp:Jc p=p)(p0:p≠[])(tq:Jc q=q)(q0:q≠[])(h:DR p q):nA (Ji p q)=nA p+nA q:=by
 rw[Rl tp p0 tq q0,RZ tp tq h,Kz.1];omega
def Iu(L:List (List Rat × Nat))(f:List Rat->Int):Int:=(L.map λs=>f s.1).sum
def qo(h:PtsOk L):nA (Ej L)=Iu L nA:=by
 induction L with
 |nil=>exact Kz.1
 |cons s L c=>
  obtain⟨d,e,_,_⟩:=h.all s (Ao ..);have a:DR s.1 (Ej L):=(Ob L s.1 λt b=>((List.pairwise_cons.1 h.cop).1 t b).symm).symm;rw[Ej,Zi d e (K3 L) (h.tail.sqf).2 a,c h.tail];simp[Iu]
def qp{p q:List Rat}(tp:Jc p=p)(p0:p≠[])(tq:Jc q=q)(q0:q≠[])(h:∀c,DR p c↔DR q c):DL p=DL q:=by
 have a:=YN tp p0;have b:=YN tq q0;refine Dv.eq a.tw b.tw a.mw b.mw ?_ ?_
 . exact DY.dv b.tw a.tw a.w0 (Ip tp p0) λc k=>(XD tp p0 c).2 ((h c).2 ((XD tq q0 c).1 k))
 . exact DY.dv a.tw b.tw b.w0 (Ip tq q0) λc k=>(XD tq q0 c).2 ((h c).1 ((XD tp p0 c).1 k))
theorem Zj{p q:List Rat}(tp:Jc p=p)(p0:p≠[])(tq:Jc q=q)(q0:q≠[])(h:DL p=DL q):nA p=nA q:=by
 have:=pk tp p0 tq q0 h;unfold nA;omega
def qq{w c:List Rat}(h:DR w c)(i:Nat):∀r:List Rat,(∀x,ev r x=ev w x^i)->DR r c:=by
 induction i with
 |zero=>intro r a;exact(Mv c).ext (λx=>by rw[a,Rat.pow_zero,Jm]) λ_=>rfl
 |succ i b=>
  intro r a;obtain⟨s,hs⟩:∃s:List Rat,∀x,ev s x=ev w x^i:=by
   clear b a;induction i with
   |zero=>exact⟨[1],λx=>by rw[Rat.pow_zero,Jm]⟩
   |succ i b=>
    obtain⟨s,hs⟩:=b;exact⟨Ji s w,λx=>by rw[Jd,hs,Rat.pow_succ]⟩
  exact((b s hs).mul_left h).ext (λx=>by rw[Jd,hs,a,Rat.pow_succ]) λ_=>rfl
def Zk(L:List (List Rat × Nat))(c:List Rat)(h:∀s∈L,DR s.1 c):∀r:List Rat,(∀x,ev r x=Dp L x)->DR r c:=by
 induction L with
 |nil=>intro r b;exact(Mv c).ext (λx=>by rw[b,Dp,Jm]) λ_=>rfl
 |cons s L a=>
  intro r b;obtain⟨u,d⟩:∃u:List Rat,∀x,ev u x=ev s.1 x^s.2:=by
   induction s.2 with
   |zero=>exact⟨[1],λx=>by rw[Rat.pow_zero,Jm]⟩
   |succ i a=>
    obtain⟨u,hs⟩:=a;exact⟨Ji u s.1,λx=>by rw[Jd,hs,Rat.pow_succ]⟩
  obtain⟨v,hv⟩:∃v:List Rat,∀x,ev v x=Dp L x:=by
   clear a h b;induction L with
   |nil=>exact⟨[1],λx=>by rw[Dp,Jm]⟩
   |cons t L a=>
    obtain⟨v,hv⟩:=a;obtain⟨u2,f⟩:∃u:List Rat,∀x,ev u x=ev t.1 x^t.2:=by
     induction t.2 with
     |zero=>exact⟨[1],λx=>by rw[Rat.pow_zero,Jm]⟩
     |succ i a=>
      obtain⟨u,hs⟩:=a;exact⟨Ji u t.1,λx=>by rw[Jd,hs,Rat.pow_succ]⟩
    exact⟨Ji u2 v,λx=>by rw[Jd,f,hv,Dp]⟩
  exact((qq (h s (Ao ..)) s.2 u d).mul_left (a (λt e=>h t (AB _ e)) v hv)).ext (λx=>by rw[Jd,d,hv,b,Dp]) λ_=>rfl
theorem qr{s:List Rat × Nat}(hs:s∈L)(g:1<=s.2):∃c:List Rat,∀x,Dp L x=ev s.1 x*ev c x:=by
 have Nz:∀(w:List Rat) (i:Nat),∃u:List Rat,∀x,ev u x=ev w x^i:=λw i=>by
  induction i with
  |zero=>exact⟨[1],λx=>by rw[Rat.pow_zero,Jm]⟩
  |succ i b=>
   obtain⟨u,hs⟩:=b;exact⟨Ji u w,λx=>by rw[Jd,hs,Rat.pow_succ]⟩
 have d:∀M:List (List Rat × Nat),∃v:List Rat,∀x,ev v x=Dp M x:=λM=>by
  induction M with
  |nil=>exact⟨[1],λx=>by rw[Dp,Jm]⟩
  |cons t L b=>
   obtain⟨v,hv⟩:=b;obtain⟨u,a⟩:=Nz t.1 t.2;exact⟨Ji u v,λx=>by rw[Jd,a,hv,Dp]⟩
 induction L with
 |nil=>cases hs
 |cons t L b=>
  rcases Fh.1 hs with r|r
  . subst r;obtain⟨j,f⟩:∃j,s.2=j+1:=⟨s.2-1,O⟩;obtain⟨u,a⟩:=Nz s.1 j;obtain⟨v,hv⟩:=d L;exact⟨Ji u v,λx=>by rw[Dp,f,Rat.pow_succ,Jd,a,hv];grind⟩
  . obtain⟨c,e⟩:=b r;obtain⟨u,a⟩:=Nz t.1 t.2;exact⟨Ji u c,λx=>by rw[Dp,e,Jd,a];grind⟩
def Zl(h:PtsOk L){p:List Rat}(tp:Jc p=p)(p0:p≠[])(hp:∀x,ev (Jr p) x=Dp L x):nA p=Iu L nA/\DL p=DL (Ej L):=by
 obtain⟨d1,a⟩:=Rc tp p0;have e:DL p=DL (Ej L):=qp tp p0 (K3 L) h.sqf.2 λc=>by
  constructor
  . intro k;refine Ob L c λs hs=>?_;obtain⟨r,b⟩:=qr hs (h.all s hs).2.2.2;exact(k.of_dv d1).of_dv ⟨r,λx=>by rw[hp];exact b x⟩
  . intro k;exact(Zk L c (qn L c k) (Jr p) hp).of_dv a
 exact⟨(Zj tp p0 (K3 L) h.sqf.2 e).trans (qo h),e⟩
theorem qu{a b:List Rat}(ta:Jc a=a)(tb:Jc b=b)(a0:a≠[])(b0:b≠[])(ma:Jr a=a)(mb:Jr b=b):Jr (Ji a b)=Ji a b:=by
 grind[Mk,LZ,YG,Yo,Jq,Ku]
theorem qx{u v q:List Rat}(a:Jc u=u)(u0:u≠[])(b:Jc v=v)(z:v≠[])(tq:Jc q=q)(h:DR u v):Js (Ji u v) q=Ji (Js u q) (Js v q):=by
 have tm:=Jq u v;obtain⟨c,k,d,l,p⟩:=J6 a tq;obtain⟨f,o,g,i,t⟩:=J6 b tq;obtain⟨c1,c2,_⟩:=J6 tm tq;have g0:=Yd a tq (Or.inl u0);have y:=Yd b tq (Or.inl z);have w:DR (Js u q) (Js v q):=(h.of_dv c).of_dv2 f;refine Dv.eq (JE _ _) (Jq _ _) (YF tm tq) (qu (JE _ _) (JE _ _) g0 y (YF a tq) (YF b tq)) ?_ ?_
 . refine c1.comb c2 (Ji d g) (XB (Ji (Ji d u) i) (Ji l (XB (Ji g v) (Ji i q)))) λx=>?_;rw[Jd,p,t,Jd,Jd,Yc,Jd,Jd,Jd,Yc,Jd,Jd];grind
 . refine Ik tm tq ?_ ?_
   . obtain⟨r,j⟩:=c;obtain⟨s,hs⟩:=f;exact⟨Ji r s,λx=>by rw[Jd,Jd,Jd,j,hs];grind⟩
   . obtain⟨m,n,e⟩:=w;obtain⟨r,j⟩:=k;obtain⟨s,hs⟩:=o;refine⟨XB (Ji m s) (Ji n r),λx=>?_⟩;grind[Jd,Yc]
theorem qy(h:PtsOk L){q:List Rat}(tq:Jc q=q):nA (Js (Ej L) q)=Iu L λw=>nA (Js w q):=by
 induction L with
 |nil=>rw[Ej,RZ DK tq (Mv q)];exact Kz.1
 |cons s L e=>
  obtain⟨a,c,_,_⟩:=h.all s (Ao ..);have b:DR s.1 (Ej L):=(Ob L s.1 λt d=>((List.pairwise_cons.1 h.cop).1 t d).symm).symm;have w0:=(h.tail.sqf).2;have tw:=K3 L;rw[Ej,qx a c tw w0 tq b];rw[Zi (JE _ _) (Yd a tq (Or.inl c)) (JE _ _) (Yd tw tq (Or.inl w0)) ((b.of_dv (J6 a tq).1).of_dv2 (J6 tw tq).1),e h.tail];simp[Iu]
theorem q6{p r q:List Rat}(tp:Jc p=p)(p0:p≠[])(tr:Jc r=r)(r0:r≠[])(tq:Jc q=q)(q0:q≠[])(h:DL p=DL r):DL (Js p q)=DL (Js r q):=by
 have e:∀ {p r:List Rat},Jc p=p->p≠[]->Jc r=r->r≠[]->DL p=DL r->Dv (DL (Js p q)) (DL (Js r q)):=fun {p r} tp p0 tr r0 h=>by
  obtain⟨a,b,c,_,_,_,g,i,_,j⟩:=Re tp p0 tq q0;obtain⟨a',d,c',_,_,s,f1,f2,_,k⟩:=Re tr r0 tq q0;rw[j,k];obtain⟨m,n,t⟩:=(s.of_dv ((Dv.refl d).mul' a'):DR d c');have d1:Dv a (Ji a' d):=by rw[<-f1,<-h,g];exact(Dv.refl a).mul b
  have f:Dv a (Ji a' c'):=by rw[<-f2,i];exact(Dv.refl a).mul c
  refine d1.comb f m n λx=>?_;grind[Jd]
 have l:=Yd tp tq (Or.inl p0);have o:=Yd tr tq (Or.inl r0);have y1:=YN (JE p q) l;have y2:=YN (JE r q) o;exact Dv.eq y1.tw y2.tw y1.mw y2.mw (e tp p0 tr r0 h) (e tr r0 tp p0 h.symm)
theorem q7(h:PtsOk L){p q:List Rat}(tp:Jc p=p)(p0:p≠[])(hp:∀x,ev (Jr p) x=Dp L x)(tq:Jc q=q)(q0:q≠[]):nA (Js p q)=Iu L λw=>nA (Js w q):=by
 have e:=q6 tp p0 (K3 L) h.sqf.2 tq q0 (Zl h tp p0 hp).2;grind[qy,Zj,JE,Yd,K3]
structure SdOk(S:Rat->Int):Prop where
 three:∀x,S x=-1\/S x=0\/S x=1
 mono:∀x y,x<y->S x<=0->S y=-1
def EQ(S T:Rat->Int):Prop:=∃x,S x<=0/\0<=T x/\S x≠T x
def EQ.irr{S:Rat->Int}:¬EQ S S:=λ⟨_,_,_,h⟩=>h rfl
def EQ.trans{S U:Rat->Int}(e:SdOk S)(hT:SdOk T)(h:EQ S T)(d:EQ T U):EQ S U:=by
 obtain⟨x,a,f,g⟩:=h;obtain⟨y,c,b,i⟩:=d;rcases JV x y with r|r
 . rcases Rat.le_iff_lt_or_eq.1 r with r|r
   . have:=e.mono x y r a;exact⟨y,O,b,O⟩
   . subst r;exact⟨x,a,b,O⟩
 . rcases Rat.le_iff_lt_or_eq.1 r with r|r
   . have:=hT.mono y x r c;omega
   . subst r;exact⟨y,a,b,O⟩
def EQ.asymm{S:Rat->Int}(b:SdOk S)(hT:SdOk T)(h:EQ S T):¬EQ T S:=λa=>EQ.irr (h.trans b hT a)
def Irr.sd{w:List Rat}{a b:Rat}(h:Irr w a b):SdOk (Dj w a b) where
 three x:=by rcases h.sid_ne x with k|k<;>omega
 mono x y hxy hx:=(h.sid_mono (Rat.le_of_lt hxy)).2 (by rcases h.sid_ne x with k|k<;>omega)
def D9(r x:Rat):Int:=if r<x then -1 else if x<r then 1 else 0
theorem Zm(r:Rat):SdOk (D9 r) where
 three x:=by grind[D9]
 mono x y hxy hx:=by
  grind[D9]
def Lt.slt{w v:List Rat}{a b c d:Rat}(h:Lt w a b v c d):EQ (Dj w a b) (Dj v c d):=by
 obtain⟨x,e,f⟩:=h;exact⟨x,O,O,O⟩
def Irr.differ{w v:List Rat}{a b c d:Rat}(h:Irr w a b)(k:Irr v c d)(m:DR w v):¬ ∀x,Dj w a b x=Dj v c d x:=λe=>by
 have g:Dj w a b c=1:=by rw[e];exact k.low Rat.le_refl
 have l:Dj w a b d=-1:=by rw[e];exact k.high Rat.le_refl
 refine h.cop m ?_;rcases h.sg3 v with s|s|s
 . exact s
 . exfalso
   obtain⟨p1,n,_,_⟩:=ord_lt h k g l;have f:=k.nz d (Rat.le_of_lt k.ab) Rat.le_refl;rcases YO f with q|q
   . obtain⟨x,i,j⟩:=n s q;rw[e]at i;omega
   . obtain⟨x,i,j⟩:=p1 s q;rw[e]at j;omega
 . exfalso
   obtain⟨_,_,o,p⟩:=ord_lt h k g l;have f:=k.nz d (Rat.le_of_lt k.ab) Rat.le_refl;rcases YO f with q|q
   . obtain⟨x,i,j⟩:=o s q;rw[e]at j;omega
   . obtain⟨x,i,j⟩:=p s q;rw[e]at i;omega
section
variable {w g q p:List Rat} {a b r:Rat}
theorem Spn.factor_q(h:Spn w a b)(l:a<r)(m:r<=b)(e:ev w r=0)(tg:Jc g=g)(g0:g≠[])(f:Dv g w):(ev g r=0/\cw g a=cw g b+1)\/(ev g r≠0/\cw g a=cw g b):=by
 have d:=(JI tg g0 f).2;have i:Jc (Jn w g)=Jn w g:=YE _ _;have ew:w=Ji g (Jn w g):=YG h.tw (Jq _ _) λx=>by rw[Jd];exact d x
 have u0:Jn w g≠[]:=λe=>h.w0 (by rw[ew,e,YS]);have sw:DY (Ji g (Jn w g)):=by rw[<-ew];exact h.sq
 have sg:DY g:=h.sq.of_dv h.tw f;have j:DY (Jn w g):=h.sq.of_dv h.tw ⟨g,λx=>by rw[d x,AU]⟩;have c:=Rat.le_of_lt h.ab;have k:=Rt tg g0 i u0 sg j sw.parts c;rw[<-ew]at k;have o:=JF tg g0 c;have p:=JF i u0 c;have n:=h.one;grind[It]
theorem Spn.gcd_q(h:Spn w a b)(f:a<r)(g:r<=b)(e:ev w r=0)(tq:Jc q=q):(ev q r=0/\cw (Js w q) a=cw (Js w q) b+1)\/(ev q r≠0/\cw (Js w q) a=cw (Js w q) b):=by
 obtain⟨d1,d,s,t,m⟩:=J6 h.tw tq;have n:ev (Js w q) r=0↔ev q r=0:=by
  constructor
  . intro k;obtain⟨c,i⟩:=d;rw[i,k,AY]
  . intro k;grind
 rcases h.factor_q f g e (JE w q) (Yd h.tw tq (Or.inl h.w0)) d1 with⟨j,l⟩|⟨j,l⟩
 . grind
 grind
theorem Oc{c:List Rat}(h:DR w c)(e:ev w r=0):ev c r≠0:=λk=>by
 obtain⟨u,v,a⟩:=h;grind
theorem q8(sw:DY w)(e:ev w r=0){c:List Rat}{i:Nat}(b:DR w c)(hp:∀x,ev p x=ev w x*(ev w x^i*ev c x))(tp:Jc p=p):ev (Jb p) r=0↔1<=i:=by
 obtain⟨s,hs⟩:∃s:List Rat,∀x,ev s x=ev w x^i*ev c x:=by
  clear hp tp b;induction i with
  |zero=>exact⟨c,λx=>by rw[Rat.pow_zero,Cq]⟩
  |succ i g=>
   obtain⟨r,f⟩:=g;exact⟨Ji w r,λx=>by rw[Jd,f,Rat.pow_succ];grind⟩
 have d:p=Ji w s:=YG tp (Jq _ _) λx=>by rw[Jd,hs,hp]
 have nw:=Oc sw e;rw[d,Yh,e,AY,Rat.add_zero,hs,e];constructor
 . intro k;rcases AN i with a|a
   . exfalso
     rw[a,Rat.pow_zero,Cq]at k;exact Y7 nw (Oc b e) k
   . exact a
 . intro k;obtain⟨j,rfl⟩:∃j,i=j+1:=⟨i-1,O⟩;grind
end
end
section
variable{K:Nat}
def rA{X:Nat}{n d:Int}(hn:Sm X n)(g:Sm X d):∀(zs:List Int),(∀z∈zs,Sm K z)->Sm (K+zs.length*(X+2)) (hZ n d zs):=by
 intro zs;induction zs with
 |nil=>intro _;exact Sm.zero _
 |cons c zs j=>
  intro h;have b:=(h c Ao).mul (g.powZ zs.length);have e:=hn.mul (j λz i=>h z (AB _ i));have k:zs.length*(X+2)=zs.length*X+zs.length*2:=CL _ _ _;have a:(zs.length+1)*(X+2)=zs.length*(X+2)+(X+2):=Nat.succ_mul _ _;rw[hZ,Ah,a];have f:=(b.mono (show K+(zs.length*X+1)<=K+zs.length*(X+2)+X+1 by omega)).add (e.mono (show X+(K+zs.length*(X+2))<=K+zs.length*(X+2)+X+1 by omega));exact f.mono O
theorem rB(n d:Int)(zs:List Int){k:Nat}(hk:k<zs.length):hZ n d (zs.drop (k+1))*n+zs[k]*d^(zs.length-(k+1))=hZ n d (zs.drop k):=by
 rw[AQ hk,hZ,Cb];grind
theorem rC(x:Rat)(zs:List Int):XO (hZ x.num (x.den:Int) zs) 0=DW (ev (zs.map λz:Int=>(z:Rat)) x):=by
 by_cases e:zs=[]
 . rw[e];show XO 0 0=DW 0;decide
 . have h:=Rq x zs e;have d:(0:Rat)<((x.den:Int):Rat)^(zs.length-1):=Rat.pow_pos (by have:=x.den_pos;exact_mod_cast this);obtain⟨D,hD⟩:=ex (((x.den:Int):Rat)^(zs.length-1));obtain⟨E,hE⟩:=ex (ev (zs.map λz:Int=>(z:Rat)) x);obtain⟨a,hZ⟩:=ex (hZ x.num (x.den:Int) zs);rw[hD]at h d;rw[hE]at h ⊢;rw[hZ]at h ⊢;unfold XO;rcases YA E with⟨c,b⟩|⟨c,b⟩|⟨c,b⟩
   . have:=Rat.mul_pos d (show 0 < -E by grind)
     have:(a:Rat)<0:=by rw[<-h];grind
     rw[BF (by exact_mod_cast this),b]
   . have:(a:Rat)=0:=by rw[<-h,c];grind
     have:a=0:=by exact_mod_cast this
     rw[this,b];rfl
   . have:=Rat.mul_pos d c
     have:(0:Rat)<(a:Rat):=by rw[<-h];exact this
     have:0<a:=by exact_mod_cast this
     omega
def Wh.zs{p:List Rat}(h:Wh K p):∃zs:List Int,p=zs.map (λz:Int=>(z:Rat))/\∀z∈zs,Sm K z:=by
 obtain⟨zs,e⟩:=h.ints;refine⟨zs,e,λz c=>?_⟩;obtain⟨i,hi,rfl⟩:=CV.1 c;obtain⟨z,b,a⟩:=h i;rw[e,cf]at a
 have:((zs[i]:Int):Rat)=(z:Rat):=by simpa[List.getD,hi]using a
 have:zs[i]=z:=by exact_mod_cast this
 rw[this];exact b
section
variable {w v q:List Rat} {a b c d x:Rat}
variable{k:Rat}
theorem Nr.scl{P:Rat->Rat->Prop}(hk:k≠0):Nr (DN k w) a b P↔Nr w a b P:=by
 have e:∀x z,ev (DN k w) x*ev (DN k w) z<0↔ev w x*ev w z<0:=λx z=>by
  rw[Jo,Jo];have l:ev w x*k*(ev w z*k)=(k*k)*(ev w x*ev w z):=DH
  have hp:0<k*k:=by
   rcases YO hk with h|h
   . have:=Rat.mul_pos (a:=-k) (b:=-k) DH DH;grind
   . exact Rat.mul_pos h h
  rw[l];constructor
  . intro h;exact KN hp h
  . intro h;have:=Rat.mul_pos hp (show 0 < -(ev w x*ev w z)by grind);grind
 constructor
 . rintro⟨d,d0,h⟩;exact⟨d,d0,λx z c f g i j=>h x z c f g i ((e x z).2 j)⟩
 . rintro⟨d,d0,h⟩;exact⟨d,d0,λx z c f g i j=>h x z c f g i ((e x z).1 j)⟩
theorem DY.scl(hk:k≠0)(h:DY w):DY (DN k w):=by
 obtain⟨u,v,a⟩:=h;refine⟨DN (1/k) u,DN (1/k) v,λx=>?_⟩;grind[W7,Jo]
def Irr.scl{k:Rat}(h:Irr w a b)(hk:k≠0):Irr (DN k w) a b/\∀q,De (DN k w) a b q=De w a b q:=by
 have ts:Jc (DN k w)=DN k w:=JH _ _;have f:DN k w≠[]:=Ho hk h.tw h.w0;have l:=OW ts f h.tw h.w0 (Rh hk h.tw) (Rat.le_of_lt h.ab);have i:Irr (DN k w) a b:=⟨ts,f,h.sq.scl hk,h.ab,λx i j=>by
  rw[Jo];intro e;rcases AM.1 e with e|e
  . exact h.nz x i j e
  . exact hk e,by have:=h.one;unfold cw at *;omega⟩
 refine⟨i,λq=>?_⟩;rcases h.val q with⟨e,d⟩|⟨e,c,c0,d⟩|⟨e,c,c0,d⟩
 . rw[e];exact i.zero.2 λe g=>(Nr.scl hk).2 (d e g)
 . rw[e];exact i.pos.2 ⟨c,c0,(Nr.scl hk).2 d⟩
 . rw[e];exact i.minus.2 ⟨c,c0,(Nr.scl hk).2 d⟩
theorem Irr.chain(h:Irr w a b):(DM (JD (Xb w (Ji (Jb w) q)) a):Int)-(DM (JD (Xb w (Ji (Jb w) q)) b):Int)=De w a b q:=by
 obtain⟨c,c0,g⟩:=Xf h.tw;obtain⟨k,m,i⟩:=Xf (Jq (Jb w) q);have c1:c≠0:=λe=>by grind
 obtain⟨d,j⟩:=h.scl c1;have e:DN k (Ji (Jb w) q)=Ji (Jb (DN c w)) (DN (k/c) q):=YG (JH _ _) (Jq _ _) λx=>by
  grind[W7,Jo,Jd]
 have l:De (DN c w) a b (DN (k/c) q)=De (DN c w) a b q:=by
  have f:De (DN c w) a b (DN (k/c) q)=De (DN c w) a b (Ji [k/c] q):=d.ext λx=>by rw[Jo,Jd,Jm,AU]
  rw[f,d.mul,(d.const (k/c)).1 (Yl m c0),Int.one_mul]
 rw[<-j q,<-l];unfold De D8 Xb;rw[g,i,e]
end
structure RtQ where
 lo:Rat
 hi:Rat
 w:List Rat
 sg:Int
 tm:Nat
def RtQ.cut(r:RtQ)(x:Rat):RtQ:=if r.lo<x/\x<r.hi then(if DW (ev r.w x)=0\/DW (ev r.w x)=r.sg then⟨r.lo,x,r.w,DW (ev r.w x),r.tm⟩else⟨x,r.hi,r.w,r.sg,r.tm⟩)else r
def RtQ.mid(r:RtQ):Rat:=Da r.lo r.hi
def RtQ.hv(r:RtQ):RtQ:=r.cut r.mid
def RtQ.side(r:RtQ)(x:Rat):Int:=Xe (r.cut x).mid x
def FQ(row:List (List Rat))(a b:Rat):Int:=(DM (JD row a):Int)-(DM (JD row b):Int)
def RtQ.sign(r:RtQ)(q:List Rat):Int:=if r.lo<r.hi then FQ (Xb r.w (Ji (Jb r.w) q)) r.lo r.hi else DW (ev q r.lo)
def RtQ.ord(r s:RtQ):Int:=if s.lo<s.hi then(if r.side s.lo<=0 then -1 else if 0<=r.side s.hi then 1 else r.sign s.w*s.sg)else r.side s.lo
structure RtQ.Ok(r:RtQ):Prop where
 tw:Jc r.w=r.w
 w0:r.w≠[]
 sq:DY r.w
 sgh:r.sg=DW (ev r.w r.hi)
 root:(r.lo=r.hi/\ev r.w r.lo=0)\/Irr r.w r.lo r.hi
def RtQ.S(r:RtQ)(x:Rat):Int:=if r.lo<r.hi then Dj r.w r.lo r.hi x else D9 r.lo x
theorem X7(r x:Rat):Xe r x=D9 r x:=by
 unfold D9;have a:Xe r x=-1\/Xe r x=0\/Xe r x=1:=by
  unfold Xe XO;split
  . exact Or.inl rfl
  . omega
 have b:=Id (p:=r) (q:=x);grind[KD]
section
variable {r s t:RtQ} {x:Rat} {q:List Rat}
theorem RtQ.Ok.irr(h:r.Ok)(hl:r.lo<r.hi):Irr r.w r.lo r.hi:=by
 rcases h.root with⟨e,_⟩|k
 . grind
 . exact k
def RtQ.Ok.rat(h:r.Ok)(hl:¬r.lo<r.hi):r.lo=r.hi/\ev r.w r.lo=0:=by
 rcases h.root with k|k
 . exact k
 . exact absurd k.ab hl
theorem RtQ.Ok.sd(h:r.Ok):SdOk r.S:=by
 unfold RtQ.S;by_cases hl:r.lo<r.hi
 . have:(λx=>if r.lo<r.hi then Dj r.w r.lo r.hi x else D9 r.lo x)=Dj r.w r.lo r.hi:=funext λx=>BF hl
   show SdOk λx=>if r.lo<r.hi then Dj r.w r.lo r.hi x else D9 r.lo x;rw[this];exact(h.irr hl).sd
 . have:(λx=>if r.lo<r.hi then Dj r.w r.lo r.hi x else D9 r.lo x)=D9 r.lo:=funext λx=>BE hl
   grind[Zm]
theorem RtQ.Ok.sideS(h:r.Ok)(x:Rat):r.side x=r.S x:=by
 unfold RtQ.side RtQ.S RtQ.cut;by_cases hl:r.lo<r.hi
 . have k:=h.irr hl;rw[BF hl];have o:=Gh hl;by_cases c:r.lo<x/\x<r.hi
   . rw[BF c];have nz:=k.nz x (Rat.le_of_lt c.1) (Rat.le_of_lt c.2);have nb:=k.nz r.hi (Rat.le_of_lt hl) Rat.le_refl;have m:=k.mid (Rat.le_of_lt c.1) (Rat.le_of_lt c.2);rw[h.sgh];by_cases hs:DW (ev r.w x)=0\/DW (ev r.w x)=DW (ev r.w r.hi)
     . rw[BF hs];have hp:0<ev r.w x*ev r.w r.hi:=by
        rcases hs with e|e
        . exact absurd (XG.1 e) nz
        . rcases YA (ev r.w x)with⟨d,j⟩|⟨d,_⟩|⟨d,j⟩
          . rw[j]at e;have:=VX.1 e.symm;have:=Rat.mul_pos (a:=-(ev r.w x)) (b:=-(ev r.w r.hi)) DH DH;grind
          . exact absurd d nz
          . rw[j]at e;exact Rat.mul_pos d (VW.1 e.symm)
       rw[m.2 hp];have g:=(Gh c.1).2.1;show Xe (Da r.lo x) x=-1;rw[X7];unfold D9;rw[BF g]
     . rw[BE hs];have hn:ev r.w x*ev r.w r.hi<0:=by
        rcases YA (ev r.w x)with⟨d,j⟩|⟨d,_⟩|⟨d,j⟩
        . rcases YA (ev r.w r.hi)with⟨f,l⟩|⟨f,_⟩|⟨f,l⟩
          . omega
          . exact absurd f nb
          . have:=Rat.mul_pos (a:=-(ev r.w x)) (b:=ev r.w r.hi) DH f;grind
        . exact absurd d nz
        . rcases YA (ev r.w r.hi)with⟨f,l⟩|⟨f,_⟩|⟨f,l⟩
          . have:=Rat.mul_pos (a:=ev r.w x) (b:=-(ev r.w r.hi)) d DH;grind
          . exact absurd f nb
          omega
       rw[m.1 hn];have g:=(Gh c.2).1;show Xe (Da x r.hi) x=1;exact KD.2 g
   . rw[BE c];show Xe (Da r.lo r.hi) x=_;by_cases n:x<=r.lo
     . rw[k.low n];grind[KD]
     . have g:r.hi<=x:=Rat.not_lt.1 λi=>c ⟨Rat.not_le.1 n,i⟩;rw[k.high g,X7];unfold D9;grind
 . have k:=h.rat hl;rw[BE hl,BE λi=>by grind];show Xe (Da r.lo r.hi) x=_;rw[<-k.1,show Da r.lo r.lo=r.lo by unfold Da;grind,X7]
def RtQ.Ok.signI(h:r.Ok)(hl:r.lo<r.hi):r.sign q=De r.w r.lo r.hi q:=by
 unfold RtQ.sign FQ;rw[BF hl];exact(h.irr hl).chain
theorem RtQ.signR(hl:¬r.lo<r.hi):r.sign q=DW (ev q r.lo):=BE hl
def RtQ.SI(hl:r.lo<r.hi):r.S=Dj r.w r.lo r.hi:=funext λ_=>BF hl
def RtQ.SR(hl:¬r.lo<r.hi):r.S=D9 r.lo:=funext λ_=>BE hl
theorem RtQ.Ok.order(h:r.Ok)(k:s.Ok):(r.ord s=-1/\EQ r.S s.S)\/(r.ord s=1/\EQ s.S r.S)\/(r.ord s=0/\∀x,r.S x=s.S x):=by
 unfold RtQ.ord;by_cases hs:s.lo<s.hi
 . have m:=k.irr hs;rw[BF hs,h.sideS,h.sideS,RtQ.SI hs];have F:=m.low (x:=s.lo) Rat.le_refl;have G:=m.high (x:=s.hi) Rat.le_refl;by_cases f:r.S s.lo<=0
   . rw[BF f];exact Or.inl ⟨rfl,s.lo,f,O,O⟩
   . rw[BE f];by_cases d:0<=r.S s.hi
     . rw[BF d];exact Or.inr (Or.inl ⟨rfl,s.hi,O,d,O⟩)
     . rw[BE d];have nb:=m.nz s.hi (Rat.le_of_lt hs) Rat.le_refl;have t:=h.sd.three s.lo;have u:=h.sd.three s.hi;have sg3:(s.sg=-1/\ev s.w s.hi<0)\/(s.sg=1/\0<ev s.w s.hi):=by
        rw[k.sgh];rcases YA (ev s.w s.hi)with⟨c,l⟩|⟨c,_⟩|⟨c,l⟩
        . exact Or.inl ⟨l,c⟩
        . exact absurd c nb
        . exact Or.inr ⟨l,c⟩
       by_cases n:r.lo<r.hi
       . have w:=h.irr n;rw[h.signI n];rw[RtQ.SI n]at f d t u ⊢;have p:Dj r.w r.lo r.hi s.lo=1:=O
         have v:Dj r.w r.lo r.hi s.hi=-1:=O
         obtain⟨z,A,B,D⟩:=ord_lt w m p v;rcases w.sg3 s.w with e|e|e
         . grind[qU]
         . rcases sg3 with⟨g,j⟩|⟨g,j⟩
           . exact Or.inl ⟨by rw[e,g];rfl,(A e j).slt⟩
           . exact Or.inr (Or.inl ⟨by rw[e,g];rfl,(z e j).slt⟩)
         . rcases sg3 with⟨g,j⟩|⟨g,j⟩
           . exact Or.inr (Or.inl ⟨by rw[e,g];rfl,(B e j).slt⟩)
           . exact Or.inl ⟨by rw[e,g];rfl,(D e j).slt⟩
       . rw[RtQ.signR n];rw[RtQ.SR n]at f d t u ⊢;have p:D9 r.lo s.lo=1:=O
         have v:D9 r.lo s.hi=-1:=O
         have c:s.lo<r.lo:=KD.1 (by rw[X7];exact p);have l:r.lo<s.hi:=Id.1 (by rw[X7];omega);have nx:=m.nz r.lo (Rat.le_of_lt c) (Rat.le_of_lt l);have o:=m.mid (Rat.le_of_lt c) (Rat.le_of_lt l);have y:Dj s.w s.lo s.hi r.lo=-1->EQ (Dj s.w s.lo s.hi) (D9 r.lo):=λe=>⟨r.lo,O,by unfold D9;grind,by unfold D9;grind⟩;have q:Dj s.w s.lo s.hi r.lo=1->EQ (D9 r.lo) (Dj s.w s.lo s.hi):=λe=>⟨r.lo,by unfold D9;grind,O,by unfold D9;grind⟩;rcases YA (ev s.w r.lo)with⟨c1,c2⟩|⟨c1,_⟩|⟨c1,c2⟩
         . rcases sg3 with⟨g,j⟩|⟨g,j⟩
           . refine Or.inr (Or.inl ⟨by rw[c2,g];rfl,y (o.2 ?_)⟩);have:=Rat.mul_pos (a:=-(ev s.w r.lo)) (b:=-(ev s.w s.hi)) DH DH;grind
           . refine Or.inl ⟨by rw[c2,g];rfl,q (o.1 ?_)⟩;have:=Rat.mul_pos (a:=-(ev s.w r.lo)) (b:=ev s.w s.hi) DH j;grind
         . exact absurd c1 nx
         . rcases sg3 with⟨g,j⟩|⟨g,j⟩
           . refine Or.inl ⟨by rw[c2,g];rfl,q (o.1 ?_)⟩;have:=Rat.mul_pos (a:=ev s.w r.lo) (b:=-(ev s.w s.hi)) c1 DH;grind
           grind[Rat.mul_pos]
 . rw[BE hs,h.sideS,RtQ.SR hs];have H:D9 s.lo s.lo=0:=by unfold D9;rw[BE Rat.lt_irrefl,BE Rat.lt_irrefl]
   rcases h.sd.three s.lo with e|e|e
   . exact Or.inl ⟨e,s.lo,O,O,O⟩
   . refine Or.inr (Or.inr ⟨e,λx=>?_⟩);rcases(show x<s.lo\/x=s.lo\/s.lo<x by grind)with j|j|j
     . have f:=h.sd.three x;have d:¬r.S x<=0:=λi=>by have:=h.sd.mono x s.lo j i;omega
       grind[D9]
     . rw[j];omega
     . have d:=h.sd.mono s.lo x j O;grind[D9]
   . exact Or.inr (Or.inl ⟨e,s.lo,O,O,O⟩)
theorem RtQ.Ok.ord_lt(h:r.Ok)(k:s.Ok):r.ord s<0↔EQ r.S s.S:=by
 rcases h.order k with⟨e,i⟩|⟨e,i⟩|⟨e,i⟩
 . grind
 . exact⟨λ_=>by omega,λj=>absurd j (EQ.asymm k.sd h.sd i)⟩
 . refine⟨λ_=>by omega,λj=>?_⟩;rw[show r.S=s.S from funext i]at j;exact absurd j EQ.irr
def RtQ.Ok.ord_self(h:r.Ok):r.ord r=0:=by
 rcases h.order h with⟨_,j⟩|⟨_,j⟩|⟨e,_⟩
 . exact absurd j EQ.irr
 . exact absurd j EQ.irr
 . exact e
end
end
namespace M3
attribute [local go_sem] Oper.semAt_some
def rD:Sq 1:=Sq.of (show DQ 1 1 from⟨Sm.one 1 O,Sm.one 1 O⟩) O
theorem rE(L:C)(q:Rat)(w:E)(D:Jf w L q)(K:Sq q):
 Calls Tryz.prog 243 #[L] w λe w'=>∃u,e=.returned u/\Jf w' u (Yn q)/\Bl w w':=by
 obtain⟨bf,U,ay,ai,bi,ae,ap,am,rfl⟩:=Jf.form D;obtain⟨W0,N,g⟩:=LL 41 (.rat q) D 41 (.rat 0) (Xx _);have H:=Z K;clear D K;go_enter Tryz.func243,Tryz.ntmps243
 go_upto_region 1 with fail
 rw[N.o];obtain⟨s1,S,l1,c1,t1,X,k1,d1,v,r1,Q,R⟩:=g.o.rat (i:=0) rfl;obtain⟨s,j,m,r⟩:=v.cq;obtain⟨s2,T,l2,c2,t2,b2,k2,d2,a,r2,i2,j2⟩:=g.o.rat (i:=1) rfl;obtain⟨b,c,f,d⟩:=a.cq;obtain⟨l,k,p,o⟩:=a.fq;obtain⟨x,F,M⟩:=DX (VY _ q W0 r1 H.o) (λ(V:E) (h:Bl W0 V)=>KA _ _ 0 q V (Xx _) (r1.below h) FO H.o) r1;obtain⟨n,hn⟩:=ex (DW q);rw[hn]at x;have G:=Z hn;clear hn r1 Q R;by_cases I:n<0
 . have y:=Z (show 0-q=Yn q by
    have B:=(OK q).1 (by rw[N3,G.o];exact I);unfold Yn;rw[BF B];grind)
   rw[y.o]at F;go_wp2_with(first
    |(go_at_call 162;refine x.o.mono ?_;rintro e w1 ⟨rfl,hq⟩;clear s j m r;obtain⟨s,j,m,r⟩:=(v.below hq).cq;clear b c f d;obtain⟨b,c,f,d⟩:=(a.below hq).cq;clear l k p o;obtain⟨l,k,p,o⟩:=(a.below hq).fq)
    |(go_at_call 41;refine(F.o _ hq).mono ?_;rintro e w2 ⟨u2,rfl,t,P⟩;obtain⟨bg,W,az,aj,bj,ah,aq,an,rfl⟩:=Jf.form t;have hq:=Bt hq P;clear s j m r;obtain⟨s,j,m,r⟩:=(v.below hq).cq;clear b c f d;obtain⟨b,c,f,d⟩:=(a.below hq).cq;clear l k p o;obtain⟨l,k,p,o⟩:=(a.below hq).fq))
   have A:=Bt g.o.2.2 hq;have z:=g.o.ge 1 rfl;exact BA (by simp[results,Tryz.results243,go_sem,b,c,f,d]) rfl ⟨_,rfl,t.put4 (a.below hq) rfl rfl rfl rfl _ _ _ _,Jv A z _ _ _ _⟩
 . have y:=Z (show Yn q=q by
    have B:¬q<0:=λh=>I (by rw[<-G.o,<-N3];exact(OK q).2 h);unfold Yn;rw[BE B])
   go_wp2_with(go_at_call 162;refine x.o.mono ?_;rintro e w1 ⟨rfl,hq⟩;clear s j m r;obtain⟨s,j,m,r⟩:=(v.below hq).cq;clear b c f d;obtain⟨b,c,f,d⟩:=(a.below hq).cq;clear l k p o;obtain⟨l,k,p,o⟩:=(a.below hq).fq)
   have t:=M.o.below hq;rw[<-y.o]at t;have A:=Bt g.o.2.2 hq;have z:=g.o.ge 1 rfl;exact BA (by simp[results,Tryz.results243,go_sem,b,c,f,d]) rfl ⟨_,rfl,t.put4 (a.below hq) rfl rfl rfl rfl _ _ _ _,Jv A z _ _ _ _⟩
def rF(X vb:C)(p q:Rat)(w:E)(I:Jf w X p)(K:Jf w vb q)(T:Sq p)(U:Sq q):
 Calls Tryz.prog 242 #[X,vb] w λe w'=>∃u,e=.returned u/\Jf w' u (Ir p q)/\Bl w w':=by
 obtain⟨s,a,l,c,t,b,k,d,rfl⟩:=Jf.form I;obtain⟨s',a',l',c',t',b',k',d',rfl⟩:=Jf.form K;obtain⟨W0,ae,g⟩:=IF 41 (.rat p) I 41 (.rat q) K 41 (.rat 0) (Xx _);have Qc:=Z T;have Qb:=Z U;clear I K T U;go_enter Tryz.func242,Tryz.ntmps242
 go_upto_region 1 with fail
 rw[ae.o];obtain⟨s1,a1,l1,c1,t1,b1,k1,d1,L,r1,_,_⟩:=g.o.rat (i:=0) rfl;obtain⟨s2,a2,l2,c2,t2,b2,k2,d2,M,N,_,_⟩:=g.o.rat (i:=1) rfl;obtain⟨s3,a3,l3,c3,t3,b3,k3,d3,W,_,_,_⟩:=g.o.rat (i:=2) rfl;have D:=Z (XF _ _ p q W0 r1 N Qc.o Qb.o);obtain⟨n,hn⟩:=ex (Xe p q);rw[hn]at D;obtain⟨Q,R,P⟩:=DX hn (And.intro r1 N) λ(V:E) (h:Bl W0 V)=>And.intro (L.below h) (And.intro (M.below h) (W.below h));obtain⟨y,z,A,B⟩:=L.cq;obtain⟨j,m,o,r⟩:=M.cq;clear hn r1 N L M W;by_cases S:n<0
 . have F:=Z (show Ir p q=q from BF (Id.1 (by rw[Q.o];exact S)));go_upto_region 2 with(go_at_call 32;refine D.o.mono ?_;rintro e w1 ⟨rfl,hq⟩;clear y z A B j m o r;obtain⟨_,x,f⟩:=P.o _ hq;obtain⟨y,z,A,B⟩:=x.cq;obtain⟨j,m,o,r⟩:=f.cq;obtain⟨f5,f6,f7,f8⟩:=f.fq;have G:=Z f;clear x f)
   go_wp2_with fail
   have v:=R.o.2.below hq;rw[<-F.o]at v;have H:=Bt g.o.2.2 hq;exact BA (by simp[results,Tryz.results242,go_sem,j,m,o,r]) rfl ⟨_,rfl,v.put4 G.o rfl rfl rfl rfl _ _ _ _,Jv H (g.o.ge 2 rfl) _ _ _ _⟩
 . have F:=Z (show Ir p q=p from BE λh=>S (by rw[<-Q.o];exact Id.2 h));go_upto_region 3 with(go_at_call 32;refine D.o.mono ?_;rintro e w1 ⟨rfl,hq⟩;clear y z A B j m o r;obtain⟨x,_,f⟩:=P.o _ hq;obtain⟨y,z,A,B⟩:=x.cq;obtain⟨j,m,o,r⟩:=f.cq;obtain⟨f5,f6,f7,f8⟩:=f.fq;have G:=Z f;clear x f)
   go_wp2_with fail
   have v:=R.o.1.below hq;rw[<-F.o]at v;have H:=Bt g.o.2.2 hq;exact BA (by simp[results,Tryz.results242,go_sem,j,m,o,r]) rfl ⟨_,rfl,v.put4 G.o rfl rfl rfl rfl _ _ _ _,Jv H (g.o.ge 2 rfl) _ _ _ _⟩
end M3
def Yp(W:E)(v:C)(a b:Rat):Prop:=∃x0 x1 x2 x3 y0 y1 y2 y3,v=.agg #[x0,x1,x2,x3,y0,y1,y2,y3]/\Jf W (.agg #[x0,x1,x2,x3]) a/\Jf W (.agg #[y0,y1,y2,y3]) b
def JL(W:E)(v:C)(r:RtQ):Prop:=∃x0 x1 x2 x3 y0 y1 y2 y3 a c b,v=.agg #[x0,x1,x2,x3,y0,y1,y2,y3,.slice a c b,.int .i64 r.sg,.int .i64 (r.tm:Int)]/\Jf W (.agg #[x0,x1,x2,x3]) r.lo/\Jf W (.agg #[y0,y1,y2,y3]) r.hi/\Je W (.agg #[.slice a c b]) r.w
section
variable {V W:World} {v:Value} {a b:Rat} {r:RtQ}
def Yp.below(h:Yp V v a b)(c:Bl V W):Yp W v a b:=by
 obtain⟨x0,x1,x2,x3,y0,y1,y2,y3,e,d,f⟩:=h;exact⟨x0,x1,x2,x3,y0,y1,y2,y3,e,d.below c,f.below c⟩
def JL.below(h:JL V v r)(a:Bl V W):JL W v r:=by
 obtain⟨x0,x1,x2,x3,y0,y1,y2,y3,f,i,g,e,b,c,d⟩:=h;exact⟨x0,x1,x2,x3,y0,y1,y2,y3,f,i,g,e,b.below a,c.below a,d.below a⟩
structure Kp(V W:World):Prop where
 row:∀k v ds,Row k V v ds->Row k W v ds
 rowK:∀v qs,RowK true V v qs->RowK true W v qs
def Kp.rat(k:Kp V W){v:C}{q:Rat}(h:Jf V v q):Jf W v q:=ED.keep (r:=true) h k.row
def Kp.int(k:Kp V W){v:C}{z:Int}(h:Jj V v z):Jj W v z:=by
 obtain⟨a,l,c,e,b⟩:=h;exact⟨a,l,c,e,k.row _ _ _ b⟩
def Kp.poly(k:Kp V W){v:C}{p:List Rat}(h:Je V v p):Je W v p:=by
 obtain⟨u,e,h⟩:=h;exact⟨u,e,k.rowK _ _ h⟩
def Kp.span(k:Kp V W)(h:Yp V v a b):Yp W v a b:=by
 obtain⟨x0,x1,x2,x3,y0,y1,y2,y3,e,c,d⟩:=h;exact⟨x0,x1,x2,x3,y0,y1,y2,y3,e,k.rat c,k.rat d⟩
def Kp.root(k:Kp V W)(h:JL V v r):JL W v r:=by
 obtain⟨x0,x1,x2,x3,y0,y1,y2,y3,d,g,f,e,a,b,c⟩:=h;exact⟨x0,x1,x2,x3,y0,y1,y2,y3,d,g,f,e,k.rat a,k.rat b,k.poly c⟩
def Kp.trans{U:E}(h:Kp V W)(k:Kp W U):Kp V U:=⟨λa b c d=>k.row a b c (h.row a b c d),λa b c=>k.rowK a b (h.rowK a b c)⟩
def Kp.of_below(a:Bl V W):Kp V W:=⟨λ_ _ _ h=>Row.below h a,λ_ _ h=>RowK.below h a⟩
end
namespace M3
section
variable {V W:World} {B:Nat} {t:TypeId} {cs:Array Value}
variable{x0 x1 x2 x3 y0 y1 y2 y3:C}
def Bx.c(h:Bx V B t cs){i:Nat}{x:C}(e:cs[i]?=some x):V.cell? ⟨B,i,none⟩=some x:=by simp[World.cell?,show V.heap[B]?=_ from h,e]
def Bx.new(V:E)(t:TypeId)(cs:Array C):Bx (V.alloc (.cells cs t)) V.heap.size t cs:=BD V _
def Bx.alloc(h:Bx V B t cs)(o:Obj):Bx (V.alloc o) B t cs:=h.below (Ba V o)
def Bx.set(h:Bx V B t cs)(i:Nat)(x:C):Bx (V.setCell ⟨B,i,none⟩ x) B t (cs.setIfInBounds i x):=JY h x
def Bx.r4(h:Bx V B t #[x0,x1,x2,x3]):V.cell? ⟨B,0,none⟩=some x0/\V.cell? ⟨B,1,none⟩=some x1/\V.cell? ⟨B,2,none⟩=some x2/\V.cell? ⟨B,3,none⟩=some x3:=⟨h.c rfl,h.c rfl,h.c rfl,h.c rfl⟩
def Bx.s8(h:Bx V B t #[x0,x1,x2,x3,y0,y1,y2,y3]):V.cell? ⟨B,0,none⟩=some x0/\V.cell? ⟨B,1,none⟩=some x1/\V.cell? ⟨B,2,none⟩=some x2/\V.cell? ⟨B,3,none⟩=some x3/\V.cell? ⟨B,4,none⟩=some y0/\V.cell? ⟨B,5,none⟩=some y1/\V.cell? ⟨B,6,none⟩=some y2/\V.cell? ⟨B,7,none⟩=some y3:=⟨h.c rfl,h.c rfl,h.c rfl,h.c rfl,h.c rfl,h.c rfl,h.c rfl,h.c rfl⟩
def Bx.r11{p s u:C}(h:Bx V B t #[x0,x1,x2,x3,y0,y1,y2,y3,p,s,u]):(V.cell? ⟨B,0,none⟩=some x0/\V.cell? ⟨B,1,none⟩=some x1/\V.cell? ⟨B,2,none⟩=some x2/\V.cell? ⟨B,3,none⟩=some x3)/\(V.cell? ⟨B,4,none⟩=some y0/\V.cell? ⟨B,5,none⟩=some y1/\V.cell? ⟨B,6,none⟩=some y2/\V.cell? ⟨B,7,none⟩=some y3)/\V.cell? ⟨B,8,none⟩=some p/\V.cell? ⟨B,9,none⟩=some s/\V.cell? ⟨B,10,none⟩=some u:=⟨⟨h.c rfl,h.c rfl,h.c rfl,h.c rfl⟩,⟨h.c rfl,h.c rfl,h.c rfl,h.c rfl⟩,h.c rfl,h.c rfl,h.c rfl⟩
def KO(w:E)(c d:TypeId)(a b:Array C):∃W,(w.alloc (.cells a c)).alloc (.cells b d)=W/\Bx W w.heap.size c a/\Bx W (w.heap.size+1) d b/\Bl w W:=by
 have e:=Bx.new (w.alloc (.cells a c)) d b;simp only[Ax]at e;exact⟨_,rfl,(Bx.new w c a).alloc _,e,(Ba w _).alloc (by simp only[Ax];omega) _⟩
def Zn(w:E)(d e f:TypeId)(a b c:Array C):∃W,((w.alloc (.cells a d)).alloc (.cells b e)).alloc (.cells c f)=W/\Bx W w.heap.size d a/\Bx W (w.heap.size+1) e b/\Bx W (w.heap.size+1+1) f c/\Bl w W:=by
 have g:=Bx.new (w.alloc (.cells a d)) e b;have i:=Bx.new ((w.alloc (.cells a d)).alloc (.cells b e)) f c;simp only[Ax]at g i;exact⟨_,rfl,((Bx.new w d a).alloc _).alloc _,g.alloc _,i,((Ba w _).alloc (by simp only[Ax];omega) _).alloc (by simp only[Ax];omega) _⟩
end
end M3

