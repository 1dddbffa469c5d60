import Derived.Test.YteldjhhjnchdeaaGreatDoorW46
set_option maxRecDepth 100000
set_option maxHeartbeats 16000000
namespace Go.Proofs.YteldjhhjnchdeaaGreatDoor
section
variable{P R a b g p q:List Rat}{K M l n:Nat}{r:Nat->Int}{c:Rat}
theorem cL:∀D:Nat,1<D->∃l,1<l/\l∣D/\∀a:Nat,¬l∣a->Nat.gcd l a=1:=by
 intro D;induction D using Nat.strongRecOn with
 |ind D i=>
  intro hD;by_cases h:∀d,d∣D->d=1\/d=D
  . refine⟨D,hD,Nat.dvd_refl _,λa f=>?_⟩;rcases h _ (Fg D a)with e|e
    . exact e
    . exact absurd (e ▸ CU D a) f
  . obtain⟨d,g⟩:=Classical.not_forall.1 h;obtain⟨b,c⟩:=Classical.not_imp.1 g;have k:d≠1/\d≠D:=⟨λe=>c (Or.inl e),λe=>c (Or.inr e)⟩;have m:d<=D:=Nat.le_of_dvd Y b;have n:d≠0:=λe=>by subst e;have:=Nat.zero_dvd.1 b;omega
    obtain⟨l,l1,l2,j⟩:=i d Y Y;exact⟨l,l1,Nat.dvd_trans l2 b,j⟩
theorem NQ{P:Nat->Prop}(h:∃a,P a):∃a,P a/\∀i,i<a->¬P i:=by
 obtain⟨a,d⟩:=h;induction a using Nat.strongRecOn with
 |ind a f=>
  by_cases h:∃i,i<a/\P i
  . obtain⟨i,b,c⟩:=h;exact f i b c
  . exact⟨a,d,λi e hp=>h ⟨i,e,hp⟩⟩
theorem cM{l:Int}{f:Nat->Int}{a:Nat}:∀n,a<n->(∀i,i<n->i≠a->l∣f i)->l∣Yd n f->l∣f a:=by
 have g:∀n,(∀i,i<n->l∣f i)->l∣Yd n f:=λn=>by
  induction n with
  |zero=>exact λ_=>Int.dvd_zero _
  |succ n c=>exact λh=>by rw[Yd];exact Int.dvd_add (c λi d=>h i Y) (h n Y)
 intro n;induction n with
 |zero=>intro h;omega
 |succ n c=>
  intro m h hs;rw[Yd]at hs;by_cases e:a=n
  . subst e;have k:=g a λi d=>h i Y Y;have b:=Int.dvd_sub hs k;rwa[show Yd a f+f a-Yd a f=f a by omega]at b
  . refine c Y (λi d=>h i Y) ?_;have b:=Int.dvd_sub hs (h n Y λj=>e j.symm);rwa[show Yd n f+f n-f n=Yd n f by omega]at b
theorem cN(hl:∀a:Nat,¬l∣a->Nat.gcd l a=1){s:Nat->Int}(p:∀i,n<=i->r i=0)(h:∀k,(l:Int)∣Yd n λi=>if i<=k then r i*s (k-i)else 0)(o:∃a,¬(l:Int)∣r a)(hs:∃b,¬(l:Int)∣s b):False:=by
 obtain⟨a,e,g⟩:=NQ o;obtain⟨b,j,m⟩:=NQ hs;have f:a<n:=by
  by_cases c:a<n
  . exact c
  . exact absurd (by rw[p a Y];exact Int.dvd_zero _) e
 have c:=cM n f (λi q t=>by
  split
  . by_cases d:i<a
    . exact Int.dvd_trans (Classical.not_not.1 (g i d)) (Int.dvd_mul_right _ _)
    . exact Int.dvd_trans (Classical.not_not.1 (m (a+b-i) Y)) (Int.dvd_mul_left _ _)
  . exact Int.dvd_zero _) (h (a+b))
 rw[BJ Y,show a+b-a=b by omega,CX]at c;exact j (dvd_one c (by rw[AD];exact hl _ λd=>e (CJ.2 d)))
theorem cO{L G:Int}(M:∀i,((cf p i).den:Int)∣L)(N:∀u:Int,(∀i,((cf p i).den:Int)∣u)->L∣u)(I:∀i,G∣(cf p i).num)(K:∀v:Int,(∀i,v∣(cf p i).num)->v∣G)(H:G≠0)(Q:∀i,∃z:Int,cf p i*c=(z:Rat)):
 ∃t:Int,∀i,∃r:Int,cf p i*((L:Rat)/(G:Rat))=(r:Rat)/\cf p i*c=((r*t:Int):Rat):=by
 have y:(c.den:Int)≠0:=by have:=c.den_nz;omega
 have j:∀i,∃z:Int,cf p i*c=(z:Rat)/\(cf p i).num*c.num=z*((cf p i).den*c.den):=λi=>by
  obtain⟨z,b⟩:=Q i;refine⟨z,b,?_⟩;have B:c*(c.den:Rat)=(c.num:Rat):=GX c;have a:cf p i*((cf p i).den:Rat)=((cf p i).num:Rat):=GX _;have C:(((cf p i).num*c.num:Int):Rat)=((z*(((cf p i).den:Int)*(c.den:Int)):Int):Rat):=by
   rw[Ax,Ax,Ax,AM,AM,<-B,<-a,<-b];grind
  exact Rat.intCast_inj.1 C
 have l:L∣c.num:=N _ λi=>by
  obtain⟨z,_,e⟩:=j i;have g:((cf p i).den:Int)∣(cf p i).num*c.num:=⟨z*c.den,by rw[e,Int.mul_left_comm]⟩;rw[CX]at g;refine dvd_one g ?_;rw[AD,CZ];exact(cf p i).reduced
 have n:(c.den:Int)∣G:=K _ λi=>by
  obtain⟨z,_,e⟩:=j i;have g:(c.den:Int)∣(cf p i).num*c.num:=⟨z*(cf p i).den,by rw[e,<-Fp,CX]⟩;refine dvd_one g ?_;rw[AD,CZ];exact c.reduced
 obtain⟨u,l⟩:=l;obtain⟨v,n⟩:=n;refine⟨u*v,λi=>?_⟩;obtain⟨e,s⟩:=M i;obtain⟨m,w⟩:=I i;obtain⟨z,D,b⟩:=j i;have P:((cf p i).den:Int)≠0:=by have:=(cf p i).den_nz;omega
 have A:z=m*e*(u*v):=by
  have E:z*(((cf p i).den:Int)*c.den)=m*e*(u*v)*(((cf p i).den:Int)*c.den):=by
   rw[<-b,w,l,n,s];generalize ((cf p i).den:Int)=d;generalize (c.den:Int)=f;grind
  exact Int.eq_of_mul_eq_mul_right (Cv P y) E
 refine⟨m*e,?_,by rw[D,A]⟩;have o:(G:Rat)≠0:=by exact_mod_cast H
 have a:cf p i*((cf p i).den:Rat)=((cf p i).num:Rat):=GX _;rw[w,Ax]at a;have x:(L:Rat)=((cf p i).den:Rat)*(e:Rat):=by rw[s,Ax,AM]
 have k:(L:Rat)/(G:Rat)*(G:Rat)=L:=A4 o;have F:(cf p i*((L:Rat)/(G:Rat))-((m*e:Int):Rat))*(G:Rat)=0:=by
  rw[Ax];generalize (L:Rat)/(G:Rat)=f at k ⊢;rw[x]at k;generalize ((cf p i).den:Rat)=d at a k;grind
 rcases C8.1 F with q|q
 . grind
 . exact absurd q o
theorem RD(hp:Jd p=p)(e:p≠[])(l:∀i,∃z:Int,cf p i*c=(z:Rat)):∃t:Int,∀i,∃r:Int,cf (J2 p) i=(r:Rat)/\cf p i*c=((r*t:Int):Rat):=by
 have b:∀i,p.length<=i->cf p i=0:=λi a=>J6 a;obtain⟨t,g⟩:=cO (p:=p) (L:=(YL p p.length:Int)) (G:=(YC p p.length:Int)) (λi=>by
  by_cases a:i<p.length
  . exact Int.natCast_dvd_natCast.2 (Mw p _ i a)
  . rw[b i Y];exact Int.one_dvd _) (λu j=>CJ.2 (Mx p _ (λi=>CJ.1 (j i)) _)) (λi=>by
  by_cases a:i<p.length
  . exact CJ.2 (My p _ i a)
  . rw[b i Y];exact Int.dvd_zero _) (λv k=>by
  have:v.natAbs∣YC p p.length:=QK p _ (λi=>FB.2 (k i)) _
  exact Int.natAbs_dvd.1 (Int.natCast_dvd_natCast.2 this)) (by have:=I7 hp e;omega) l
 refine⟨t,λi=>?_⟩;obtain⟨r,d,f⟩:=g i;refine⟨r,?_,f⟩;unfold J2;rw[Yh];rw[AM,AM]at d;exact d
theorem RE(hp:Jd p=p)(m:p≠[])(o:∀i,cf (J2 p) i=(r i:Rat))(hl:1<l):∃i,¬(l:Int)∣r i:=by
 by_cases h:∃i,¬(l:Int)∣r i
 . exact h
 . exfalso
   have u:∀i,(l:Int)∣r i:=λi=>Classical.not_not.1 λb=>h ⟨i,b⟩;have d:(l:Rat)≠0:=by exact_mod_cast (show l≠0 by omega)
   obtain⟨c,n,e⟩:=GY hp;have w:c≠0:=λg=>by rw[g]at n;exact absurd n DL
   have f:∀i,cf p i*c=(r i:Rat):=λi=>by rw[<-Yh,<-e,o]
   obtain⟨t,D⟩:=RD hp m (c:=c/(l:Rat)) (λi=>by
    obtain⟨q,hq⟩:=u i;refine⟨q,?_⟩;have b:c/(l:Rat)*(l:Rat)=c:=A4 d;have j:=f i;rw[hq,Ax,AM]at j;have a:(cf p i*(c/(l:Rat))-(q:Rat))*(l:Rat)=0:=by grind
    rcases C8.1 a with k|k
    . grind
    . exact absurd k d)
   obtain⟨E,b,j⟩:=D (p.length-1);have s:=Jw hp m;have x:E=r (p.length-1):=Rat.intCast_inj.1 (by rw[<-b,o]);have v:r (p.length-1)≠0:=λg=>by
    have a:=f (p.length-1);rw[g]at a;exact XN s w a
   have a:=f (p.length-1);have k:c/(l:Rat)*(l:Rat)=c:=A4 d;have y:((r (p.length-1):Int):Rat)=(((r (p.length-1))*(t*(l:Int)):Int):Rat):=by
    rw[<-a,Ax,Ax,AM];rw[x,Ax]at j;grind
   have z:=Rat.intCast_inj.1 y;have A:t*(l:Int)=1:=by
    have B:r (p.length-1)*1=r (p.length-1)*(t*(l:Int)):=by rw[Int.mul_one];exact z
    exact(Int.eq_of_mul_eq_mul_left v B).symm
   have C:(l:Int)∣1:=⟨t,by rw[CX];exact A.symm⟩;have F:=Int.le_of_dvd DL C;omega
theorem NR(hp:Jd p=p)(b:p≠[]):∀i,∃r:Int,cf (J2 p) i=(r:Rat):=by
 obtain⟨t,k⟩:=RD hp b (c:=(YL p p.length:Rat)) (λi=>by
  have f:(cf p i).den∣YL p p.length:=by
   by_cases j:i<p.length
   . exact Mw p _ i j
   . rw[J6 Y];exact Nat.one_dvd _
  obtain⟨e,g⟩:=f;refine⟨(cf p i).num*(e:Int),?_⟩;have a:cf p i*((cf p i).den:Rat)=((cf p i).num:Rat):=GX _;rw[g,Ax,<-a,AM,Rat.natCast_mul];grind)
 intro i;obtain⟨r,d,_⟩:=k i;exact⟨r,d⟩
theorem cT(B:Jd P=P)(u:P≠[])(T:∀i,∃z:Int,cf P i=(z:Rat))(p:Jd g=g)(h:Dv g P):
 ∃H:List Rat,Jd H=H/\P=Jo (J2 g) H/\∀i,∃z:Int,cf H i=(z:Rat):=by
 have y:g≠[]:=λe=>u (by
  obtain⟨c,j⟩:=h;exact Y4 B λx=>by rw[j,e];simp[ev])
 obtain⟨M,C,N⟩:=GY p;have F:M≠0:=λm=>by rw[m]at C;exact absurd C DL
 have R:Dv (J2 g) P:=by rw[N];exact h.of_sc F
 obtain⟨H,f,o⟩:=R.some B;have t:H≠[]:=λe=>u (by rw[o,e];exact Yw _);refine⟨H,f,o,?_⟩;obtain⟨c,j,w⟩:=GY f;have K:c≠0:=λm=>by rw[m]at j;exact absurd j DL
 obtain⟨r,q⟩:=Classical.axiomOfChoice (NR p y);obtain⟨s,hs⟩:=Classical.axiomOfChoice (NR f t);obtain⟨z,U⟩:=Classical.axiomOfChoice T;have D:DX c P=Jo (J2 g) (J2 H):=by
  refine YT (JP _ _) (Jy _ _) λx=>?_;have a:ev P x=ev (J2 g) x*ev H x:=by rw[<-Ji,<-o]
  rw[Yq,Ji,w,Yq,a];grind
 have I:∀k,(z k:Rat)*c=((Yd (J2 g).length (λi=>if i<=k then r i*s (k-i)else 0):Int):Rat):=λk=>by
  rw[<-U k,<-Yh,D,K9 _ _ (Aa _)];refine Mv λi _=>?_;split
  . rw[q,hs,Ax]
  . rfl
 have v:c*(c.den:Rat)=(c.num:Rat):=GX c;have E:∀k,z k*c.num=(c.den:Int)*Yd (J2 g).length (λi=>if i<=k then r i*s (k-i)else 0):=λk=>by
  have a:((z k*c.num:Int):Rat)=(((c.den:Int)*Yd (J2 g).length (λi=>if i<=k then r i*s (k-i)else 0):Int):Rat):=by
   rw[Ax,Ax,<-I k,AM,<-v];grind
  exact Rat.intCast_inj.1 a
 have L:c.num≠0:=λe=>K (FH.1 e);have G:c.num.natAbs=1:=by
  by_cases a:c.num.natAbs=1
  . exact a
  . exfalso
    have A:c.num.natAbs≠0:=Int.natAbs_ne_zero.2 L;obtain⟨l,l1,l2,V⟩:=cL c.num.natAbs Y;refine cN V (r:=r) (s:=s) (n:=(J2 g).length) (λi S=>?_) (λk=>?_) (RE p y q l1) (RE f t hs l1)
    . have b:=q i;rw[J6 S]at b;exact(Rat.intCast_inj.1 (show((0:Int):Rat)=_ from b)).symm
    . have b:(l:Int)∣(c.den:Int)*Yd (J2 g).length (λi=>if i<=k then r i*s (k-i)else 0):=by
       rw[<-E k];exact Int.dvd_trans (CJ.2 l2) (Int.dvd_mul_left _ _)
      rw[CX]at b;refine dvd_one b ?_;rw[AD,AD];have d:Nat.gcd l c.den∣Nat.gcd c.num.natAbs c.den:=Nat.dvd_gcd (Nat.dvd_trans (Fg _ _) l2) (CU _ _);have Q:Nat.gcd c.num.natAbs c.den=1:=c.reduced;rw[Q]at d;exact Nat.dvd_one.1 d
 intro i;refine⟨s i*(c.den:Int)*c.num,?_⟩;have a:cf H i*c=(s i:Rat):=by rw[<-hs,w,Yh]
 have A:(c.num:Rat)*(c.num:Rat)=1:=by
  rw[<-Ax];have b:c.num*c.num=1:=by
   rcases Int.natAbs_eq c.num with e|e<;>(rw[G]at e;rw[e];rfl)
  rw[b];rfl
 rw[Ax,Ax,AM,<-a];have d:cf H i*c*(c.den:Rat)*(c.num:Rat)=cf H i*(c.num*c.num:Rat):=by rw[Rat.mul_assoc (cf H i),v,Rat.mul_assoc]
 rw[d,A,Rat.mul_one]
def Dq:List Int->Int->Int
 |[],_=>0
 |c::t,x=>c+x*Dq t x
def cz(g:List Int)(i:Nat):Int:=g[i]?.getD 0
theorem RF(i:Nat):cz [] i=0:=rfl
theorem LL(c:Int)(t:List Int):cz (c::t) 0=c:=rfl
theorem KH(c:Int)(t:List Int)(i:Nat):cz (c::t) (i+1)=cz t i:=rfl
theorem NS{g:List Int}{i:Nat}(h:g.length<=i):cz g i=0:=by unfold cz;rw[AP h];rfl
def Ym:List Int->Int->List Int × Int
 |[],_=>([],0)
 |c::t,k=>((Ym t k).2::(Ym t k).1,c+k*(Ym t k).2)
theorem NT(k x:Int):∀g:List Int,Dq g x=(x-k)*Dq (Ym g k).1 x+(Ym g k).2:=by
 intro g;induction g with
 |nil=>simp[Dq,Ym]
 |cons c t a=>rw[Dq,Ym,a];simp only[Dq];grind
theorem RG(k:Int)(g:List Int):(Ym g k).2=Dq g k:=by
 have h:=NT k k g;rw[Int.sub_self,Int.zero_mul,Int.zero_add]at h;exact h.symm
theorem NU(k:Int):∀(g:List Int),cz g 0=(Ym g k).2-k*cz (Ym g k).1 0/\∀i,cz g (i+1)=cz (Ym g k).1 i-k*cz (Ym g k).1 (i+1):=by
 intro g;induction g with
 |nil=>exact⟨by simp[RF,Ym],λi=>by simp[RF,Ym]⟩
 |cons c t a=>
  rw[Ym];refine⟨by rw[LL,LL];omega,λi=>?_⟩;cases i with
  |zero=>rw[KH,LL,KH];exact a.1
  |succ i=>rw[KH,KH,KH];exact a.2 i
theorem RH(k:Int)(g:List Int){m:Nat}(h:∀i,m+1<=i->cz g i=0):∀i,m<=i->cz (Ym g k).1 i=0:=by
 have b:∀d i,m<=i->(Ym g k).1.length<=i+d->cz (Ym g k).1 i=0:=λd=>by
  induction d with
  |zero=>intro i _ c;exact NS Y
  |succ d j=>
   intro i a c;have e:=j (i+1) Y Y;have f:=(NU k g).2 i;rw[h (i+1) Y,e,Int.mul_zero]at f;omega
 intro i a;exact b (Ym g k).1.length i a Y
theorem cU:∀(m:Nat) (g:List Int),(∀i,m<=i->cz g i=0)->(∃i,cz g i≠0)->∀b:List Int,b.Nodup->(∀k∈b,Dq g k=0)->b.length<m:=by
 intro m;induction m with
 |zero=>intro g h ⟨i,s⟩;exact absurd (h i Y) s
 |succ m u=>
  intro g h ⟨t,c⟩ b e o;cases b with
  |nil=>simp
  |cons a b=>
   rw[List.nodup_cons]at e;have q:(Ym g a).2=0:=by rw[RG];exact o a O
   have hq:∃i,cz (Ym g a).1 i≠0:=by
    by_cases f:∃i,cz (Ym g a).1 i≠0
    . exact f
    . exfalso
      have d:∀i,cz (Ym g a).1 i=0:=λi=>Classical.not_not.1 λr=>f ⟨i,r⟩;have j:=NU a g;cases t with
      |zero=>rw[j.1,q,d]at c;simp at c
      |succ i=>rw[j.2,d,d]at c;simp at c
   have v:=u (Ym g a).1 (RH a g h) hq b e.2 (λk p=>by
    have l:=NT a k g;rw[o k (by simp[p]),q,Int.add_zero]at l;rcases Int.mul_eq_zero.1 l.symm with n|n
    . exact absurd (show k∈b from p) λw=>e.1 (by rwa[show a=k by omega])
    . exact n)
   simp only[Ao];omega
theorem cV(B:Nat):∀(m:Nat) (g:List Int) (M:Nat),(∀i,m<=i->cz g i=0)->∀b:List Int,b.Nodup->b.length=m->(∀k∈b,(Dq g k).natAbs<=M/\k.natAbs<=B)->∀i,(cz g i).natAbs<=M*(2*B+3)^m:=by
 intro m;induction m with
 |zero=>intro g M h b _ _ _ i;rw[h i Y];simp
 |succ m v=>
  intro g M h b f hl o i;cases b with
  |nil=>simp at hl
  |cons a b=>
   rw[List.nodup_cons]at f;obtain⟨p,q⟩:=o a O;have D:((Ym g a).2).natAbs<=M:=by rw[RG];exact p
   have hq:=v (Ym g a).1 (2*M) (RH a g h) b f.2 (by simpa using hl) (λk u=>by
    obtain⟨n,c⟩:=o k (by simp[u]);refine⟨?_,c⟩;have z:=NT a k g;have r:(k-a)*Dq (Ym g a).1 k=Dq g k-(Ym g a).2:=Y
    have s:(k-a).natAbs*(Dq (Ym g a).1 k).natAbs<=2*M:=by
     rw[<-Cr,r];omega
    have t:0<(k-a).natAbs:=Int.natAbs_pos.2 λe=>f.1 (by rwa[show a=k by omega]);exact Aw (Cz _ t) s)
   obtain⟨X,d⟩:∃X,2*M*(2*B+3)^m=X:=⟨_,rfl⟩;rw[d]at hq;have A:2*M<=X:=by rw[<-d];exact Cc _ (Cx Y)
   have C:X+B*X<=M*(2*B+3)^(m+1):=by
    have e:M*(2*B+3)^(m+1)*2=X*(2*B+3):=by rw[<-d,AY];grind
    have w:X*(2*B+3)=2*(B*X)+3*X:=by grind
    omega
   have j:∀y:Int,(a*y).natAbs<=B*y.natAbs:=λy=>by rw[Cr];exact Am _ q
   have l:=NU a g;cases i with
   |zero=>
    rw[l.1];have n:=j (cz (Ym g a).1 0);have c:B*(cz (Ym g a).1 0).natAbs<=B*X:=As _ (hq 0);omega
   |succ i=>
    rw[l.2];have n:=j (cz (Ym g a).1 (i+1));have c:B*(cz (Ym g a).1 (i+1)).natAbs<=B*X:=As _ (hq (i+1));have x:=hq i;omega
theorem cZ{B:Nat}:∀(g:List Int) (k:Int),(∀i,(cz g i).natAbs<=M)->k.natAbs<=B->(Dq g k).natAbs<=M*(B+1)^g.length:=by
 intro g;induction g with
 |nil=>intro k _ _;simp[Dq]
 |cons c t l=>
  intro k h e;have b:=l k (λi=>h (i+1)) e;have j:=h 0;rw[LL]at j;rw[Dq,Ao,AY];obtain⟨a,d⟩:=ex ((B+1)^t.length);rw[d]at b ⊢;have f:1<=a:=by rw[<-d];exact Cx Y
  have m:(k*Dq t k).natAbs<=B*(M*a):=by rw[Cr];exact CB e b
  have n:M<=M*a:=Cc _ f;have o:M*(a*(B+1))=M*a+B*(M*a):=by grind
  have p:=FD c (k*Dq t k);omega
def KI(g:List Int):List Rat:=g.map (λz:Int=>(z:Rat))
theorem NW(g:List Int)(i:Nat):cf (KI g) i=(cz g i:Rat):=by
 unfold cf KI cz;rw[C0];cases g[i]? with
 |none=>rfl
 |some z=>rfl
theorem NX(k:Int):∀g:List Int,ev (KI g) (k:Rat)=(Dq g k:Rat):=by
 intro g;induction g with
 |nil=>rfl
 |cons c t a=>
  show(c:Rat)+(k:Rat)*ev (KI t) (k:Rat)=_;rw[a,Dq,FJ,Ax]
theorem NY(h:∀i,∃z:Int,cf p i=(z:Rat)):∃g:List Int,p=KI g/\g.length=p.length:=by
 induction p with
 |nil=>exact⟨[],rfl,rfl⟩
 |cons c t e=>
  obtain⟨g,b,d⟩:=e (λi=>by have:=h (i+1);rwa[J5]at this);obtain⟨z,a⟩:=h 0;rw[YJ]at a;exact⟨z::g,by rw[a,b];rfl,by simp[d]⟩
theorem nodup_range(n:Nat):((List.range n).map (λi:Nat=>(i:Int))).Nodup:=by
 refine List.Pairwise.map _ ?_ (List.nodup_range (n:=n));intro a b h e;exact h Y
theorem cg(y:Jd P=P)(f:P≠[])(hl:P.length<=n+1)(t:∀i,∃z:Int,z.natAbs<=M/\cf P i=(z:Rat))(A:Jd g=g)(h:Dv g P):
 ∀i,∃z:Int,z.natAbs<=M*(2*n+1)^(n+1)*(2*(2*n)+3)^(n+1)/\cf (J2 g) i=(z:Rat):=by
 obtain⟨H,L,j,N⟩:=cT y f (λi=>by obtain⟨z,_,c⟩:=t i;exact⟨z,c⟩) A h;have K:g≠[]:=λe=>f (by rw[j,e];rfl);have u:H≠[]:=λe=>f (by rw[j,e];exact Yw _);obtain⟨a,o,lp⟩:=NY (p:=P) (λi=>by obtain⟨z,_,c⟩:=t i;exact⟨z,c⟩);obtain⟨m,x,lg⟩:=NY (NR A K);obtain⟨Q,I,lh⟩:=NY N;have ad:(J2 g).length<=n+1:=by
  have b:=JD (XW g) L (λe=>f (by rw[j,e];rfl)) u;rw[<-j]at b;have c:0<H.length:=Ai.2 u;omega
 have F:∀i,(cz a i).natAbs<=M:=λi=>by
  obtain⟨z,b,c⟩:=t i;rw[o,NW]at c;rwa[Rat.intCast_inj.1 c]
 have v:∀k:Int,Dq a k=Dq m k*Dq Q k:=λk=>by
  have b:ev P (k:Rat)=ev (J2 g) (k:Rat)*ev H (k:Rat):=by rw[<-Ji,<-j]
  rw[o,x,I,NX,NX,NX,<-Ax]at b;exact Rat.intCast_inj.1 b
 obtain⟨R,q⟩:=ex ((List.range (2*n+1)).map (λi:Nat=>(i:Int)));have w:R.Nodup:=by rw[<-q];exact nodup_range _
 have W:R.length=2*n+1:=by rw[<-q];simp
 have D:∀k∈R,k.natAbs<=2*n:=λk d=>by
  rw[<-q]at d;obtain⟨i,s,rfl⟩:=FG.1 d;have:=List.mem_range.1 s;omega
 have X:(R.filter λk=>Dq a k==0).length<n+1:=by
  refine cU (n+1) a (λi s=>NS Y) ?_ _ (w.filter _) (λk d=>by
   have:=(Fm.1 d).2;simpa using this)
  refine⟨P.length-1,λe=>Jw y f ?_⟩;have b:=NW a (P.length-1);rw[<-o,e]at b;exact b
 have ae:(R.filter λk=>Dq a k==0).length+(R.filter λk=>!(Dq a k==0)).length=R.length:=by
  rw[<-List.countP_eq_length_filter,<-List.countP_eq_length_filter];have b:=List.length_eq_countP_add_countP (l:=R) λk=>Dq a k==0;have c:List.countP (λk=>!(Dq a k==0)) R=List.countP (λk=>decide ¬((Dq a k==0)=true)) R:=by congr 1;funext k;cases(Dq a k==0)<;>rfl
  omega
 obtain⟨S,r⟩:=ex ((R.filter λk=>!(Dq a k==0)).take (n+1));have C:S.length=n+1:=by rw[<-r,Ap];omega
 have E:S.Nodup:=by rw[<-r];exact List.Sublist.nodup (List.take_sublist _ _) (w.filter _)
 have G:∀k∈S,Dq a k≠0/\k.natAbs<=2*n:=λk d=>by
  rw[<-r]at d;have b:=Fm.1 (FF d);refine⟨?_,D k b.1⟩;have:=b.2;simpa using this
 have B:=cV (2*n) (n+1) m (M*(2*n+1)^(n+1)) (λi s=>NS Y) S E C (λk d=>by
  obtain⟨b,c⟩:=G k d;refine⟨?_,c⟩;have T:=cZ a k F c;have U:M*(2*n+1)^a.length<=M*(2*n+1)^(n+1):=As _ (Ay Y Y);have V:(Dq m k).natAbs<=(Dq a k).natAbs:=by
   rw[v k,Cr];refine Cc _ (Int.natAbs_pos.2 λe=>b ?_);rw[v k,e,Int.mul_zero]
  omega)
 intro i;exact⟨cz m i,B i,by rw[x,NW]⟩
theorem Ln.mul{N:Nat}(hp:Ln K p)(hq:Ln N q)(hl:p.length<=1000000000):Ln (K+N+1) (Jo p q):=by
 obtain⟨c,l,b⟩:=hp;obtain⟨d,m,a⟩:=hq;obtain⟨z,b⟩:=Classical.axiomOfChoice b;obtain⟨y,a⟩:=Classical.axiomOfChoice a;refine⟨c*d,XN l m,λk=>⟨Yd p.length λi=>if i<=k then z i*y (k-i)else 0,?_,?_⟩⟩
 . have e:(Yd p.length λi=>if i<=k then z i*y (k-i)else 0).natAbs<=p.length*(J^K*J^N):=K4 λi _=>by
    split
    . rw[Cr];have g:=(b i).1;have j:=(a (k-i)).1;unfold Sm at g j;exact CB Y Y
    . simp
   unfold Sm;rw[AY,CF];have f:0<J^K*J^N:=FL (Cx Xt) (Cx Xt);refine Cb e ?_;rw[Av];exact(Nat.mul_lt_mul_left f).2 uo
 . rw[K9 p q (Aa _)];have e:∀n,Dj n (λi=>if i<=k then cf p i*cf q (k-i)else 0)*(c*d)=((Yd n (λi=>if i<=k then z i*y (k-i)else 0):Int):Rat):=λn=>by
    induction n with
    |zero=>simp[Dj,Yd,Rat.zero_mul]
    |succ n o=>
     rw[Dj,Yd,FJ,<-o];split
     . rw[Ax,<-(b n).2,<-(a (k-n)).2];grind
     . rw[show((0:Int):Rat)=0 from rfl];grind
   exact e _
theorem Ln.slope(h:Ln K p)(hl:p.length<=1000000000):Ln (K+1) (Je p):=by
 obtain⟨c,d,e⟩:=h;refine⟨c,d,λi=>?_⟩;obtain⟨z,a,b⟩:=e (i+1);rw[Xn];by_cases f:i+1<p.length
 . refine⟨z*((i+1:Nat):Int),a.mul (by unfold Sm J;rw[AD];omega),?_⟩;rw[Ax,<-b];grind
 . exact⟨0,Sm.zero _,by rw[J6 Y,Cy,Cy];rfl⟩
theorem Dv.lnN{e:Nat}(b:Jd P=P)(s:P≠[])(hl:P.length<=n+1)(F:(2*n+1)^(n+1)*(2*(2*n)+3)^(n+1)<=J^e)(G:Ln K P)(r:Jd g=g)(h:Dv g P):Ln (K+e) g:=by
 obtain⟨c,p,o⟩:=GY b;have v:c≠0:=λf=>by rw[f]at p;exact absurd p DL
 have C:J2 P≠[]:=by rw[o];exact IV v b s
 have D:Dv g (J2 P):=by rw[o];exact h.sc c
 have x:=IX b G;have y:=cg (n:=n) (M:=J^K-1) (XW P) C (by rw[Y3 b];omega) (λi=>by
  obtain⟨z,j,k⟩:=x i;unfold Sm at j;exact⟨z,Y,k⟩) r D
 have A:EE (K+e) (J2 g):=λi=>by
  obtain⟨z,j,k⟩:=y i;refine⟨z,?_,k⟩;unfold Sm;have I:0<J^K:=Cx Xt;have t:0<J^e:=Cx Xt;have a:(J^K-1)*((2*n+1)^(n+1)*(2*(2*n)+3)^(n+1))<=(J^K-1)*J^e:=As _ F;rw[<-AH]at a;have l:(J^K-1)*J^e<J^K*J^e:=(Nat.mul_lt_mul_right t).2 Y;rw[CF];exact Cb j (Cb a l)
 obtain⟨m,q,w⟩:=GY r;have u:m≠0:=λf=>by rw[f]at q;exact absurd q DL
 have a:=A.ln;rw[w]at a;obtain⟨d,E,H⟩:=a;refine⟨m*d,XN u E,λi=>?_⟩;obtain⟨z,l,B⟩:=H i;exact⟨z,l,by rw[<-B,Yh];grind⟩
theorem KJ:(2*24+1)^(24+1)*(2*(2*24)+3)^(24+1)<=J^5:=by unfold J;decide
theorem dA:(2*47+1)^(47+1)*(2*(2*47)+3)^(47+1)<=J^11:=by unfold J;decide
theorem Dv.len(g:Jd a=a)(i:Jd b=b)(b0:b≠[])(h:Dv a b):a.length<=b.length/\a≠[]:=by
 obtain⟨c,j,e⟩:=h.some i;have f:a≠[]:=λd=>b0 (by rw[e,d];rfl);have c0:c≠[]:=λd=>b0 (by rw[e,d];exact Yw _);have l:=JD g j f c0;rw[<-e]at l
 have:0<c.length:=Ai.2 c0
 exact⟨Y,f⟩
theorem LM(d:Jd a=a)(e:Jd b=b)(c:a≠[])(b0:b≠[]):cf (Jo a b) ((Jo a b).length-1)=cf a (a.length-1)*cf b (b.length-1):=by
 have l:=JD d e c b0;have f:0<a.length:=Ai.2 c;have g:0<b.length:=Ai.2 b0;rw[l,show a.length+b.length-1-1=(a.length-1)+(b.length-1)by omega];unfold Jo;rw[Yc];exact LX a b (a.length-1) (b.length-1) Y Y
theorem dB(c:Jd R=R)(hl:1<R.length):(Je R).length=R.length-1/\cf (Je R) ((Je R).length-1)=cf R (R.length-1)*(((R.length-1:Nat):Int):Rat):=by
 have R0:R≠[]:=λe=>by rw[e]at hl;simp at hl
 have d:=YQ R0;have b:cf (Je R) (R.length-2)≠0:=by
  rw[Xn,show R.length-2+1=R.length-1 by omega];exact XN (Jw c R0) (by
   intro e
   have:((R.length-1:Nat):Int)=0:=by exact_mod_cast e
   omega)
 have f:=QE b;have a:(Je R).length=R.length-1:=Y
 refine⟨a,?_⟩;rw[a,Xn,show R.length-1-1+1=R.length-1 by omega]
theorem LN(tq:Jd q=q)(q0:q≠[])(a:Jp q=q):cf q (q.length-1)=1:=by
 have:=LC tq q0;rwa[a]at this
theorem RI{w y:List Rat}(tq:Jd q=q)(q0:q≠[])(lq:q.length<=25)(l:Ln K q)(tR:Jd R=R)(I:Jp R=R)(tw:Jd w=w)(mw:Jp w=w)(ty:Jd y=y)(g:Dv R q)(j:Dv w q)
(G:∀x,ev y x*ev R x=ev w x*ev (Je R) x):∃D:Int,D≠0/\Sm (2*K+24) D/\D6 D (2*K+24) y:=by
 by_cases a:y=[]
 . subst a;exact NC Y
 . obtain⟨Q,R0⟩:=g.len tR tq q0;obtain⟨T,w0⟩:=j.len tw tq q0;have c:Jo y R=Jo w (Je R):=YT (Jy _ _) (Jy _ _) λx=>by rw[Ji,Ji,G]
   have m:Jo w (Je R)≠[]:=by rw[<-c];exact NG ty tR a R0
   have f:Je R≠[]:=λe=>m (by rw[e];exact Yw _);have C:1<R.length:=by
    have L:0<(Je R).length:=Ai.2 f;have:=YQ R0;omega
   obtain⟨S,H⟩:=dB tR C;have A:Ln (K+5) R:=g.lnN (n:=24) tq q0 Y KJ l tR;have v:Ln (K+5) w:=j.lnN (n:=24) tq q0 Y KJ l tw;have u:=v.mul (A.slope Y) Y;have P:=JD tw (JV R) w0 f;have z:Dv y (Jo w (Je R)):=⟨R,λx=>by rw[<-c,Ji]⟩;have B:=z.lnN (n:=47) (e:=11) (Jy _ _) m Y dA u ty;have b:=LM ty tR a R0;have t:=LM tw (JV R) w0 f;rw[c]at b;rw[t,H,LN tw w0 mw,LN tR R0 I]at b;have s:cf y (y.length-1)=(((R.length-1:Nat):Int):Rat):=by
    rw[FM,FM,Rat.mul_one]at b;exact b.symm
   obtain⟨E,o,p,r⟩:=Mz ty a B;refine⟨E,o,p.mono Y,λi=>?_⟩;have F:cf y i=cf (Jp y) i*(((R.length-1:Nat):Int):Rat):=by
    unfold Jp;rw[Yh,<-s];have N:(1/cf y (y.length-1))*cf y (y.length-1)=1:=A4 (Jw ty a);grind
   rw[F];have k:=(r i).mul (E:=1) (M:=1) (d:=(((R.length-1:Nat):Int):Rat)) ⟨((R.length-1:Nat):Int),by rw[Cs,show((1:Int):Rat)=1 from rfl];grind,by unfold Sm J;rw[AD];omega⟩;rw[Int.mul_one]at k;exact k.mono Y
def D8(q w y:List Rat):Nat->List Rat
 |0=>q
 |n+1=>Jt (D8 q w y n) (DP w y n).1
theorem Gb(h:q≠[]):Db p q=Jt p q:=BH h
section
variable {q w y:List Rat}
theorem Gc(h:Yun q w y)(m:Jp q=q):∀n,Yun (D8 q w y n) (DP w y n).1 (DP w y n).2/\Dv (D8 q w y n) q/\Jp (D8 q w y n)=D8 q w y n/\Dv (DP w y n).1 q:=by
 intro n;induction n with
 |zero=>exact⟨h,Dv.refl _,m,h.dv⟩
 |succ n l=>
  obtain⟨a,g,i,j⟩:=l;obtain⟨_,_,o,p,_,s⟩:=a.step;have c:Jm (DP w y n).1 (JE (DP w y n).2 (Je (DP w y n).1))≠[]:=XV a.tw (Yi _ _) (Or.inl a.w0);have e:(DP w y (n+1)).1=Jt (DP w y n).1 (Jm (DP w y n).1 (JE (DP w y n).2 (Je (DP w y n).1))):=by rw[DP];unfold IZ;exact Gb c
  have f:(DP w y (n+1)).2=Jt (JE (DP w y n).2 (Je (DP w y n).1)) (Jm (DP w y n).1 (JE (DP w y n).2 (Je (DP w y n).1))):=by rw[DP];unfold IZ;exact Gb c
  have k:Dv (Jt (D8 q w y n) (DP w y n).1) (D8 q w y n):=by
   refine⟨(DP w y n).1,λx=>?_⟩;have b:=Bo (λr=>ev r x) p;simp only[Ji]at b;rw[b];exact Fw _ _
  have d:Dv (Jt (DP w y n).1 (Jm (DP w y n).1 (JE (DP w y n).2 (Je (DP w y n).1)))) (DP w y n).1:=by
   refine⟨Jm (DP w y n).1 (JE (DP w y n).2 (Je (DP w y n).1)),λx=>?_⟩;have b:=Bo (λr=>ev r x) s;simp only[Ji]at b;exact b.trans (Fw _ _)
  rw[e,f];exact⟨o,k.trans g,(NH a.tR a.R0 i a.tw a.mw a.dv).1,d.trans j⟩
theorem NZ(h:Yun q w y)(c:Jp q=q)(n:Nat)(f:1<(DP w y n).1.length):(D8 q w y (n+1)).length<(D8 q w y n).length:=by
 obtain⟨a,_,e,_⟩:=Gc h c n;obtain⟨_,_,b,d,_,_⟩:=a.step;have l:=JD a.tw (J8 (D8 q w y n) (DP w y n).1) a.w0 b.R0;rw[<-d]at l;rw[D8]
 have:0<(Jt (D8 q w y n) (DP w y n).1).length:=Ai.2 b.R0
 omega
theorem dC(h:Yun q w y)(f:Jp q=q):∃N,N<=q.length/\(DP w y N).1.length<=1/\∀n,n<N->1<(DP w y n).1.length:=by
 have l:∃N,(DP w y N).1.length<=1:=by
  by_cases b:∃N,(DP w y N).1.length<=1
  . exact b
  . exfalso
    have g:∀n,1<(DP w y n).1.length:=λn=>by
     by_cases i:1<(DP w y n).1.length
     . exact i
     . exact absurd ⟨n,Y⟩ b
    have a:∀n,(D8 q w y n).length+n<=q.length:=λn=>by
     induction n with
     |zero=>exact Aa _
     |succ n e=>have:=NZ h f n (g n);omega
    have j:=a (q.length+1);omega
 obtain⟨N,k,c⟩:=NQ l;have a:∀n,n<=N->(D8 q w y n).length+n<=q.length:=λn=>by
  induction n with
  |zero=>exact λ_=>Aa _
  |succ n e=>
   intro d;have j:=c n Y;have:=NZ h f n Y;have:=e Y;omega
 exact⟨N,by have:=a N (Aa _);omega,k,λn d=>by have:=c n d;omega⟩
end
theorem dD{p:List Rat}(tp:Jd p=p)(hl:1<p.length)(af:p.length<=25)(cp:Cd 75 p):∃N,PtOk 174 8926 N p/\N<=25:=by
 obtain⟨q,hq⟩:=ex (Jp p);have tq:Jd q=q:=by rw[<-hq];exact Yu _
 have k:Jp q=q:=by rw[<-hq];exact I6 tp
 have lq:q.length=p.length:=by rw[<-hq];exact Xm tp
 have q0:q≠[]:=λe=>by rw[e]at lq;simp at lq;omega
 have cq:Cd 75 q:=by rw[<-hq];exact cp.mon tp
 have ah:=YQ q0;have cs:Cd 76 (Je q):=by
  obtain⟨D,d1,o,r⟩:=cq;refine⟨D,d1,o.mono Y,λi=>?_⟩;rw[Xn];by_cases hi:i+1<q.length
  . have c:=(r (i+1)).mul (E:=1) (M:=1) (d:=(((i+1:Nat):Int):Rat)) ⟨((i+1:Nat):Int),by rw[Cs,show((1:Int):Rat)=1 from rfl];grind,by unfold Sm J;rw[AD];omega⟩;rwa[Int.mul_one]at c
  . rw[J6 Y,Cy];exact CD.zero _ _
 have C:∀a b:List Rat,Jd a=a->Jd b=b->Cd 174 a->Cd 174 b->a.length<=25->b.length<=25->M3.ChOk 174 a b/\Di 174 a b<=8926:=λa b ta tb ca cb la lb=>by
  have c:Di 174 a b<=(174+1)*(25+25+1):=As _ Y;have s:(max a.length b.length+2)*(Di 174 a b+1)<=(25+2)*((174+1)*(25+25+1)+1):=CB Y Y;exact⟨⟨ta,tb,ca,cb,Y,Y⟩,Y⟩
 have v:∀n:Nat,n<=25->2*((n+3)*(8926+1))<=1000000000:=λn K=>by
  have:(n+3)*(8926+1)<=(25+3)*(8926+1):=Am _ Y
  omega
 have F:=XV tq (JV q) (Or.inl q0);obtain⟨w,z⟩:=ex (Db q (Jm q (Je q)));obtain⟨y,A⟩:=ex (Db (Je q) (Jm q (Je q)));have u:Yun q w y:=by
  rw[<-z,<-A,Gb F,Gb F];exact Yun.start tq q0 k
 obtain⟨N,hN,ad,ae⟩:=dC u k;refine⟨N,?_,Y⟩;have c0:=C q (Je q) tq (JV _) (cq.mono Y) (cs.mono Y) Y Y;refine⟨tp,cp.mono Y,by rw[hq];exact c0.1,by rw[hq];exact c0.2,v _ Y,hl,Y,?_,by rw[hq,z,A];exact ad⟩;rw[hq,z,A];intro n K;refine⟨ae n K,?_⟩;obtain⟨c,s,H,g⟩:=Gc u k n;obtain⟨s1,s2,f,s4,B,s6⟩:=c.step;obtain⟨k1,P,Q,k4⟩:=Gc u k (n+1);obtain⟨a,j⟩:=ex ((DP w y n).1);obtain⟨b,I⟩:=ex ((DP w y n).2);obtain⟨R,t⟩:=ex (D8 q w y n);have W:D8 q w y (n+1)=Jt R a:=by rw[D8,t,j]
 rw[W]at P Q;rw[j,I,t]at c f B;rw[t]at s H;rw[j]at g;rw[j,I];have la:=(g.len c.tw tq q0).1;have l:=cq.ln;have m:Cd 80 a:=by
  have h5:=g.lnN (n:=24) tq q0 Y KJ l c.tw;have:=I9 c.tw (h5.mono (L:=80) Y) Y;rwa[c.mw]at this
 have V:=RI tq q0 Y l c.tR H c.tw c.mw c.ty s g c.eq;have X:Cd 174 b:=(show Cd (2*75+24) b from V).mono Y;have U:=RI tq q0 Y l f.tR Q c.tw c.mw (Yi _ _) P g B;have G:Cd 174 (JE b (Je a)):=(show Cd (2*75+24) (JE b (Je a))from U).mono Y;have cS:Cd 81 (Je a):=by
  obtain⟨D,d1,o,r⟩:=m;refine⟨D,d1,o.mono Y,λi=>?_⟩;rw[Xn];by_cases hi:i+1<a.length
  . have h6:=(r (i+1)).mul (E:=1) (M:=1) (d:=(((i+1:Nat):Int):Rat)) ⟨((i+1:Nat):Int),by rw[Cs,show((1:Int):Rat)=1 from rfl];grind,by unfold Sm J;rw[AD];omega⟩;rwa[Int.mul_one]at h6
  . rw[J6 Y,Cy];exact CD.zero _ _
 have S:(JE b (Je a)).length<=25:=by
  by_cases T:JE b (Je a)=[]
  . rw[T];simp
  . have e1:Jo (JE b (Je a)) (Jt R a)=Jo a (Je (Jt R a)):=YT (Jy _ _) (Jy _ _) λx=>by rw[Ji,Ji,B]
    have l1:=JD (Yi b (Je a)) f.tR T f.R0;have l2:=Mt a (Je (Jt R a));have l3:=YQ f.R0;rw[e1]at l1
    have:0<(Jt R a).length:=Ai.2 f.R0
    omega
 have c1:=C a (JE b (Je a)) c.tw (Yi _ _) (m.mono Y) G Y S;exact⟨c1.1,c.ty,m.mono Y,cS.mono Y,X.mono Y,G.mono Y,c1.2,v _ Y,v _ S⟩
end
section
def Na(p w y:List Rat):Nat->List Rat
 |0=>p
 |n+1=>Jt (Na p w y n) (DP w y n).1
section
variable {p q w y:List Rat}
theorem dE(h:Yun q w y)(c:Jp q=q)(n:Nat):(DP w y (n+1)).1=Jt (DP w y n).1 (yP (DP w y n)):=by
 obtain⟨a,_⟩:=Gc h c n;have b:Jm (DP w y n).1 (JE (DP w y n).2 (Je (DP w y n).1))≠[]:=XV a.tw (Yi _ _) (Or.inl a.w0);rw[DP];unfold IZ yP;exact Gb b
end
variable{p:List Rat}
theorem RJ(tp:Jd p=p)(a:p≠[]):cf p (p.length-1)≠0/\p=DX (cf p (p.length-1)) (Jp p):=by
 have h:=Jw tp a;refine⟨h,?_⟩;unfold Jp;rw[K5,show 1/cf p (p.length-1)*cf p (p.length-1)=1 by grind,IU tp]
theorem RK{q g:List Rat}(tq:Jd q=q)(q0:q≠[])(lq:q.length<=25)(cq:Cd 75 q)(a:Jd g=g)(c:Jp g=g)(h:Dv g q):Cd 80 g:=by
 have b:=h.lnN (n:=24) tq q0 Y KJ cq.ln a;have:=I9 a (b.mono (L:=80) Y) Y;rwa[c]at this
theorem Cd.scale{A B:Nat}{r:List Rat}(hp:Cd A p)(f:Cd B r)(i:Nat):Cd (A+B) (DX (cf r i) p):=by
 obtain⟨D,d1,a,b⟩:=hp;obtain⟨E,c,d,e⟩:=f;exact⟨D*E,Cv d1 c,a.mul d,λj=>by rw[Yh];exact(b j).mul (e i)⟩
theorem dF{M:Nat}(h:Cd M p)(hl:p.length<=25):Cd (M+1) (Je p):=by
 obtain⟨D,d1,a,b⟩:=h;refine⟨D,d1,a.mono Y,λi=>?_⟩;rw[Xn];by_cases e:i+1<p.length
 . have c:=(b (i+1)).mul (E:=1) (M:=1) (d:=(((i+1:Nat):Int):Rat)) ⟨((i+1:Nat):Int),by rw[Cs,show((1:Int):Rat)=1 from rfl];grind,by unfold Sm J;rw[AD];omega⟩;rwa[Int.mul_one]at c
 . rw[J6 Y,Cy];exact CD.zero _ _
structure StR(K M:Nat)(r f:List Rat):Prop where
 tr:Jd r=r
 cr:Cd M r
 tf:Jd f=f
 f0:f≠[]
 mf:Jp f=f
 ca:Cd M f
 lr:(r.length+3)*(M+1)<=1000000000
 lf:(f.length+3)*(M+1)<=1000000000
 r1:r.length<=1000
 f1:f.length<=1000
 ch:M3.ChOk K f (Jt r f)
structure ReOk(K M N:Nat)(p w y:List Rat):Prop where
 fr:M3.FrOk K p
 w0:Ht p=w
 nN:N<=1000000000
 st:∀n,n<N->1<(DP w y n).1.length/\StR K M (Na p w y n) (DP w y n).1/\Cd M (DP w y (n+1)).1/\Jd (DP w y (n+1)).1=(DP w y (n+1)).1/\(DP w y (n+1)).1≠[]/\Jp (DP w y (n+1)).1=(DP w y (n+1)).1/\
  Jm (DP w y n).1 (Na p w y (n+1))=(DP w y (n+1)).1/\Jt (DP w y n).1 (DP w y (n+1)).1=yP (DP w y n)/\Jp (yP (DP w y n))=yP (DP w y n)/\
  Jd (yP (DP w y n))=yP (DP w y n)/\Cd M (yP (DP w y n))/\(yP (DP w y n)).length<=25
 en:(DP w y N).1.length<=1
end
namespace M3
open Go.RowKit Go.Shelf
attribute [local go_sem] Oper.semAt_some
theorem RL(v:Value)(p:List Rat)(w:World)(h:Jc w v p)(hl:p.length<=1):
 Calls Tryz.prog 18 #[v] w λe s=>e=.returned (.slice none 0 0)/\Bl w s:=by
 have l:(p.length:Int)-1<1:=Y
 obtain⟨d0,c⟩:=ex ((p.length:Int)-1:Int);rw[c]at l;have n:=Z c;have m:=Z λ(V:World) (x:Value) (r:List Rat) (o:Jc V x r)=>Ya x r V o;obtain⟨j,la,k,rfl⟩:=h.form;have d:=(Mem.nil w).push (.poly p) (cs:=#[.slice j la k]) h;obtain⟨W0,b⟩:=ex (w.alloc (.cells #[.slice j la k] 25));have g:=Z b;have f:Hid (Mem w W0 [some (w.heap.size,.poly p)]):=Z (by rw[<-b];exact d);clear d b h c hl;go_enter Tryz.func18,Tryz.ntmps18
 go_upto_region 1 with fail
 rw[g.o];clear g;obtain⟨t,l1,c1,q,r1⟩:=f.o.poly2 (i:=0) rfl;have u:=q.cell;have a:=Z (m.o W0 _ p r1);rw[n.o]at a;go_wp2_with(go_at_call 20;refine a.o.mono ?_;clear a;rintro e y ⟨rfl,hq⟩)
 go_ret;exact⟨rfl,(f.o.below hq).2.2⟩
end M3
section
variable {a b c d p q r w y R:List Rat}
theorem Df.shift(h:Df a b)(f:∀x,ev b x=ev c x+ev a x*ev d x):Df a c:=by
 obtain⟨u,v,e⟩:=h;refine⟨XD u (Jo v d),v,λx=>?_⟩;rw[Y6,Ji];have:=e x;rw[f]at this;grind
theorem Df.left(h:Df a (Jo b c)):Df a b:=(h.symm.of_dv ((Dv.refl b).mul c)).symm
theorem Df.right(h:Df a (Jo b c)):Df a c:=(h.symm.of_dv ((Dv.refl c).mul' b)).symm
theorem RM(a:List Rat):Dv [1] a:=⟨a,λx=>by simp[ev];grind⟩
theorem Nb:Jp [1]=[1]:=YT (Yu _) DL λx=>by rw[LJ];simp[cf,ev];grind
theorem Nc(hp:Jd p=p)(hq:Jd q=q)(h:Df p q):Jm p q=[1]:=by
 obtain⟨a,b,_⟩:=YM hp hq;obtain⟨u,v,e⟩:=h;exact Dv.eq (JK _ _) DL (YN hp hq) Nb (a.comb b u v λx=>by rw[<-e x];simp[ev];grind) (RM _)
theorem dG(hp:Jd p=p)(hq:Jd q=q)(a:Jm p q≠[]):Jm (Jt p (Jm p q)) (Jt q (Jm p q))=[1]:=
 Nc (J8 _ _) (J8 _ _) (LK hp hq a)
theorem dH(hp:Jd p=p)(hq:Jd q=q)(c:Jd r=r)(r0:r≠[])(u:p≠[]\/q≠[]):
 Dv r (Jm (Jo p r) (Jo q r))/\(Jt (Jm (Jo p r) (Jo q r)) r).length=(Jm p q).length:=by
 have d:=Jy p r;have f:=Jy q r;have k:Dv r (Jm (Jo p r) (Jo q r)):=KB d f ((Dv.refl r).mul' p) ((Dv.refl r).mul' q);refine⟨k,?_⟩;obtain⟨w,y,_⟩:=YM d f;obtain⟨n,o,_⟩:=YM hp hq;have e:=(JY c r0 k).2;obtain⟨z,l⟩:=ex (Jt (Jm (Jo p r) (Jo q r)) r);have g:Jd z=z:=by rw[<-l];exact J8 _ _
 rw[l]at e ⊢;have i:∀s:List Rat,Dv (Jm (Jo p r) (Jo q r)) (Jo s r)->Dv z s:=λs h=>by
  obtain⟨t,a⟩:=h;refine⟨t,λx=>?_⟩;have b:∀x,ev r x*ev s x=ev r x*ev (Jo z t) x:=λx=>by
   have:=a x;rw[Ji,e]at this;rw[Ji];grind
  rw[YF c r0 b x,Ji]
 have m:Dv z (Jm p q):=KB hp hq (i p w) (i q y);have B:Dv (Jm p q) z:=by
  have b:Dv (Jo (Jm p q) r) (Jm (Jo p r) (Jo q r)):=by
   refine KB d f ?_ ?_
   . obtain⟨t,a⟩:=n;exact⟨t,λx=>by rw[Ji,Ji,a];grind⟩
   . obtain⟨t,a⟩:=o;exact⟨t,λx=>by rw[Ji,Ji,a];grind⟩
  obtain⟨t,a⟩:=b;refine⟨t,λx=>?_⟩;have v:∀x,ev r x*ev z x=ev r x*ev (Jo (Jm p q) t) x:=λx=>by
   have:=a x;rw[Ji,e]at this;rw[Ji];grind
  rw[YF c r0 v x,Ji]
 have j:=XV hp hq u;have A:z≠[]:=(m.len g (JK _ _) j).2;have l1:=(m.len g (JK _ _) j).1;have l2:=(B.len (JK _ _) g A).1;omega
theorem Yun.part(h:Yun R w y):Df (Jm w (JE y (Je w))) (Je (Jm w (JE y (Je w))))/\Df (Jm w (JE y (Je w))) (Jt w (Jm w (JE y (Je w)))):=by
 obtain⟨b,c,_⟩:=YM h.tw (Yi y (Je w));have a:=h.step.2.2.2.2.2;obtain⟨P,f⟩:=ex (Jm w (JE y (Je w)));rw[f]at b c a ⊢;obtain⟨e,i⟩:=ex (Jt w P);rw[i]at a ⊢;have c1:Df P y:=h.cop.of_dv b;obtain⟨t,g⟩:=c;have c2:Df P (Je w):=c1.shift (d:=t) λx=>by
  have:=g x;rw[XP]at this;grind
 have c3:Df P (Jo (Je P) e):=c2.shift (d:=Je e) λx=>by
  have:=Bo (λr=>ev (Je r) x) a;simp only[Y9]at this;rw[Ji];exact this
 exact⟨c3.left,c3.right⟩
end
def Ds:List (List Rat × Nat)->Rat->Rat
 |[],_=>1
 |a::l,x=>ev a.1 x^a.2*Ds l x
theorem Nd(l m:List (List Rat × Nat))(x:Rat):Ds (l++m) x=Ds l x*Ds m x:=by
 induction l with
 |nil=>simp[Ds]
 |cons a l b=>simp only[AF,Ds,b];grind
theorem dI(a b:Rat)(n:Nat):(a*b)^n=a^n*b^n:=by
 induction n with
 |zero=>simp
 |succ n c=>rw[Rat.pow_succ,Rat.pow_succ,Rat.pow_succ,c];grind
theorem RO(n:Nat):(1:Rat)^n=1:=by
 induction n with
 |zero=>simp
 |succ n a=>rw[Rat.pow_succ,a];grind
section
variable {q w y:List Rat}
theorem RP(h:Yun q w y)(b:Jp q=q)(n:Nat):Jd (yP (DP w y n))=yP (DP w y n)/\Jp (yP (DP w y n))=yP (DP w y n)/\(DP w y n).1=Jo (yP (DP w y n)) (DP w y (n+1)).1/\
 Df (yP (DP w y n)) (Je (yP (DP w y n)))/\Df (yP (DP w y n)) (DP w y (n+1)).1/\D8 q w y n=Jo (DP w y n).1 (D8 q w y (n+1)):=by
 have a:=(Gc h b n).1;rw[dE h b n];obtain⟨_,_,_,c,_,d⟩:=a.step;obtain⟨c1,c2⟩:=a.part;exact⟨JK _ _,YN a.tw (Yi _ _),d,c1,c2,c⟩
theorem RQ(h:Yun q w y)(o:Jp q=q):∀N,(∀x∈yL w y N,1<x.1.length/\1<=x.2/\x.2<=N/\Df x.1 (Je x.1)/\Jd x.1=x.1/\Jp x.1=x.1/\Dv x.1 q/\Df x.1 (DP w y N).1)/\
 (yL w y N).Pairwise (λa b=>a.2<b.2/\Df a.1 b.1):=by
 intro N;induction N with
 |zero=>exact⟨λx c=>by simp[yL]at c,by simp[yL]⟩
 |succ N e=>
  obtain⟨s,t,i,u,v,_⟩:=RP h o N;have p:Dv (DP w y (N+1)).1 (DP w y N).1:=⟨yP (DP w y N),λx=>by
   have:=Bo (λr=>ev r x) i;simp only[Ji]at this;rw[this];exact Fw _ _⟩
  have g:Dv (yP (DP w y N)) (DP w y N).1:=⟨(DP w y (N+1)).1,λx=>by
   have:=Bo (λr=>ev r x) i;simp only[Ji]at this;exact this⟩
  rw[yL];refine⟨λx c=>?_,?_⟩
  . rcases C7.1 c with c|c
    . obtain⟨j,k,A,l,m,n,B,f⟩:=e.1 x c;exact⟨j,k,Y,l,m,n,B,(f.symm.of_dv p).symm⟩
    . split at c
      . next hl=>
        simp at c;subst c;exact⟨hl,O,Aa _,u,s,t,g.trans (Gc h o N).2.2.2,v⟩
      . simp at c
  . refine List.pairwise_append.2 ⟨e.2,by split<;>simp,λx c z d=>?_⟩;split at d
    . simp at d;subst d;obtain⟨j,k,A,l,m,n,_,f⟩:=e.1 x c;exact⟨by simp only;omega,(f.symm.of_dv g).symm⟩
    . simp at d
theorem dJ(h:Yun q w y)(b:Jp q=q)(x:Rat):∀N,ev q x=Ds (yL w y N) x*(ev (DP w y N).1 x^N*ev (D8 q w y N) x):=by
 intro N;induction N with
 |zero=>simp[yL,Ds,D8]
 |succ N o=>
  obtain⟨i,j,k,_,_,l⟩:=RP h b N;have d:=Bo (λr=>ev r x) k;have f:=Bo (λr=>ev r x) l;simp only[Ji]at d f;rw[o,yL,Nd];have e:Ds (if 1<(yP (DP w y N)).length then [(yP (DP w y N),N+1)]else []) x=ev (yP (DP w y N)) x^(N+1):=by
   split
   . simp[Ds]
   . next hl=>
     have n:yP (DP w y N)=[1]:=by
      have g:yP (DP w y N)≠[]:=XV (Gc h b N).1.tw (Yi _ _) (Or.inl (Gc h b N).1.w0);have a:=LN i g j;have:=Ai.2 g;generalize yP (DP w y N)=P at *;match P,hl,this,a with
      |[c],_,_,a=>simp[cf]at a;rw[a]
      |_::_::_,hl,_,_=>exact absurd O hl
     rw[n];have m:ev [1] x=1:=by simp[ev];grind
     rw[m,RO];rfl
  rw[e,f];have hp:(ev (DP w y N).1 x)^(N+1)=ev (yP (DP w y N)) x^(N+1)*ev (DP w y (N+1)).1 x^(N+1):=by rw[d,dI]
  rw[Rat.pow_succ]at hp;grind
theorem RR{a:List Rat}(ta:Jd a=a)(ma:Jp a=a)(d:a≠[])(hl:a.length<=1):a=[1]:=by
 have b:=LN ta d ma;have:=Ai.2 d;match a,hl,this,b with
 |[c],_,_,b=>simp[cf]at b;rw[b]
 |_::_::_,hl,_,_=>simp at hl
theorem dL(h:Yun q w y)(c:Jp q=q):∀N,(∀n,n<N->1<(DP w y n).1.length)->(D8 q w y N).length+N<=q.length:=by
 intro N;induction N with
 |zero=>intro _;exact Aa _
 |succ N b=>
  intro a;have d:=b λn f=>a n Y;have e:=NZ h c N (a N Y);omega
theorem RS(h:Yun q w y)(c:Jp q=q){N:Nat}(j:∀n,n<N->1<(DP w y n).1.length)(g:(DP w y N).1.length<=1):N+1<=q.length/\∀x,ev q x=Ds (yL w y N) x:=by
 obtain⟨a,_,i,_⟩:=Gc h c N;have e:=RR a.tw a.mw a.w0 g;have d:D8 q w y N=[1]:=by
  have f:Dv (D8 q w y N) (Je (D8 q w y N)):=⟨(DP w y N).2,λx=>by
   have:=a.eq x;rw[e]at this;have b:ev [1] x=1:=by simp[ev];grind
   rw[b]at this;grind⟩
  exact Dv.eq a.tR DL i Nb (NF a.tR a.R0 f) (RM _)
 have hl:=dL h c N j;refine⟨by rw[d]at hl;simp at hl;omega,λx=>?_⟩;have b:ev [1] x=1:=by simp[ev];grind
 rw[dJ h c x N,e,d,b,RO];grind
end
namespace M3
open Go.RowKit Go.Shelf
variable{L:List (List Rat × Nat)}{W e:List Rat}{i t:Nat}
theorem dM(f:Jd W=W)(W0:W≠[])(z:W.length<=25)(q:Cd 75 W):∃L:List (List Rat × Nat),L.length<=25/\
 (∀x∈L,1<x.1.length/\x.1.length<=25/\1<=x.2/\x.2+1<=W.length/\Df x.1 (Je x.1)/\Jd x.1=x.1/\Jp x.1=x.1/\Cd 80 x.1)/\
 L.Pairwise (λa b=>a.2<b.2/\Df a.1 b.1)/\(∀x,ev (Jp W) x=Ds L x)/\
 ∀(V:World) (x:Value),Jc V x W->Calls Tryz.prog 18 #[x] V λe p=>∃u,e=.returned u/\Y5 true V.heap.size p u L/\Bl V p:=by
 have c:Jp (Jp W)=Jp W:=I6 f;have lq:(Jp W).length=W.length:=Xm f;have q0:=LB f W0;have tq:=Yu W;have cq:Cd 75 (Jp W):=q.mon f;by_cases hl:1<W.length
 . obtain⟨N,l,A⟩:=dD f hl z q;have i:=Yun.start tq q0 c;have g:=XV tq (JV (Jp W)) (Or.inl q0);have j:=l.st;have k:=l.en;refine⟨Gs W N,?_,?_,?_,?_,λV x d=>Q5 174 8926 N x W V d l⟩
   . have:=Q4 (Db (Jp W) (Jm (Jp W) (Je (Jp W)))) (Db (Je (Jp W)) (Jm (Jp W) (Je (Jp W)))) N;unfold Gs;omega
   all_goals
    unfold Gs;rw[Gb g,Gb g]at j k;rw[Gb g,Gb g]
   . have C:=RS i c (λn m=>(j n m).1) k;intro x d;obtain⟨v,w,D,y,o,r,s,_⟩:=(RQ i c N).1 x d;have B:=(s.len o tq q0).1;exact⟨v,Y,w,Y,y,o,r,RK tq q0 Y cq o r s⟩
   . exact(RQ i c N).2
   . exact(RS i c (λn m=>(j n m).1) k).2
 . refine⟨[],O,O,O,λx=>?_,λV x d=>(RL x W V d Y).mono ?_⟩
   . rw[RR tq c q0 Y];simp[ev,Ds];grind
   . rintro e p ⟨rfl,t⟩;exact⟨_,rfl,Y5.nil _ _ _,t⟩
theorem RT(h:L[i]?=some (e,t))(x:Rat):Ds (L.take (i+1)) x=Ds (L.take i) x*ev e x^t:=by
 rw[List.take_add_one,Nd,h];simp[Ds]
theorem dN(h:L[i]?=some (e,t))(x:Rat):Ds L x=Ds (L.take i) x*ev e x^t*Ds (L.drop (i+1)) x:=by
 rw[<-RT h,<-Nd,Ch]
theorem dO:∀L:List (List Rat × Nat),∃c:List Rat,∀x,ev c x=Ds L x:=by
 have hp:∀(e:List Rat) (n:Nat),∃c:List Rat,∀x,ev c x=ev e x^n:=λe n=>by
  induction n with
  |zero=>exact⟨[1],λx=>by simp[ev];grind⟩
  |succ n f=>
   obtain⟨c,b⟩:=f;exact⟨Jo c e,λx=>by rw[Ji,b,Rat.pow_succ]⟩
 intro L;induction L with
 |nil=>exact⟨[1],λx=>by simp[ev,Ds];grind⟩
 |cons a L f=>
  obtain⟨c,b⟩:=f;obtain⟨d,g⟩:=hp a.1 a.2;exact⟨Jo d c,λx=>by rw[Ji,g,b];rfl⟩
theorem dP(a:Rat)(m n:Nat):a^(m+n)=a^m*a^n:=by
 induction n with
 |zero=>simp
 |succ n b=>rw[<-Fe,Rat.pow_succ,Rat.pow_succ,b];grind
theorem dQ(b:∀x,ev (Jp W) x=Ds L x)(h:L[i]?=some (e,t)){k:Nat}(g:k<=t){P:List Rat}(d:∀x,ev P x=Ds (L.take i) x*ev e x^k):Dv P (Jp W):=by
 obtain⟨c,f⟩:=dO ((e,t-k)::L.drop (i+1));refine⟨c,λx=>?_⟩;rw[b,dN h,d,f];show _=_*(ev e x^(t-k)*Ds (L.drop (i+1)) x);have a:ev e x^t=ev e x^k*ev e x^(t-k):=by
  rw[<-dP,Nat.add_sub_cancel' g]
 rw[a];grind
end M3
section
open Go.RowKit Go.Shelf
def KK(r:Bool)(base:Nat)(W:World)(g cap:Nat)(f:Nat->Int)(L:List (List Rat × Nat)):Prop:=
 base<=g/\(∃cs,W.heap[g]?=some (.cells cs (Dz r) (0,0)))/\L.length<=cap/\cap<=maxLen/\
  ∀j p t,L[j]?=some (p,t)->∃x,W.cell? ⟨g,j*2,none⟩=some x/\W.cell? ⟨g,j*2+1,none⟩=some (.int .i64 (f j))/\RowK r W x p
def GI(L:List (List Rat × Nat))(j:Nat):Int:=match L[j]? with|some x=>(x.2:Int)|none=>0
section
variable {r:Bool} {base:Nat} {W W':World} {v:Value} {g cap:Nat} {f:Nat->Int} {L:List (List Rat × Nat)}
theorem Y5.toT(h:Y5 r base W v L)(d:L≠[]):∃g cap,v=.slice (some ⟨g,0,none⟩) L.length cap/\KK r base W g cap (GI L) L:=by
 rcases h with⟨_,h⟩|⟨g,cap,a,f,i,b,k,l,w,m⟩
 . exact absurd h d
 . refine⟨g,cap,f,i,⟨a,b⟩,k,l,λj p t e=>?_⟩;obtain⟨x,q,s,u⟩:=m.2 j p t e;have y:j<L.length:=(Af.1 e).1;have c:∀o,o<L.length*2->W.cell? ⟨g,o,none⟩=(a.toList.take (L.length*2))[o]?:=λo n=>by
    rw[AX n];simp[World.cell?,b]
   exact⟨x,(c _ Y).trans q,(c _ Y).trans (s.trans (by unfold GI;rw[e])),u⟩
theorem KK.lt(h:KK r base W g cap f L):g<W.heap.size:=by
 obtain⟨_,⟨cs,a⟩,_⟩:=h;exact(Ae.1 a).1
theorem KK.far(h:KK r base W g cap f L)(o:Nat)(u:Value):GC r W (W.setCell ⟨g,o,none⟩ u):=λB _ b=>by
 obtain⟨_,⟨cs,a⟩,_⟩:=h;exact BC W ⟨g,o,none⟩ u B λe=>b cs (0,0) (by rw[show B=g from e];exact a)
end
end
open Go.RowKit Go.Shelf
variable{a b g:List Rat}{K:Nat}
theorem Y5.zero{r:Bool}{base:Nat}{V:World}{v:Value}{L:List (List Rat × Nat)}(h:Y5 r base V v L):Y5 r 0 V v L:=by
 rcases h with h|⟨g,cap,a,b,d,c⟩
 . exact Or.inl h
 . exact Or.inr ⟨g,cap,a,b,AK _,c⟩
theorem RU(ta:Jd a=a)(tb:Jd b=b){n:Nat}(h:a.length+b.length<=n+1):(Jo a b).length<=n:=by
 by_cases c:a=[]
 . rw[c];exact AK _
 . by_cases b0:b=[]
   . rw[b0,Yw];exact AK _
   . have:=JD ta tb c b0;omega
theorem dR{q:List Rat}(tq:Jd q=q)(q0:q≠[])(lq:q.length<=25)(cq:Cd K q)(b:Jd g=g)(d:Jp g=g)(h:Dv g q):Cd (K+5) g:=by
 have c:=Dv.lnN (n:=24) (e:=5) tq q0 Y KJ cq.ln b h;have a:=I9 b c Y;rw[d]at a;exact a
theorem RV{p:List Rat}(tp:Jd p=p)(lp:p.length<=25)(cp:Cd K p)(b:Jd g=g)(n:Jp g=g)(a:g≠[])(h:Dv g p):Cd (K+(K+5)) (Jt p g)/\(Jt p g).length<=p.length:=by
 have o:=cp.pos;by_cases d:p=[]
 . have e:Jt p g=[]:=by
    rw[d];refine Y4 (J8 _ _) λx=>?_;have k:=(JY b a (Dv.zero g)).2;have l:∀x,ev g x*ev (Jt [] g) x=ev g x*ev [] x:=λx=>by rw[<-k x];simp[ev]
    rw[YF b a l x];rfl
   rw[e];refine⟨⟨1,DL,Sm.mono (show Sm 1 1 by unfold Sm;decide) Y,λi=>by rw[Yx];exact CD.zero _ _⟩,O⟩
 . have ex:=(JY b a h).2;have e:p=Jo g (Jt p g):=YT tp (Jy _ _) λx=>by rw[Ji,ex]
   have x0:Jt p g≠[]:=λj=>d (by rw[e,j,Yw]);have c:=J8 p g;have f:Dv (Jt p g) p:=⟨g,λx=>by rw[ex,Fw]⟩;have ln:=(f.len c tp d).1;have hl:=LM b c a x0;rw[<-e,KC b a n,FM]at hl;have m:Dv (Jp (Jt p g)) p:=(Dv.of_sc (IW (Jw c x0)) f);have c1:=dR tp d lp cp (Yu _) (I6 c) m;have c2:=c1.scale cp (p.length-1);rw[hl,<-(RJ c x0).2]at c2;exact⟨c2.mono Y,ln⟩
open M3
theorem RW{α:Type}{R:α->α->Prop}{L:List α}(h:L.Pairwise R){i j:Nat}(f:i<j){a b:α}(c:L[i]?=some a)(d:L[j]?=some b):R a b:=by
 obtain⟨e,rfl⟩:=Af.1 c;obtain⟨g,rfl⟩:=Af.1 d;exact List.pairwise_iff_getElem.1 h i j e g f
theorem dS(ta:Jd a=a)(h:cf a (a.length-1)=1):Jp a=a:=
 YT (Yu _) ta λx=>by rw[LJ,h];grind
theorem dT(ta:Jd a=a)(tb:Jd b=b)(c:a≠[])(b0:b≠[])(ma:Jp a=a)(mb:Jp b=b):Jp (Jo a b)=Jo a b/\Jo a b≠[]:=by
 have h:=LM ta tb c b0;rw[KC ta c ma,KC tb b0 mb]at h;refine⟨dS (Jy _ _) (by rw[h];grind),λe=>?_⟩;have d:=JD ta tb c b0;have:=Ai.2 c;have:=Ai.2 b0;rw[e]at d;simp at d;omega
def PrM(L:List (List Rat × Nat))(k:Nat)(e:List Rat)(m:Nat)(P:List Rat):Prop:=
 Jd P=P/\P≠[]/\Jp P=P/\∀x,ev P x=Ds (L.take k) x*ev e x^m
def Gd(L:List (List Rat × Nat))(k:Nat)(P:List Rat):Prop:=
 Jd P=P/\P≠[]/\Jp P=P/\∀x,ev P x=Ds (L.take k) x
section
variable {L:List (List Rat × Nat)} {k m t:Nat} {e P W:List Rat}
theorem Gd.zero:Gd L 0 [1]:=⟨DL,DL,Nb,λx=>by simp[Ds,ev];grind⟩
theorem Gd.start(h:Gd L k P)(e:List Rat):PrM L k e 0 P:=⟨h.1,h.2.1,h.2.2.1,λx=>by rw[h.2.2.2];simp⟩
theorem PrM.fin(h:PrM L k e t P)(a:L[k]?=some (e,t)):Gd L (k+1) P:=⟨h.1,h.2.1,h.2.2.1,λx=>by rw[h.2.2.2,RT a]⟩
theorem PrM.next(h:PrM L k e m P)(l:Jd e=e)(a:e≠[])(j:Jp e=e):PrM L k e (m+1) (Jo P e):=by
 obtain⟨b,c,d,f⟩:=h;obtain⟨g,i⟩:=dT b l c a d j;refine⟨Jy _ _,i,g,λx=>?_⟩;rw[Ji,f,Rat.pow_succ];grind
theorem PrM.cd(h:PrM L k e m P)(a:Jd W=W)(W0:W≠[])(p:W.length<=25)(d:Cd 75 W)(i:∀x,ev (Jp W) x=Ds L x)(j:L[k]?=some (e,t))(l:m<=t):Cd 80 P/\P.length<=25:=by
 obtain⟨b,n,f,g⟩:=h;have c:=dQ i j l g;have q:(Jp W).length=W.length:=Xm a;have q0:=LB a W0;have o:=(c.len b (Yu _) q0).1;exact⟨RK (Yu _) q0 Y (d.mon a) b f c,Y⟩
theorem Gd.whole(h:Gd L L.length P)(a:∀x,ev (Jp W) x=Ds L x):P=Jp W:=
 YT h.1 (Yu _) λx=>by rw[h.2.2.2,a,Ag (Aa _)]
theorem RX(a:Jd W=W)(W0:W≠[]):(Jt W (Jp W)).length=1/\JZ W (Jp W)=[]:=by
 have q0:=LB a W0;have b:=Yu W;obtain⟨c0,cb⟩:=RJ a W0;have g:Dv (Jp W) W:=⟨[cf W (W.length-1)],λx=>by
  conv=>lhs;rw[cb]
  rw[Yq];simp[ev];grind⟩
 obtain⟨d,f⟩:=JY b q0 g;refine⟨?_,d⟩;have e:W=Jo (Jp W) (Jt W (Jp W)):=YT a (Jy _ _) λx=>by rw[Ji,f]
 have x0:Jt W (Jp W)≠[]:=λc=>W0 (by rw[e,c,Yw]);have hl:=JD b (J8 W (Jp W)) q0 x0;rw[<-e,Xm a]at hl;have:=Ai.2 x0;have:=Ai.2 W0;omega
end
namespace M3
def Eo(V:World)(g c:Nat)(L:List (List Rat × Nat))(j:Nat)(x:Value)(e:List Rat):Prop:=
 D7 0 V (.slice (some ⟨g,0,none⟩) L.length c) L/\V.cell? ⟨g,j*2,none⟩=some x/\RowK true V x e
section
variable {V V':World} {g c j:Nat} {L:List (List Rat × Nat)} {x:Value} {e:List Rat}
theorem D7.lt(h:D7 0 V (.slice (some ⟨g,0,none⟩) L.length c) L)(d:L≠[]):g<V.heap.size:=by
 obtain⟨e,c1,b,T⟩:=Y5.toT h d;injection b with a
 injection a with a
 injection a with a
 subst a;exact T.lt
theorem Eo.below(h:Eo V g c L j x e)(a:Bl V V'):Eo V' g c L j x e:=
 ⟨h.1.below a,(a.cell (p:=⟨g,_,none⟩) (World.block_lt_of_cell? V ⟨g,_,none⟩ h.2.1)).trans h.2.1,h.2.2.below a⟩
theorem Eo.drew(h:Eo V g c L j x e):Eo V.drew g c L j x e:=h.below ((BE _ V).drew)
theorem Eo.alloc(h:Eo V g c L j x e)(o:Obj):Eo (V.alloc o) g c L j x e:=h.below (Ba V o)
theorem Eo.set1(h:Eo V g c L j x e){B:Nat}{a:Option Addr}{l d:Nat}(q:Boxed V B 25 (.slice a l d))(p:JG (.slice a l d)=true)(k:Value):Eo (V.setCell ⟨B,0,none⟩ k) g c L j x e:=by
 have m:g≠B:=by
  rcases h.1 with⟨f,_⟩|⟨s,cap,r,f,_,i,_⟩
  . injection f with b
    cases b
  . injection f with b
    injection b with b
    injection b with b
    subst b;intro n;subst n;have o:V.heap[g]?=some (.cells #[.slice a l d] 25 (0,0)):=q;rw[o]at i;simp only[Al,Bn]at i;have:=i.2.1;revert this;decide
 exact⟨h.1.set1 q p k,(JW m).trans h.2.1,EY q k h.2.2⟩
end
end M3

