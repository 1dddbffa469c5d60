import Derived.Test.YteldjhhjnchdeaaGreatDoorW47
set_option maxRecDepth 100000
set_option maxHeartbeats 16000000
namespace Go.Proofs.YteldjhhjnchdeaaGreatDoor
section
variable{P R a b g p q:List Rat}{K M l n:Nat}{r:Nat->Int}{c:Rat}
theorem cD:∀D:Nat,1<D->∃l,1<l/\l∣D/\∀a:Nat,¬l∣a->Nat.gcd l a=1:=by
 intro D;induction D using Nat.strongRecOn with
 |ind D i=>
  intro hD;by_cases h:∀d,d∣D->d=1\/d=D
  . refine⟨D,hD,Nat.dvd_refl _,λa f=>?_⟩;rcases h _ (Fg D a)with e|e
    . exact e
    . exact absurd (e ▸ CR D a) f
  . obtain⟨d,g⟩:=Classical.not_forall.1 h;obtain⟨b,c⟩:=Classical.not_imp.1 g;have k:d≠1/\d≠D:=⟨λe=>c (Or.inl e),λe=>c (Or.inr e)⟩;have m:d<=D:=Nat.le_of_dvd Z b;have n:d≠0:=λe=>by subst e;have:=Nat.zero_dvd.1 b;omega
    obtain⟨l,l1,l2,j⟩:=i d Z Z;exact⟨l,l1,Nat.dvd_trans l2 b,j⟩
theorem NS{P:Nat->Prop}(h:∃a,P a):∃a,P a/\∀i,i<a->¬P i:=by
 obtain⟨a,d⟩:=h;induction a using Nat.strongRecOn with
 |ind a f=>
  by_cases h:∃i,i<a/\P i
  . obtain⟨i,b,c⟩:=h;exact f i b c
  . exact⟨a,d,λi e hp=>h ⟨i,e,hp⟩⟩
theorem cF{l:Int}{f:Nat->Int}{a:Nat}:∀n,a<n->(∀i,i<n->i≠a->l∣f i)->l∣Ye n f->l∣f a:=by
 have g:∀n,(∀i,i<n->l∣f i)->l∣Ye n f:=λn=>by
  induction n with
  |zero=>exact λ_=>Int.dvd_zero _
  |succ n c=>exact λh=>by rw[Ye];exact Int.dvd_add (c λi d=>h i Z) (h n Z)
 intro n;induction n with
 |zero=>intro h;omega
 |succ n c=>
  intro m h hs;rw[Ye]at hs;by_cases e:a=n
  . subst e;have k:=g a λi d=>h i Z Z;have b:=Int.dvd_sub hs k;rwa[show Ye a f+f a-Ye a f=f a by omega]at b
  . refine c Z (λi d=>h i Z) ?_;have b:=Int.dvd_sub hs (h n Z λj=>e j.symm);rwa[show Ye n f+f n-f n=Ye n f by omega]at b
theorem cH(hl:∀a:Nat,¬l∣a->Nat.gcd l a=1){s:Nat->Int}(p:∀i,n<=i->r i=0)(h:∀k,(l:Int)∣Ye n λi=>if i<=k then r i*s (k-i)else 0)(o:∃a,¬(l:Int)∣r a)(hs:∃b,¬(l:Int)∣s b):False:=by
 obtain⟨a,e,g⟩:=NS o;obtain⟨b,j,m⟩:=NS hs;have f:a<n:=by
  by_cases c:a<n
  . exact c
  . exact absurd (by rw[p a Z];exact Int.dvd_zero _) e
 have c:=cF n f (λi q t=>by
  split
  . by_cases d:i<a
    . exact Int.dvd_trans (Classical.not_not.1 (g i d)) (Int.dvd_mul_right _ _)
    . exact Int.dvd_trans (Classical.not_not.1 (m (a+b-i) Z)) (Int.dvd_mul_left _ _)
  . exact Int.dvd_zero _) (h (a+b))
 rw[BJ Z,show a+b-a=b by omega,CW]at c;exact j (dvd_one c (by rw[AC];exact hl _ λd=>e (CI.2 d)))
theorem cI{L G:Int}(M:∀i,((cf p i).den:Int)∣L)(N:∀u:Int,(∀i,((cf p i).den:Int)∣u)->L∣u)(I:∀i,G∣(cf p i).num)(K:∀v:Int,(∀i,v∣(cf p i).num)->v∣G)(H:G≠0)(Q:∀i,∃z:Int,cf p i*c=(z:Rat)):
 ∃t:Int,∀i,∃r:Int,cf p i*((L:Rat)/(G:Rat))=(r:Rat)/\cf p i*c=((r*t:Int):Rat):=by
 have y:(c.den:Int)≠0:=by have:=c.den_nz;omega
 have j:∀i,∃z:Int,cf p i*c=(z:Rat)/\(cf p i).num*c.num=z*((cf p i).den*c.den):=λi=>by
  obtain⟨z,b⟩:=Q i;refine⟨z,b,?_⟩;have B:c*(c.den:Rat)=(c.num:Rat):=Ge c;have a:cf p i*((cf p i).den:Rat)=((cf p i).num:Rat):=Ge _;have C:(((cf p i).num*c.num:Int):Rat)=((z*(((cf p i).den:Int)*(c.den:Int)):Int):Rat):=by
   rw[Ax,Ax,Ax,AM,AM,<-B,<-a,<-b];grind
  exact Rat.intCast_inj.1 C
 have l:L∣c.num:=N _ λi=>by
  obtain⟨z,_,e⟩:=j i;have g:((cf p i).den:Int)∣(cf p i).num*c.num:=⟨z*c.den,by rw[e,Int.mul_left_comm]⟩;rw[CW]at g;refine dvd_one g ?_;rw[AC,CY];exact(cf p i).reduced
 have n:(c.den:Int)∣G:=K _ λi=>by
  obtain⟨z,_,e⟩:=j i;have g:(c.den:Int)∣(cf p i).num*c.num:=⟨z*(cf p i).den,by rw[e,<-Fp,CW]⟩;refine dvd_one g ?_;rw[AC,CY];exact c.reduced
 obtain⟨u,l⟩:=l;obtain⟨v,n⟩:=n;refine⟨u*v,λi=>?_⟩;obtain⟨e,s⟩:=M i;obtain⟨m,w⟩:=I i;obtain⟨z,D,b⟩:=j i;have P:((cf p i).den:Int)≠0:=by have:=(cf p i).den_nz;omega
 have A:z=m*e*(u*v):=by
  have E:z*(((cf p i).den:Int)*c.den)=m*e*(u*v)*(((cf p i).den:Int)*c.den):=by
   rw[<-b,w,l,n,s];generalize ((cf p i).den:Int)=d;generalize (c.den:Int)=f;grind
  exact Int.eq_of_mul_eq_mul_right (Cv P y) E
 refine⟨m*e,?_,by rw[D,A]⟩;have o:(G:Rat)≠0:=by exact_mod_cast H
 have a:cf p i*((cf p i).den:Rat)=((cf p i).num:Rat):=Ge _;rw[w,Ax]at a;have x:(L:Rat)=((cf p i).den:Rat)*(e:Rat):=by rw[s,Ax,AM]
 have k:(L:Rat)/(G:Rat)*(G:Rat)=L:=A4 o;have F:(cf p i*((L:Rat)/(G:Rat))-((m*e:Int):Rat))*(G:Rat)=0:=by
  rw[Ax];generalize (L:Rat)/(G:Rat)=f at k ⊢;rw[x]at k;generalize ((cf p i).den:Rat)=d at a k;grind
 rcases C8.1 F with q|q
 . grind
 . exact absurd q o
theorem RC(hp:Jd p=p)(e:p≠[])(l:∀i,∃z:Int,cf p i*c=(z:Rat)):∃t:Int,∀i,∃r:Int,cf (J1 p) i=(r:Rat)/\cf p i*c=((r*t:Int):Rat):=by
 have b:∀i,p.length<=i->cf p i=0:=λi a=>J6 a;obtain⟨t,g⟩:=cI (p:=p) (L:=(YM p p.length:Int)) (G:=(YD p p.length:Int)) (λi=>by
  by_cases a:i<p.length
  . exact Int.natCast_dvd_natCast.2 (My p _ i a)
  . rw[b i Z];exact Int.one_dvd _) (λu j=>CI.2 (Mz p _ (λi=>CI.1 (j i)) _)) (λi=>by
  by_cases a:i<p.length
  . exact CI.2 (NA p _ i a)
  . rw[b i Z];exact Int.dvd_zero _) (λv k=>by
  have:v.natAbs∣YD p p.length:=QJ p _ (λi=>FB.2 (k i)) _;exact Int.natAbs_dvd.1 (Int.natCast_dvd_natCast.2 this)) (by have:=KA hp e;omega) l
 refine⟨t,λi=>?_⟩;obtain⟨r,d,f⟩:=g i;refine⟨r,?_,f⟩;unfold J1;rw[Yi];rw[AM,AM]at d;exact d
theorem RD(hp:Jd p=p)(m:p≠[])(o:∀i,cf (J1 p) i=(r i:Rat))(hl:1<l):∃i,¬(l:Int)∣r i:=by
 by_cases h:∃i,¬(l:Int)∣r i
 . exact h
 . exfalso
   have u:∀i,(l:Int)∣r i:=λi=>Classical.not_not.1 λb=>h ⟨i,b⟩;have d:(l:Rat)≠0:=by exact_mod_cast (show l≠0 by omega)
   obtain⟨c,n,e⟩:=Gf hp;have w:c≠0:=λg=>by rw[g]at n;exact absurd n DL
   have f:∀i,cf p i*c=(r i:Rat):=λi=>by rw[<-Yi,<-e,o]
   obtain⟨t,D⟩:=RC hp m (c:=c/(l:Rat)) (λi=>by
    obtain⟨q,hq⟩:=u i;refine⟨q,?_⟩;have b:c/(l:Rat)*(l:Rat)=c:=A4 d;have j:=f i;rw[hq,Ax,AM]at j;have a:(cf p i*(c/(l:Rat))-(q:Rat))*(l:Rat)=0:=by grind
    rcases C8.1 a with k|k
    . grind
    . exact absurd k d)
   obtain⟨E,b,j⟩:=D (p.length-1);have s:=Jw hp m;have x:E=r (p.length-1):=Rat.intCast_inj.1 (by rw[<-b,o]);have v:r (p.length-1)≠0:=λg=>by
    have a:=f (p.length-1);rw[g]at a;exact XM s w a
   have a:=f (p.length-1);have k:c/(l:Rat)*(l:Rat)=c:=A4 d;have y:((r (p.length-1):Int):Rat)=(((r (p.length-1))*(t*(l:Int)):Int):Rat):=by
    rw[<-a,Ax,Ax,AM];rw[x,Ax]at j;grind
   have z:=Rat.intCast_inj.1 y;have A:t*(l:Int)=1:=by
    have B:r (p.length-1)*1=r (p.length-1)*(t*(l:Int)):=by rw[Int.mul_one];exact z
    exact(Int.eq_of_mul_eq_mul_left v B).symm
   have C:(l:Int)∣1:=⟨t,by rw[CW];exact A.symm⟩;have F:=Int.le_of_dvd DL C;omega
theorem NT(hp:Jd p=p)(b:p≠[]):∀i,∃r:Int,cf (J1 p) i=(r:Rat):=by
 obtain⟨t,k⟩:=RC hp b (c:=(YM p p.length:Rat)) (λi=>by
  have f:(cf p i).den∣YM p p.length:=by
   by_cases j:i<p.length
   . exact My p _ i j
   . rw[J6 Z];exact Nat.one_dvd _
  obtain⟨e,g⟩:=f;refine⟨(cf p i).num*(e:Int),?_⟩;have a:cf p i*((cf p i).den:Rat)=((cf p i).num:Rat):=Ge _;rw[g,Ax,<-a,AM,Rat.natCast_mul];grind)
 intro i;obtain⟨r,d,_⟩:=k i;exact⟨r,d⟩
theorem cL(B:Jd P=P)(u:P≠[])(T:∀i,∃z:Int,cf P i=(z:Rat))(p:Jd g=g)(h:Dv g P):
 ∃H:List Rat,Jd H=H/\P=Jp (J1 g) H/\∀i,∃z:Int,cf H i=(z:Rat):=by
 have y:g≠[]:=λe=>u (by
  obtain⟨c,j⟩:=h;exact Y4 B λx=>by rw[j,e];simp[ev])
 obtain⟨M,C,N⟩:=Gf p;have F:M≠0:=λm=>by rw[m]at C;exact absurd C DL
 have R:Dv (J1 g) P:=by rw[N];exact h.of_sc F
 obtain⟨H,f,o⟩:=R.some B;have t:H≠[]:=λe=>u (by rw[o,e];exact Yw _);refine⟨H,f,o,?_⟩;obtain⟨c,j,w⟩:=Gf f;have K:c≠0:=λm=>by rw[m]at j;exact absurd j DL
 obtain⟨r,q⟩:=Classical.axiomOfChoice (NT p y);obtain⟨s,hs⟩:=Classical.axiomOfChoice (NT f t);obtain⟨z,U⟩:=Classical.axiomOfChoice T;have D:Da c P=Jp (J1 g) (J1 H):=by
  refine YU (JP _ _) (Jy _ _) λx=>?_;have a:ev P x=ev (J1 g) x*ev H x:=by rw[<-Jj,<-o]
  rw[Yr,Jj,w,Yr,a];grind
 have I:∀k,(z k:Rat)*c=((Ye (J1 g).length (λi=>if i<=k then r i*s (k-i)else 0):Int):Rat):=λk=>by
  rw[<-U k,<-Yi,D,LH _ _ (Aa _)];refine Mx λi _=>?_;split
  . rw[q,hs,Ax]
  . rfl
 have v:c*(c.den:Rat)=(c.num:Rat):=Ge c;have E:∀k,z k*c.num=(c.den:Int)*Ye (J1 g).length (λi=>if i<=k then r i*s (k-i)else 0):=λk=>by
  have a:((z k*c.num:Int):Rat)=(((c.den:Int)*Ye (J1 g).length (λi=>if i<=k then r i*s (k-i)else 0):Int):Rat):=by
   rw[Ax,Ax,<-I k,AM,<-v];grind
  exact Rat.intCast_inj.1 a
 have L:c.num≠0:=λe=>K (FH.1 e);have G:c.num.natAbs=1:=by
  by_cases a:c.num.natAbs=1
  . exact a
  . exfalso
    have A:c.num.natAbs≠0:=Int.natAbs_ne_zero.2 L;obtain⟨l,l1,l2,V⟩:=cD c.num.natAbs Z;refine cH V (r:=r) (s:=s) (n:=(J1 g).length) (λi S=>?_) (λk=>?_) (RD p y q l1) (RD f t hs l1)
    . have b:=q i;rw[J6 S]at b;exact(Rat.intCast_inj.1 (show((0:Int):Rat)=_ from b)).symm
    . have b:(l:Int)∣(c.den:Int)*Ye (J1 g).length (λi=>if i<=k then r i*s (k-i)else 0):=by
       rw[<-E k];exact Int.dvd_trans (CI.2 l2) (Int.dvd_mul_left _ _)
      rw[CW]at b;refine dvd_one b ?_;rw[AC,AC];have d:Nat.gcd l c.den∣Nat.gcd c.num.natAbs c.den:=Nat.dvd_gcd (Nat.dvd_trans (Fg _ _) l2) (CR _ _);have Q:Nat.gcd c.num.natAbs c.den=1:=c.reduced;rw[Q]at d;exact Nat.dvd_one.1 d
 intro i;refine⟨s i*(c.den:Int)*c.num,?_⟩;have a:cf H i*c=(s i:Rat):=by rw[<-hs,w,Yi]
 have A:(c.num:Rat)*(c.num:Rat)=1:=by
  rw[<-Ax];have b:c.num*c.num=1:=by
   rcases Int.natAbs_eq c.num with e|e<;>(rw[G]at e;rw[e];rfl)
  rw[b];rfl
 rw[Ax,Ax,AM,<-a];have d:cf H i*c*(c.den:Rat)*(c.num:Rat)=cf H i*(c.num*c.num:Rat):=by rw[Rat.mul_assoc (cf H i),v,Rat.mul_assoc]
 rw[d,A,Rat.mul_one]
def Du:List Int->Int->Int
 |[],_=>0
 |c::t,x=>c+x*Du t x
def cz(g:List Int)(i:Nat):Int:=g[i]?.getD 0
theorem RE(i:Nat):cz [] i=0:=rfl
theorem LS(c:Int)(t:List Int):cz (c::t) 0=c:=rfl
theorem KM(c:Int)(t:List Int)(i:Nat):cz (c::t) (i+1)=cz t i:=rfl
theorem NU{g:List Int}{i:Nat}(h:g.length<=i):cz g i=0:=by unfold cz;rw[AP h];rfl
def Yo:List Int->Int->List Int × Int
 |[],_=>([],0)
 |c::t,k=>((Yo t k).2::(Yo t k).1,c+k*(Yo t k).2)
theorem NW(k x:Int):∀g:List Int,Du g x=(x-k)*Du (Yo g k).1 x+(Yo g k).2:=by
 intro g;induction g with
 |nil=>simp[Du,Yo]
 |cons c t a=>rw[Du,Yo,a];simp only[Du];grind
theorem RF(k:Int)(g:List Int):(Yo g k).2=Du g k:=by
 have h:=NW k k g;rw[Int.sub_self,Int.zero_mul,Int.zero_add]at h;exact h.symm
theorem NX(k:Int):∀(g:List Int),cz g 0=(Yo g k).2-k*cz (Yo g k).1 0/\∀i,cz g (i+1)=cz (Yo g k).1 i-k*cz (Yo g k).1 (i+1):=by
 intro g;induction g with
 |nil=>exact⟨by simp[RE,Yo],λi=>by simp[RE,Yo]⟩
 |cons c t a=>
  rw[Yo];refine⟨by rw[LS,LS];omega,λi=>?_⟩;cases i with
  |zero=>rw[KM,LS,KM];exact a.1
  |succ i=>rw[KM,KM,KM];exact a.2 i
theorem RG(k:Int)(g:List Int){m:Nat}(h:∀i,m+1<=i->cz g i=0):∀i,m<=i->cz (Yo g k).1 i=0:=by
 have b:∀d i,m<=i->(Yo g k).1.length<=i+d->cz (Yo g k).1 i=0:=λd=>by
  induction d with
  |zero=>intro i _ c;exact NU Z
  |succ d j=>
   intro i a c;have e:=j (i+1) Z Z;have f:=(NX k g).2 i;rw[h (i+1) Z,e,Int.mul_zero]at f;omega
 intro i a;exact b (Yo g k).1.length i a Z
theorem cM:∀(m:Nat) (g:List Int),(∀i,m<=i->cz g i=0)->(∃i,cz g i≠0)->∀b:List Int,b.Nodup->(∀k∈b,Du g k=0)->b.length<m:=by
 intro m;induction m with
 |zero=>intro g h ⟨i,s⟩;exact absurd (h i Z) s
 |succ m u=>
  intro g h ⟨t,c⟩ b e o;cases b with
  |nil=>simp
  |cons a b=>
   rw[List.nodup_cons]at e;have q:(Yo g a).2=0:=by rw[RF];exact o a J
   have hq:∃i,cz (Yo g a).1 i≠0:=by
    by_cases f:∃i,cz (Yo g a).1 i≠0
    . exact f
    . exfalso
      have d:∀i,cz (Yo g a).1 i=0:=λi=>Classical.not_not.1 λr=>f ⟨i,r⟩;have j:=NX a g;cases t with
      |zero=>rw[j.1,q,d]at c;simp at c
      |succ i=>rw[j.2,d,d]at c;simp at c
   have v:=u (Yo g a).1 (RG a g h) hq b e.2 (λk p=>by
    have l:=NW a k g;rw[o k (by simp[p]),q,Int.add_zero]at l;rcases Int.mul_eq_zero.1 l.symm with n|n
    . exact absurd (show k∈b from p) λw=>e.1 (by rwa[show a=k by omega])
    . exact n)
   simp only[Ao];omega
theorem cN(B:Nat):∀(m:Nat) (g:List Int) (M:Nat),(∀i,m<=i->cz g i=0)->∀b:List Int,b.Nodup->b.length=m->(∀k∈b,(Du g k).natAbs<=M/\k.natAbs<=B)->∀i,(cz g i).natAbs<=M*(2*B+3)^m:=by
 intro m;induction m with
 |zero=>intro g M h b _ _ _ i;rw[h i Z];simp
 |succ m v=>
  intro g M h b f hl o i;cases b with
  |nil=>simp at hl
  |cons a b=>
   rw[List.nodup_cons]at f;obtain⟨p,q⟩:=o a J;have D:((Yo g a).2).natAbs<=M:=by rw[RF];exact p
   have hq:=v (Yo g a).1 (2*M) (RG a g h) b f.2 (by simpa using hl) (λk u=>by
    obtain⟨n,c⟩:=o k (by simp[u]);refine⟨?_,c⟩;have z:=NW a k g;have r:(k-a)*Du (Yo g a).1 k=Du g k-(Yo g a).2:=Z
    have s:(k-a).natAbs*(Du (Yo g a).1 k).natAbs<=2*M:=by
     rw[<-Cr,r];omega
    have t:0<(k-a).natAbs:=Int.natAbs_pos.2 λe=>f.1 (by rwa[show a=k by omega]);exact Aw (C0 _ t) s)
   obtain⟨X,d⟩:∃X,2*M*(2*B+3)^m=X:=⟨_,rfl⟩;rw[d]at hq;have A:2*M<=X:=by rw[<-d];exact Cb _ (CA Z)
   have C:X+B*X<=M*(2*B+3)^(m+1):=by
    have e:M*(2*B+3)^(m+1)*2=X*(2*B+3):=by rw[<-d,AY];grind
    have w:X*(2*B+3)=2*(B*X)+3*X:=by grind
    omega
   have j:∀y:Int,(a*y).natAbs<=B*y.natAbs:=λy=>by rw[Cr];exact Am _ q
   have l:=NX a g;cases i with
   |zero=>
    rw[l.1];have n:=j (cz (Yo g a).1 0);have c:B*(cz (Yo g a).1 0).natAbs<=B*X:=As _ (hq 0);omega
   |succ i=>
    rw[l.2];have n:=j (cz (Yo g a).1 (i+1));have c:B*(cz (Yo g a).1 (i+1)).natAbs<=B*X:=As _ (hq (i+1));have x:=hq i;omega
theorem cO{B:Nat}:∀(g:List Int) (k:Int),(∀i,(cz g i).natAbs<=M)->k.natAbs<=B->(Du g k).natAbs<=M*(B+1)^g.length:=by
 intro g;induction g with
 |nil=>intro k _ _;simp[Du]
 |cons c t l=>
  intro k h e;have b:=l k (λi=>h (i+1)) e;have j:=h 0;rw[LS]at j;rw[Du,Ao,AY];obtain⟨a,d⟩:=ex ((B+1)^t.length);rw[d]at b ⊢;have f:1<=a:=by rw[<-d];exact CA Z
  have m:(k*Du t k).natAbs<=B*(M*a):=by rw[Cr];exact Cz e b
  have n:M<=M*a:=Cb _ f;have o:M*(a*(B+1))=M*a+B*(M*a):=by grind
  have p:=FD c (k*Du t k);omega
def KN(g:List Int):List Rat:=g.map (λz:Int=>(z:Rat))
theorem NY(g:List Int)(i:Nat):cf (KN g) i=(cz g i:Rat):=by
 unfold cf KN cz;rw[CZ];cases g[i]? with
 |none=>rfl
 |some z=>rfl
theorem NZ(k:Int):∀g:List Int,ev (KN g) (k:Rat)=(Du g k:Rat):=by
 intro g;induction g with
 |nil=>rfl
 |cons c t a=>
  show(c:Rat)+(k:Rat)*ev (KN t) (k:Rat)=_;rw[a,Du,FI,Ax]
theorem Na(h:∀i,∃z:Int,cf p i=(z:Rat)):∃g:List Int,p=KN g/\g.length=p.length:=by
 induction p with
 |nil=>exact⟨[],rfl,rfl⟩
 |cons c t e=>
  obtain⟨g,b,d⟩:=e (λi=>by have:=h (i+1);rwa[J4]at this);obtain⟨z,a⟩:=h 0;rw[YK]at a;exact⟨z::g,by rw[a,b];rfl,by simp[d]⟩
theorem nodup_range(n:Nat):((List.range n).map (λi:Nat=>(i:Int))).Nodup:=by
 refine List.Pairwise.map _ ?_ (List.nodup_range (n:=n));intro a b h e;exact h Z
theorem cT(y:Jd P=P)(f:P≠[])(hl:P.length<=n+1)(t:∀i,∃z:Int,z.natAbs<=M/\cf P i=(z:Rat))(A:Jd g=g)(h:Dv g P):
 ∀i,∃z:Int,z.natAbs<=M*(2*n+1)^(n+1)*(2*(2*n)+3)^(n+1)/\cf (J1 g) i=(z:Rat):=by
 obtain⟨H,L,j,N⟩:=cL y f (λi=>by obtain⟨z,_,c⟩:=t i;exact⟨z,c⟩) A h;have K:g≠[]:=λe=>f (by rw[j,e];rfl);have u:H≠[]:=λe=>f (by rw[j,e];exact Yw _);obtain⟨a,o,lp⟩:=Na (p:=P) (λi=>by obtain⟨z,_,c⟩:=t i;exact⟨z,c⟩);obtain⟨m,x,lg⟩:=Na (NT A K);obtain⟨Q,I,lh⟩:=Na N;have ad:(J1 g).length<=n+1:=by
  have b:=JD (XY g) L (λe=>f (by rw[j,e];rfl)) u;rw[<-j]at b;have c:0<H.length:=Aj.2 u;omega
 have F:∀i,(cz a i).natAbs<=M:=λi=>by
  obtain⟨z,b,c⟩:=t i;rw[o,NY]at c;rwa[Rat.intCast_inj.1 c]
 have v:∀k:Int,Du a k=Du m k*Du Q k:=λk=>by
  have b:ev P (k:Rat)=ev (J1 g) (k:Rat)*ev H (k:Rat):=by rw[<-Jj,<-j]
  rw[o,x,I,NZ,NZ,NZ,<-Ax]at b;exact Rat.intCast_inj.1 b
 obtain⟨R,q⟩:=ex ((List.range (2*n+1)).map (λi:Nat=>(i:Int)));have w:R.Nodup:=by rw[<-q];exact nodup_range _
 have W:R.length=2*n+1:=by rw[<-q];simp
 have D:∀k∈R,k.natAbs<=2*n:=λk d=>by
  rw[<-q]at d;obtain⟨i,s,rfl⟩:=FG.1 d;have:=List.mem_range.1 s;omega
 have X:(R.filter λk=>Du a k==0).length<n+1:=by
  refine cM (n+1) a (λi s=>NU Z) ?_ _ (w.filter _) (λk d=>by
   have:=(Fm.1 d).2;simpa using this)
  refine⟨P.length-1,λe=>Jw y f ?_⟩;have b:=NY a (P.length-1);rw[<-o,e]at b;exact b
 have ae:(R.filter λk=>Du a k==0).length+(R.filter λk=>!(Du a k==0)).length=R.length:=by
  rw[<-List.countP_eq_length_filter,<-List.countP_eq_length_filter];have b:=List.length_eq_countP_add_countP (l:=R) λk=>Du a k==0;have c:List.countP (λk=>!(Du a k==0)) R=List.countP (λk=>decide ¬((Du a k==0)=true)) R:=by congr 1;funext k;cases(Du a k==0)<;>rfl
  omega
 obtain⟨S,r⟩:=ex ((R.filter λk=>!(Du a k==0)).take (n+1));have C:S.length=n+1:=by rw[<-r,Ap];omega
 have E:S.Nodup:=by rw[<-r];exact List.Sublist.nodup (List.take_sublist _ _) (w.filter _)
 have G:∀k∈S,Du a k≠0/\k.natAbs<=2*n:=λk d=>by
  rw[<-r]at d;have b:=Fm.1 (FF d);refine⟨?_,D k b.1⟩;have:=b.2;simpa using this
 have B:=cN (2*n) (n+1) m (M*(2*n+1)^(n+1)) (λi s=>NU Z) S E C (λk d=>by
  obtain⟨b,c⟩:=G k d;refine⟨?_,c⟩;have T:=cO a k F c;have U:M*(2*n+1)^a.length<=M*(2*n+1)^(n+1):=As _ (Az Z Z);have V:(Du m k).natAbs<=(Du a k).natAbs:=by
   rw[v k,Cr];refine Cb _ (Int.natAbs_pos.2 λe=>b ?_);rw[v k,e,Int.mul_zero]
  omega)
 intro i;exact⟨cz m i,B i,by rw[x,NY]⟩
theorem Ln.mul{N:Nat}(hp:Ln K p)(hq:Ln N q)(hl:p.length<=1000000):Ln (K+N+1) (Jp p q):=by
 obtain⟨c,l,b⟩:=hp;obtain⟨d,m,a⟩:=hq;obtain⟨z,b⟩:=Classical.axiomOfChoice b;obtain⟨y,a⟩:=Classical.axiomOfChoice a;refine⟨c*d,XM l m,λk=>⟨Ye p.length λi=>if i<=k then z i*y (k-i)else 0,?_,?_⟩⟩
 . have e:(Ye p.length λi=>if i<=k then z i*y (k-i)else 0).natAbs<=p.length*(Y^K*Y^N):=LC λi _=>by
    split
    . rw[Cr];have g:=(b i).1;have j:=(a (k-i)).1;unfold Sm at g j;exact Cz Z Z
    . simp
   unfold Sm;rw[AY,CE];have f:0<Y^K*Y^N:=FK (CA GQ) (CA GQ);refine Cf e ?_;rw[Av];exact(Nat.mul_lt_mul_left f).2 uo
 . rw[LH p q (Aa _)];have e:∀n,Dk n (λi=>if i<=k then cf p i*cf q (k-i)else 0)*(c*d)=((Ye n (λi=>if i<=k then z i*y (k-i)else 0):Int):Rat):=λn=>by
    induction n with
    |zero=>simp[Dk,Ye,Rat.zero_mul]
    |succ n o=>
     rw[Dk,Ye,FI,<-o];split
     . rw[Ax,<-(b n).2,<-(a (k-n)).2];grind
     . rw[show((0:Int):Rat)=0 from rfl];grind
   exact e _
theorem Ln.slope(h:Ln K p)(hl:p.length<=1000000):Ln (K+1) (Je p):=by
 obtain⟨c,d,e⟩:=h;refine⟨c,d,λi=>?_⟩;obtain⟨z,a,b⟩:=e (i+1);rw[Xr];by_cases f:i+1<p.length
 . refine⟨z*((i+1:Nat):Int),a.mul (by unfold Sm Y;rw[AC];omega),?_⟩;rw[Ax,<-b];grind
 . exact⟨0,Sm.zero _,by rw[J6 Z,Cx,Cx];rfl⟩
theorem Dv.lnN{e:Nat}(b:Jd P=P)(s:P≠[])(hl:P.length<=n+1)(F:(2*n+1)^(n+1)*(2*(2*n)+3)^(n+1)<=Y^e)(G:Ln K P)(r:Jd g=g)(h:Dv g P):Ln (K+e) g:=by
 obtain⟨c,p,o⟩:=Gf b;have v:c≠0:=λf=>by rw[f]at p;exact absurd p DL
 have C:J1 P≠[]:=by rw[o];exact IV v b s
 have D:Dv g (J1 P):=by rw[o];exact h.sc c
 have x:=IX b G;have y:=cT (n:=n) (M:=Y^K-1) (XY P) C (by rw[Y3 b];omega) (λi=>by
  obtain⟨z,j,k⟩:=x i;unfold Sm at j;exact⟨z,Z,k⟩) r D
 have A:EL (K+e) (J1 g):=λi=>by
  obtain⟨z,j,k⟩:=y i;refine⟨z,?_,k⟩;unfold Sm;have I:0<Y^K:=CA GQ;have t:0<Y^e:=CA GQ;have a:(Y^K-1)*((2*n+1)^(n+1)*(2*(2*n)+3)^(n+1))<=(Y^K-1)*Y^e:=As _ F;rw[<-AG]at a;have l:(Y^K-1)*Y^e<Y^K*Y^e:=(Nat.mul_lt_mul_right t).2 Z;rw[CE];exact Cf j (Cf a l)
 obtain⟨m,q,w⟩:=Gf r;have u:m≠0:=λf=>by rw[f]at q;exact absurd q DL
 have a:=A.ln;rw[w]at a;obtain⟨d,E,H⟩:=a;refine⟨m*d,XM u E,λi=>?_⟩;obtain⟨z,l,B⟩:=H i;exact⟨z,l,by rw[<-B,Yi];grind⟩
theorem KO:(2*24+1)^(24+1)*(2*(2*24)+3)^(24+1)<=Y^5:=by unfold Y;decide
theorem cU:(2*47+1)^(47+1)*(2*(2*47)+3)^(47+1)<=Y^11:=by unfold Y;decide
theorem Dv.len(g:Jd a=a)(i:Jd b=b)(b0:b≠[])(h:Dv a b):a.length<=b.length/\a≠[]:=by
 obtain⟨c,j,e⟩:=h.some i;have f:a≠[]:=λd=>b0 (by rw[e,d];rfl);have c0:c≠[]:=λd=>b0 (by rw[e,d];exact Yw _);have l:=JD g j f c0;rw[<-e]at l;have:0<c.length:=Aj.2 c0;exact⟨Z,f⟩
theorem LT(d:Jd a=a)(e:Jd b=b)(c:a≠[])(b0:b≠[]):cf (Jp a b) ((Jp a b).length-1)=cf a (a.length-1)*cf b (b.length-1):=by
 have l:=JD d e c b0;have f:0<a.length:=Aj.2 c;have g:0<b.length:=Aj.2 b0;rw[l,show a.length+b.length-1-1=(a.length-1)+(b.length-1)by omega];unfold Jp;rw[Yd];exact Le a b (a.length-1) (b.length-1) Z Z
theorem cV(c:Jd R=R)(hl:1<R.length):(Je R).length=R.length-1/\cf (Je R) ((Je R).length-1)=cf R (R.length-1)*(((R.length-1:Nat):Int):Rat):=by
 have R0:R≠[]:=λe=>by rw[e]at hl;simp at hl
 have d:=YR R0;have b:cf (Je R) (R.length-2)≠0:=by
  rw[Xr,show R.length-2+1=R.length-1 by omega];exact XM (Jw c R0) (by
   intro e;have:((R.length-1:Nat):Int)=0:=by exact_mod_cast e
   omega)
 have f:=QE b;have a:(Je R).length=R.length-1:=Z
 refine⟨a,?_⟩;rw[a,Xr,show R.length-1-1+1=R.length-1 by omega]
theorem LU(tq:Jd q=q)(q0:q≠[])(a:Jq q=q):cf q (q.length-1)=1:=by
 have:=LK tq q0;rwa[a]at this
theorem RH{w y:List Rat}(tq:Jd q=q)(q0:q≠[])(lq:q.length<=25)(l:Ln K q)(tR:Jd R=R)(I:Jq R=R)(tw:Jd w=w)(mw:Jq w=w)(ty:Jd y=y)(g:Dv R q)(j:Dv w q)
(G:∀x,ev y x*ev R x=ev w x*ev (Je R) x):∃D:Int,D≠0/\Sm (2*K+24) D/\D9 D (2*K+24) y:=by
 by_cases a:y=[]
 . subst a;exact NE Z
 . obtain⟨Q,R0⟩:=g.len tR tq q0;obtain⟨T,w0⟩:=j.len tw tq q0;have c:Jp y R=Jp w (Je R):=YU (Jy _ _) (Jy _ _) λx=>by rw[Jj,Jj,G]
   have m:Jp w (Je R)≠[]:=by rw[<-c];exact NI ty tR a R0
   have f:Je R≠[]:=λe=>m (by rw[e];exact Yw _);have C:1<R.length:=by
    have L:0<(Je R).length:=Aj.2 f;have:=YR R0;omega
   obtain⟨S,H⟩:=cV tR C;have A:Ln (K+5) R:=g.lnN (n:=24) tq q0 Z KO l tR;have v:Ln (K+5) w:=j.lnN (n:=24) tq q0 Z KO l tw;have u:=v.mul (A.slope Z) Z;have P:=JD tw (JV R) w0 f;have z:Dv y (Jp w (Je R)):=⟨R,λx=>by rw[<-c,Jj]⟩;have B:=z.lnN (n:=47) (e:=11) (Jy _ _) m Z cU u ty;have b:=LT ty tR a R0;have t:=LT tw (JV R) w0 f;rw[c]at b;rw[t,H,LU tw w0 mw,LU tR R0 I]at b;have s:cf y (y.length-1)=(((R.length-1:Nat):Int):Rat):=by
    rw[FL,FL,Rat.mul_one]at b;exact b.symm
   obtain⟨E,o,p,r⟩:=NB ty a B;refine⟨E,o,p.mono Z,λi=>?_⟩;have F:cf y i=cf (Jq y) i*(((R.length-1:Nat):Int):Rat):=by
    unfold Jq;rw[Yi,<-s];have N:(1/cf y (y.length-1))*cf y (y.length-1)=1:=A4 (Jw ty a);grind
   rw[F];have k:=(r i).mul (E:=1) (M:=1) (d:=(((R.length-1:Nat):Int):Rat)) ⟨((R.length-1:Nat):Int),by rw[Cs,show((1:Int):Rat)=1 from rfl];grind,by unfold Sm Y;rw[AC];omega⟩;rw[Int.mul_one]at k;exact k.mono Z
def EB(q w y:List Rat):Nat->List Rat
 |0=>q
 |n+1=>Jt (EB q w y n) (DP w y n).1
theorem Gi(h:q≠[]):Df p q=Jt p q:=BH h
section
variable {q w y:List Rat}
theorem Gj(h:Yun q w y)(m:Jq q=q):∀n,Yun (EB q w y n) (DP w y n).1 (DP w y n).2/\Dv (EB q w y n) q/\Jq (EB q w y n)=EB q w y n/\Dv (DP w y n).1 q:=by
 intro n;induction n with
 |zero=>exact⟨h,Dv.refl _,m,h.dv⟩
 |succ n l=>
  obtain⟨a,g,i,j⟩:=l;obtain⟨_,_,o,p,_,s⟩:=a.step;have c:Jn (DP w y n).1 (JE (DP w y n).2 (Je (DP w y n).1))≠[]:=XV a.tw (Yj _ _) (Or.inl a.w0);have e:(DP w y (n+1)).1=Jt (DP w y n).1 (Jn (DP w y n).1 (JE (DP w y n).2 (Je (DP w y n).1))):=by rw[DP];unfold Ia;exact Gi c
  have f:(DP w y (n+1)).2=Jt (JE (DP w y n).2 (Je (DP w y n).1)) (Jn (DP w y n).1 (JE (DP w y n).2 (Je (DP w y n).1))):=by rw[DP];unfold Ia;exact Gi c
  have k:Dv (Jt (EB q w y n) (DP w y n).1) (EB q w y n):=by
   refine⟨(DP w y n).1,λx=>?_⟩;have b:=Bo (λr=>ev r x) p;simp only[Jj]at b;rw[b];exact Fw _ _
  have d:Dv (Jt (DP w y n).1 (Jn (DP w y n).1 (JE (DP w y n).2 (Je (DP w y n).1)))) (DP w y n).1:=by
   refine⟨Jn (DP w y n).1 (JE (DP w y n).2 (Je (DP w y n).1)),λx=>?_⟩;have b:=Bo (λr=>ev r x) s;simp only[Jj]at b;exact b.trans (Fw _ _)
  rw[e,f];exact⟨o,k.trans g,(NJ a.tR a.R0 i a.tw a.mw a.dv).1,d.trans j⟩
theorem Nb(h:Yun q w y)(c:Jq q=q)(n:Nat)(f:1<(DP w y n).1.length):(EB q w y (n+1)).length<(EB q w y n).length:=by
 obtain⟨a,_,e,_⟩:=Gj h c n;obtain⟨_,_,b,d,_,_⟩:=a.step;have l:=JD a.tw (J9 (EB q w y n) (DP w y n).1) a.w0 b.R0;rw[<-d]at l;rw[EB];have:0<(Jt (EB q w y n) (DP w y n).1).length:=Aj.2 b.R0;omega
theorem cZ(h:Yun q w y)(f:Jq q=q):∃N,N<=q.length/\(DP w y N).1.length<=1/\∀n,n<N->1<(DP w y n).1.length:=by
 have l:∃N,(DP w y N).1.length<=1:=by
  by_cases b:∃N,(DP w y N).1.length<=1
  . exact b
  . exfalso
    have g:∀n,1<(DP w y n).1.length:=λn=>by
     by_cases i:1<(DP w y n).1.length
     . exact i
     . exact absurd ⟨n,Z⟩ b
    have a:∀n,(EB q w y n).length+n<=q.length:=λn=>by
     induction n with
     |zero=>exact Aa _
     |succ n e=>have:=Nb h f n (g n);omega
    have j:=a (q.length+1);omega
 obtain⟨N,k,c⟩:=NS l;have a:∀n,n<=N->(EB q w y n).length+n<=q.length:=λn=>by
  induction n with
  |zero=>exact λ_=>Aa _
  |succ n e=>
   intro d;have j:=c n Z;have:=Nb h f n Z;have:=e Z;omega
 exact⟨N,by have:=a N (Aa _);omega,k,λn d=>by have:=c n d;omega⟩
end
theorem cg{p:List Rat}(tp:Jd p=p)(hl:1<p.length)(af:p.length<=25)(cp:Cd 75 p):∃N,PtOk 174 8926 N p/\N<=25:=by
 obtain⟨q,hq⟩:=ex (Jq p);have tq:Jd q=q:=by rw[<-hq];exact Yu _
 have k:Jq q=q:=by rw[<-hq];exact Jx tp
 have lq:q.length=p.length:=by rw[<-hq];exact Xq tp
 have q0:q≠[]:=λe=>by rw[e]at lq;simp at lq;omega
 have cq:Cd 75 q:=by rw[<-hq];exact cp.mon tp
 have ah:=YR q0;have cs:Cd 76 (Je q):=by
  obtain⟨D,d1,o,r⟩:=cq;refine⟨D,d1,o.mono Z,λi=>?_⟩;rw[Xr];by_cases hi:i+1<q.length
  . have c:=(r (i+1)).mul (E:=1) (M:=1) (d:=(((i+1:Nat):Int):Rat)) ⟨((i+1:Nat):Int),by rw[Cs,show((1:Int):Rat)=1 from rfl];grind,by unfold Sm Y;rw[AC];omega⟩;rwa[Int.mul_one]at c
  . rw[J6 Z,Cx];exact CD.zero _ _
 have C:∀a b:List Rat,Jd a=a->Jd b=b->Cd 174 a->Cd 174 b->a.length<=25->b.length<=25->M3.ChOk 174 a b/\Dm 174 a b<=8926:=λa b ta tb ca cb la lb=>by
  have c:Dm 174 a b<=(174+1)*(25+25+1):=As _ Z;have s:(max a.length b.length+2)*(Dm 174 a b+1)<=(25+2)*((174+1)*(25+25+1)+1):=Cz Z Z;exact⟨⟨ta,tb,ca,cb,Z,Z⟩,Z⟩
 have v:∀n:Nat,n<=25->2*((n+3)*(8926+1))<=1000000:=λn K=>by
  have:(n+3)*(8926+1)<=(25+3)*(8926+1):=Am _ Z;omega
 have F:=XV tq (JV q) (Or.inl q0);obtain⟨w,z⟩:=ex (Df q (Jn q (Je q)));obtain⟨y,A⟩:=ex (Df (Je q) (Jn q (Je q)));have u:Yun q w y:=by
  rw[<-z,<-A,Gi F,Gi F];exact Yun.start tq q0 k
 obtain⟨N,hN,ad,ae⟩:=cZ u k;refine⟨N,?_,Z⟩;have c0:=C q (Je q) tq (JV _) (cq.mono Z) (cs.mono Z) Z Z;refine⟨tp,cp.mono Z,by rw[hq];exact c0.1,by rw[hq];exact c0.2,v _ Z,hl,Z,?_,by rw[hq,z,A];exact ad⟩;rw[hq,z,A];intro n K;refine⟨ae n K,?_⟩;obtain⟨c,s,H,g⟩:=Gj u k n;obtain⟨s1,s2,f,s4,B,s6⟩:=c.step;obtain⟨k1,P,Q,k4⟩:=Gj u k (n+1);obtain⟨a,j⟩:=ex ((DP w y n).1);obtain⟨b,I⟩:=ex ((DP w y n).2);obtain⟨R,t⟩:=ex (EB q w y n);have W:EB q w y (n+1)=Jt R a:=by rw[EB,t,j]
 rw[W]at P Q;rw[j,I,t]at c f B;rw[t]at s H;rw[j]at g;rw[j,I];have la:=(g.len c.tw tq q0).1;have l:=cq.ln;have m:Cd 80 a:=by
  have h5:=g.lnN (n:=24) tq q0 Z KO l c.tw;have:=KC c.tw (h5.mono (L:=80) Z) Z;rwa[c.mw]at this
 have V:=RH tq q0 Z l c.tR H c.tw c.mw c.ty s g c.eq;have X:Cd 174 b:=(show Cd (2*75+24) b from V).mono Z;have U:=RH tq q0 Z l f.tR Q c.tw c.mw (Yj _ _) P g B;have G:Cd 174 (JE b (Je a)):=(show Cd (2*75+24) (JE b (Je a))from U).mono Z;have cS:Cd 81 (Je a):=by
  obtain⟨D,d1,o,r⟩:=m;refine⟨D,d1,o.mono Z,λi=>?_⟩;rw[Xr];by_cases hi:i+1<a.length
  . have h6:=(r (i+1)).mul (E:=1) (M:=1) (d:=(((i+1:Nat):Int):Rat)) ⟨((i+1:Nat):Int),by rw[Cs,show((1:Int):Rat)=1 from rfl];grind,by unfold Sm Y;rw[AC];omega⟩;rwa[Int.mul_one]at h6
  . rw[J6 Z,Cx];exact CD.zero _ _
 have S:(JE b (Je a)).length<=25:=by
  by_cases T:JE b (Je a)=[]
  . rw[T];simp
  . have e1:Jp (JE b (Je a)) (Jt R a)=Jp a (Je (Jt R a)):=YU (Jy _ _) (Jy _ _) λx=>by rw[Jj,Jj,B]
    have l1:=JD (Yj b (Je a)) f.tR T f.R0;have l2:=Mv a (Je (Jt R a));have l3:=YR f.R0;rw[e1]at l1;have:0<(Jt R a).length:=Aj.2 f.R0;omega
 have c1:=C a (JE b (Je a)) c.tw (Yj _ _) (m.mono Z) G Z S;exact⟨c1.1,c.ty,m.mono Z,cS.mono Z,X.mono Z,G.mono Z,c1.2,v _ Z,v _ S⟩
end
section
def Nc(p w y:List Rat):Nat->List Rat
 |0=>p
 |n+1=>Jt (Nc p w y n) (DP w y n).1
section
variable {p q w y:List Rat}
theorem dA(h:Yun q w y)(c:Jq q=q)(n:Nat):(DP w y (n+1)).1=Jt (DP w y n).1 (yP (DP w y n)):=by
 obtain⟨a,_⟩:=Gj h c n;have b:Jn (DP w y n).1 (JE (DP w y n).2 (Je (DP w y n).1))≠[]:=XV a.tw (Yj _ _) (Or.inl a.w0);rw[DP];unfold Ia yP;exact Gi b
end
variable{p:List Rat}
theorem RI(tp:Jd p=p)(a:p≠[]):cf p (p.length-1)≠0/\p=Da (cf p (p.length-1)) (Jq p):=by
 have h:=Jw tp a;refine⟨h,?_⟩;unfold Jq;rw[LD,show 1/cf p (p.length-1)*cf p (p.length-1)=1 by grind,IU tp]
theorem RJ{q g:List Rat}(tq:Jd q=q)(q0:q≠[])(lq:q.length<=25)(cq:Cd 75 q)(a:Jd g=g)(c:Jq g=g)(h:Dv g q):Cd 80 g:=by
 have b:=h.lnN (n:=24) tq q0 Z KO cq.ln a;have:=KC a (b.mono (L:=80) Z) Z;rwa[c]at this
theorem Cd.scale{A B:Nat}{r:List Rat}(hp:Cd A p)(f:Cd B r)(i:Nat):Cd (A+B) (Da (cf r i) p):=by
 obtain⟨D,d1,a,b⟩:=hp;obtain⟨E,c,d,e⟩:=f;exact⟨D*E,Cv d1 c,a.mul d,λj=>by rw[Yi];exact(b j).mul (e i)⟩
theorem dB{M:Nat}(h:Cd M p)(hl:p.length<=25):Cd (M+1) (Je p):=by
 obtain⟨D,d1,a,b⟩:=h;refine⟨D,d1,a.mono Z,λi=>?_⟩;rw[Xr];by_cases e:i+1<p.length
 . have c:=(b (i+1)).mul (E:=1) (M:=1) (d:=(((i+1:Nat):Int):Rat)) ⟨((i+1:Nat):Int),by rw[Cs,show((1:Int):Rat)=1 from rfl];grind,by unfold Sm Y;rw[AC];omega⟩;rwa[Int.mul_one]at c
 . rw[J6 Z,Cx];exact CD.zero _ _
structure StR(K M:Nat)(r f:List Rat):Prop where
 tr:Jd r=r
 cr:Cd M r
 tf:Jd f=f
 f0:f≠[]
 mf:Jq f=f
 ca:Cd M f
 lr:(r.length+3)*(M+1)<=1000000
 lf:(f.length+3)*(M+1)<=1000000
 r1:r.length<=1000
 f1:f.length<=1000
 ch:M3.ChOk K f (Jt r f)
structure ReOk(K M N:Nat)(p w y:List Rat):Prop where
 fr:M3.FrOk K p
 w0:Hu p=w
 nN:N<=1000000
 st:∀n,n<N->1<(DP w y n).1.length/\StR K M (Nc p w y n) (DP w y n).1/\Cd M (DP w y (n+1)).1/\Jd (DP w y (n+1)).1=(DP w y (n+1)).1/\(DP w y (n+1)).1≠[]/\Jq (DP w y (n+1)).1=(DP w y (n+1)).1/\
  Jn (DP w y n).1 (Nc p w y (n+1))=(DP w y (n+1)).1/\Jt (DP w y n).1 (DP w y (n+1)).1=yP (DP w y n)/\Jq (yP (DP w y n))=yP (DP w y n)/\
  Jd (yP (DP w y n))=yP (DP w y n)/\Cd M (yP (DP w y n))/\(yP (DP w y n)).length<=25
 en:(DP w y N).1.length<=1
end
namespace M3
open Go.RowKit Go.Shelf
attribute [local go_sem] Oper.semAt_some
theorem RK(v:Value)(p:List Rat)(w:World)(h:Jc w v p)(hl:p.length<=1):
 Calls Tryz.prog 18 #[v] w λe s=>e=.returned (.slice none 0 0)/\Bl w s:=by
 have l:(p.length:Int)-1<1:=Z
 obtain⟨d0,c⟩:=ex ((p.length:Int)-1:Int);rw[c]at l;have n:=O c;have m:=O λ(V:World) (x:Value) (r:List Rat) (o:Jc V x r)=>Yb x r V o;obtain⟨j,la,k,rfl⟩:=h.form;have d:=(Mem.nil w).push (.poly p) (cs:=#[.slice j la k]) h;obtain⟨W0,b⟩:=ex (w.alloc (.cells #[.slice j la k] 25));have g:=O b;have f:Hid (Mem w W0 [some (w.heap.size,.poly p)]):=O (by rw[<-b];exact d);clear d b h c hl;go_enter Tryz.func18,Tryz.ntmps18
 go_upto_region 1 with fail
 rw[g.o];clear g;obtain⟨t,l1,c1,q,r1⟩:=f.o.poly2 (i:=0) rfl;have u:=q.cell;have a:=O (m.o W0 _ p r1);rw[n.o]at a;go_wp2_with(go_at_call 20;refine a.o.mono ?_;clear a;rintro e y ⟨rfl,hq⟩)
 go_ret;exact⟨rfl,(f.o.below hq).2.2⟩
end M3
section
variable {a b c d p q r w y R:List Rat}
theorem Dj.shift(h:Dj a b)(f:∀x,ev b x=ev c x+ev a x*ev d x):Dj a c:=by
 obtain⟨u,v,e⟩:=h;refine⟨XZ u (Jp v d),v,λx=>?_⟩;rw[Y6,Jj];have:=e x;rw[f]at this;grind
theorem Dj.left(h:Dj a (Jp b c)):Dj a b:=(h.symm.of_dv ((Dv.refl b).mul c)).symm
theorem Dj.right(h:Dj a (Jp b c)):Dj a c:=(h.symm.of_dv ((Dv.refl c).mul' b)).symm
theorem RL(a:List Rat):Dv [1] a:=⟨a,λx=>by simp[ev];grind⟩
theorem Nd:Jq [1]=[1]:=YU (Yu _) DL λx=>by rw[LQ];simp[cf,ev];grind
theorem Nf(hp:Jd p=p)(hq:Jd q=q)(h:Dj p q):Jn p q=[1]:=by
 obtain⟨a,b,_⟩:=YN hp hq;obtain⟨u,v,e⟩:=h;exact Dv.eq (JK _ _) DL (YO hp hq) Nd (a.comb b u v λx=>by rw[<-e x];simp[ev];grind) (RL _)
theorem dC(hp:Jd p=p)(hq:Jd q=q)(a:Jn p q≠[]):Jn (Jt p (Jn p q)) (Jt q (Jn p q))=[1]:=
 Nf (J9 _ _) (J9 _ _) (LR hp hq a)
theorem dD(hp:Jd p=p)(hq:Jd q=q)(c:Jd r=r)(r0:r≠[])(u:p≠[]\/q≠[]):
 Dv r (Jn (Jp p r) (Jp q r))/\(Jt (Jn (Jp p r) (Jp q r)) r).length=(Jn p q).length:=by
 have d:=Jy p r;have f:=Jy q r;have k:Dv r (Jn (Jp p r) (Jp q r)):=KG d f ((Dv.refl r).mul' p) ((Dv.refl r).mul' q);refine⟨k,?_⟩;obtain⟨w,y,_⟩:=YN d f;obtain⟨n,o,_⟩:=YN hp hq;have e:=(JY c r0 k).2;obtain⟨z,l⟩:=ex (Jt (Jn (Jp p r) (Jp q r)) r);have g:Jd z=z:=by rw[<-l];exact J9 _ _
 rw[l]at e ⊢;have i:∀s:List Rat,Dv (Jn (Jp p r) (Jp q r)) (Jp s r)->Dv z s:=λs h=>by
  obtain⟨t,a⟩:=h;refine⟨t,λx=>?_⟩;have b:∀x,ev r x*ev s x=ev r x*ev (Jp z t) x:=λx=>by
   have:=a x;rw[Jj,e]at this;rw[Jj];grind
  rw[YG c r0 b x,Jj]
 have m:Dv z (Jn p q):=KG hp hq (i p w) (i q y);have B:Dv (Jn p q) z:=by
  have b:Dv (Jp (Jn p q) r) (Jn (Jp p r) (Jp q r)):=by
   refine KG d f ?_ ?_
   . obtain⟨t,a⟩:=n;exact⟨t,λx=>by rw[Jj,Jj,a];grind⟩
   . obtain⟨t,a⟩:=o;exact⟨t,λx=>by rw[Jj,Jj,a];grind⟩
  obtain⟨t,a⟩:=b;refine⟨t,λx=>?_⟩;have v:∀x,ev r x*ev z x=ev r x*ev (Jp (Jn p q) t) x:=λx=>by
   have:=a x;rw[Jj,e]at this;rw[Jj];grind
  rw[YG c r0 v x,Jj]
 have j:=XV hp hq u;have A:z≠[]:=(m.len g (JK _ _) j).2;have l1:=(m.len g (JK _ _) j).1;have l2:=(B.len (JK _ _) g A).1;omega
theorem Yun.part(h:Yun R w y):Dj (Jn w (JE y (Je w))) (Je (Jn w (JE y (Je w))))/\Dj (Jn w (JE y (Je w))) (Jt w (Jn w (JE y (Je w)))):=by
 obtain⟨b,c,_⟩:=YN h.tw (Yj y (Je w));have a:=h.step.2.2.2.2.2;obtain⟨P,f⟩:=ex (Jn w (JE y (Je w)));rw[f]at b c a ⊢;obtain⟨e,i⟩:=ex (Jt w P);rw[i]at a ⊢;have c1:Dj P y:=h.cop.of_dv b;obtain⟨t,g⟩:=c;have c2:Dj P (Je w):=c1.shift (d:=t) λx=>by
  have:=g x;rw[XO]at this;grind
 have c3:Dj P (Jp (Je P) e):=c2.shift (d:=Je e) λx=>by
  have:=Bo (λr=>ev (Je r) x) a;simp only[Xb]at this;rw[Jj];exact this
 exact⟨c3.left,c3.right⟩
end
def Dy:List (List Rat × Nat)->Rat->Rat
 |[],_=>1
 |a::l,x=>ev a.1 x^a.2*Dy l x
theorem Ng(l m:List (List Rat × Nat))(x:Rat):Dy (l++m) x=Dy l x*Dy m x:=by
 induction l with
 |nil=>simp[Dy]
 |cons a l b=>simp only[AE,Dy,b];grind
theorem dE(a b:Rat)(n:Nat):(a*b)^n=a^n*b^n:=by
 induction n with
 |zero=>simp
 |succ n c=>rw[Rat.pow_succ,Rat.pow_succ,Rat.pow_succ,c];grind
theorem RM(n:Nat):(1:Rat)^n=1:=by
 induction n with
 |zero=>simp
 |succ n a=>rw[Rat.pow_succ,a];grind
section
variable {q w y:List Rat}
theorem RO(h:Yun q w y)(b:Jq q=q)(n:Nat):Jd (yP (DP w y n))=yP (DP w y n)/\Jq (yP (DP w y n))=yP (DP w y n)/\(DP w y n).1=Jp (yP (DP w y n)) (DP w y (n+1)).1/\
 Dj (yP (DP w y n)) (Je (yP (DP w y n)))/\Dj (yP (DP w y n)) (DP w y (n+1)).1/\EB q w y n=Jp (DP w y n).1 (EB q w y (n+1)):=by
 have a:=(Gj h b n).1;rw[dA h b n];obtain⟨_,_,_,c,_,d⟩:=a.step;obtain⟨c1,c2⟩:=a.part;exact⟨JK _ _,YO a.tw (Yj _ _),d,c1,c2,c⟩
theorem RP(h:Yun q w y)(o:Jq q=q):∀N,(∀x∈yL w y N,1<x.1.length/\1<=x.2/\x.2<=N/\Dj x.1 (Je x.1)/\Jd x.1=x.1/\Jq x.1=x.1/\Dv x.1 q/\Dj x.1 (DP w y N).1)/\
 (yL w y N).Pairwise (λa b=>a.2<b.2/\Dj a.1 b.1):=by
 intro N;induction N with
 |zero=>exact⟨λx c=>by simp[yL]at c,by simp[yL]⟩
 |succ N e=>
  obtain⟨s,t,i,u,v,_⟩:=RO h o N;have p:Dv (DP w y (N+1)).1 (DP w y N).1:=⟨yP (DP w y N),λx=>by
   have:=Bo (λr=>ev r x) i;simp only[Jj]at this;rw[this];exact Fw _ _⟩
  have g:Dv (yP (DP w y N)) (DP w y N).1:=⟨(DP w y (N+1)).1,λx=>by
   have:=Bo (λr=>ev r x) i;simp only[Jj]at this;exact this⟩
  rw[yL];refine⟨λx c=>?_,?_⟩
  . rcases C7.1 c with c|c
    . obtain⟨j,k,A,l,m,n,B,f⟩:=e.1 x c;exact⟨j,k,Z,l,m,n,B,(f.symm.of_dv p).symm⟩
    . split at c
      . next hl=>
        simp at c;subst c;exact⟨hl,J,Aa _,u,s,t,g.trans (Gj h o N).2.2.2,v⟩
      . simp at c
  . refine List.pairwise_append.2 ⟨e.2,by split<;>simp,λx c z d=>?_⟩;split at d
    . simp at d;subst d;obtain⟨j,k,A,l,m,n,_,f⟩:=e.1 x c;exact⟨by simp only;omega,(f.symm.of_dv g).symm⟩
    . simp at d
theorem dF(h:Yun q w y)(b:Jq q=q)(x:Rat):∀N,ev q x=Dy (yL w y N) x*(ev (DP w y N).1 x^N*ev (EB q w y N) x):=by
 intro N;induction N with
 |zero=>simp[yL,Dy,EB]
 |succ N o=>
  obtain⟨i,j,k,_,_,l⟩:=RO h b N;have d:=Bo (λr=>ev r x) k;have f:=Bo (λr=>ev r x) l;simp only[Jj]at d f;rw[o,yL,Ng];have e:Dy (if 1<(yP (DP w y N)).length then [(yP (DP w y N),N+1)]else []) x=ev (yP (DP w y N)) x^(N+1):=by
   split
   . simp[Dy]
   . next hl=>
     have n:yP (DP w y N)=[1]:=by
      have g:yP (DP w y N)≠[]:=XV (Gj h b N).1.tw (Yj _ _) (Or.inl (Gj h b N).1.w0);have a:=LU i g j;have:=Aj.2 g;generalize yP (DP w y N)=P at *;match P,hl,this,a with
      |[c],_,_,a=>simp[cf]at a;rw[a]
      |_::_::_,hl,_,_=>exact absurd J hl
     rw[n];have m:ev [1] x=1:=by simp[ev];grind
     rw[m,RM];rfl
  rw[e,f];have hp:(ev (DP w y N).1 x)^(N+1)=ev (yP (DP w y N)) x^(N+1)*ev (DP w y (N+1)).1 x^(N+1):=by rw[d,dE]
  rw[Rat.pow_succ]at hp;grind
theorem RQ{a:List Rat}(ta:Jd a=a)(ma:Jq a=a)(d:a≠[])(hl:a.length<=1):a=[1]:=by
 have b:=LU ta d ma;have:=Aj.2 d;match a,hl,this,b with
 |[c],_,_,b=>simp[cf]at b;rw[b]
 |_::_::_,hl,_,_=>simp at hl
theorem dG(h:Yun q w y)(c:Jq q=q):∀N,(∀n,n<N->1<(DP w y n).1.length)->(EB q w y N).length+N<=q.length:=by
 intro N;induction N with
 |zero=>intro _;exact Aa _
 |succ N b=>
  intro a;have d:=b λn f=>a n Z;have e:=Nb h c N (a N Z);omega
theorem RR(h:Yun q w y)(c:Jq q=q){N:Nat}(j:∀n,n<N->1<(DP w y n).1.length)(g:(DP w y N).1.length<=1):N+1<=q.length/\∀x,ev q x=Dy (yL w y N) x:=by
 obtain⟨a,_,i,_⟩:=Gj h c N;have e:=RQ a.tw a.mw a.w0 g;have d:EB q w y N=[1]:=by
  have f:Dv (EB q w y N) (Je (EB q w y N)):=⟨(DP w y N).2,λx=>by
   have:=a.eq x;rw[e]at this;have b:ev [1] x=1:=by simp[ev];grind
   rw[b]at this;grind⟩
  exact Dv.eq a.tR DL i Nd (NH a.tR a.R0 f) (RL _)
 have hl:=dG h c N j;refine⟨by rw[d]at hl;simp at hl;omega,λx=>?_⟩;have b:ev [1] x=1:=by simp[ev];grind
 rw[dF h c x N,e,d,b,RM];grind
end
namespace M3
open Go.RowKit Go.Shelf
variable{L:List (List Rat × Nat)}{W e:List Rat}{i t:Nat}
theorem dH(f:Jd W=W)(W0:W≠[])(z:W.length<=25)(q:Cd 75 W):∃L:List (List Rat × Nat),L.length<=25/\
 (∀x∈L,1<x.1.length/\x.1.length<=25/\1<=x.2/\x.2+1<=W.length/\Dj x.1 (Je x.1)/\Jd x.1=x.1/\Jq x.1=x.1/\Cd 80 x.1)/\
 L.Pairwise (λa b=>a.2<b.2/\Dj a.1 b.1)/\(∀x,ev (Jq W) x=Dy L x)/\
 ∀(V:World) (x:Value),Jc V x W->Calls Tryz.prog 18 #[x] V λe p=>∃u,e=.returned u/\Y5 true V.heap.size p u L/\Bl V p:=by
 have c:Jq (Jq W)=Jq W:=Jx f;have lq:(Jq W).length=W.length:=Xq f;have q0:=LJ f W0;have tq:=Yu W;have cq:Cd 75 (Jq W):=q.mon f;by_cases hl:1<W.length
 . obtain⟨N,l,A⟩:=cg f hl z q;have i:=Yun.start tq q0 c;have g:=XV tq (JV (Jq W)) (Or.inl q0);have j:=l.st;have k:=l.en;refine⟨Gv W N,?_,?_,?_,?_,λV x d=>Q4 174 8926 N x W V d l⟩
   . have:=Q3 (Df (Jq W) (Jn (Jq W) (Je (Jq W)))) (Df (Je (Jq W)) (Jn (Jq W) (Je (Jq W)))) N;unfold Gv;omega
   all_goals
    unfold Gv;rw[Gi g,Gi g]at j k;rw[Gi g,Gi g]
   . have C:=RR i c (λn m=>(j n m).1) k;intro x d;obtain⟨v,w,D,y,o,r,s,_⟩:=(RP i c N).1 x d;have B:=(s.len o tq q0).1;exact⟨v,Z,w,Z,y,o,r,RJ tq q0 Z cq o r s⟩
   . exact(RP i c N).2
   . exact(RR i c (λn m=>(j n m).1) k).2
 . refine⟨[],J,J,J,λx=>?_,λV x d=>(RK x W V d Z).mono ?_⟩
   . rw[RQ tq c q0 Z];simp[ev,Dy];grind
   . rintro e p ⟨rfl,t⟩;exact⟨_,rfl,Y5.nil _ _ _,t⟩
theorem RS(h:L[i]?=some (e,t))(x:Rat):Dy (L.take (i+1)) x=Dy (L.take i) x*ev e x^t:=by
 rw[List.take_add_one,Ng,h];simp[Dy]
theorem dI(h:L[i]?=some (e,t))(x:Rat):Dy L x=Dy (L.take i) x*ev e x^t*Dy (L.drop (i+1)) x:=by
 rw[<-RS h,<-Ng,Ci]
theorem dJ:∀L:List (List Rat × Nat),∃c:List Rat,∀x,ev c x=Dy L x:=by
 have hp:∀(e:List Rat) (n:Nat),∃c:List Rat,∀x,ev c x=ev e x^n:=λe n=>by
  induction n with
  |zero=>exact⟨[1],λx=>by simp[ev];grind⟩
  |succ n f=>
   obtain⟨c,b⟩:=f;exact⟨Jp c e,λx=>by rw[Jj,b,Rat.pow_succ]⟩
 intro L;induction L with
 |nil=>exact⟨[1],λx=>by simp[ev,Dy];grind⟩
 |cons a L f=>
  obtain⟨c,b⟩:=f;obtain⟨d,g⟩:=hp a.1 a.2;exact⟨Jp d c,λx=>by rw[Jj,g,b];rfl⟩
theorem dL(a:Rat)(m n:Nat):a^(m+n)=a^m*a^n:=by
 induction n with
 |zero=>simp
 |succ n b=>rw[<-Fe,Rat.pow_succ,Rat.pow_succ,b];grind
theorem dM(b:∀x,ev (Jq W) x=Dy L x)(h:L[i]?=some (e,t)){k:Nat}(g:k<=t){P:List Rat}(d:∀x,ev P x=Dy (L.take i) x*ev e x^k):Dv P (Jq W):=by
 obtain⟨c,f⟩:=dJ ((e,t-k)::L.drop (i+1));refine⟨c,λx=>?_⟩;rw[b,dI h,d,f];show _=_*(ev e x^(t-k)*Dy (L.drop (i+1)) x);have a:ev e x^t=ev e x^k*ev e x^(t-k):=by
  rw[<-dL,Nat.add_sub_cancel' g]
 rw[a];grind
end M3
section
open Go.RowKit Go.Shelf
def Nh(r:Bool)(base:Nat)(W:World)(g cap:Nat)(f:Nat->Int)(L:List (List Rat × Nat)):Prop:=
 base<=g/\(∃cs,W.heap[g]?=some (.cells cs (D5 r) (0,0)))/\L.length<=cap/\cap<=maxLen/\
  ∀j p t,L[j]?=some (p,t)->∃x,W.cell? ⟨g,j*2,none⟩=some x/\W.cell? ⟨g,j*2+1,none⟩=some (.int .i64 (f j))/\RowK r W x p
def GL(L:List (List Rat × Nat))(j:Nat):Int:=match L[j]? with|some x=>(x.2:Int)|none=>0
section
variable {r:Bool} {base:Nat} {W W':World} {v:Value} {g cap:Nat} {f:Nat->Int} {L:List (List Rat × Nat)}
theorem Y5.toT(h:Y5 r base W v L)(d:L≠[]):∃g cap,v=.slice (some ⟨g,0,none⟩) L.length cap/\Nh r base W g cap (GL L) L:=by
 rcases h with⟨_,h⟩|⟨g,cap,a,f,i,b,k,l,w,m⟩
 . exact absurd h d
 . refine⟨g,cap,f,i,⟨a,b⟩,k,l,λj p t e=>?_⟩;obtain⟨x,q,s,u⟩:=m.2 j p t e;have y:j<L.length:=(Af.1 e).1;have c:∀o,o<L.length*2->W.cell? ⟨g,o,none⟩=(a.toList.take (L.length*2))[o]?:=λo n=>by
    rw[AX n];simp[World.cell?,b]
   exact⟨x,(c _ Z).trans q,(c _ Z).trans (s.trans (by unfold GL;rw[e])),u⟩
theorem Nh.lt(h:Nh r base W g cap f L):g<W.heap.size:=by
 obtain⟨_,⟨cs,a⟩,_⟩:=h;exact(Ae.1 a).1
end
end
open Go.RowKit Go.Shelf
variable{a b g:List Rat}{K:Nat}
theorem Y5.zero{r:Bool}{base:Nat}{V:World}{v:Value}{L:List (List Rat × Nat)}(h:Y5 r base V v L):Y5 r 0 V v L:=by
 rcases h with h|⟨g,cap,a,b,d,c⟩
 . exact Or.inl h
 . exact Or.inr ⟨g,cap,a,b,AK _,c⟩
theorem RT(ta:Jd a=a)(tb:Jd b=b){n:Nat}(h:a.length+b.length<=n+1):(Jp a b).length<=n:=by
 by_cases c:a=[]
 . rw[c];exact AK _
 . by_cases b0:b=[]
   . rw[b0,Yw];exact AK _
   . have:=JD ta tb c b0;omega
theorem dN{q:List Rat}(tq:Jd q=q)(q0:q≠[])(lq:q.length<=25)(cq:Cd K q)(b:Jd g=g)(d:Jq g=g)(h:Dv g q):Cd (K+5) g:=by
 have c:=Dv.lnN (n:=24) (e:=5) tq q0 Z KO cq.ln b h;have a:=KC b c Z;rw[d]at a;exact a
theorem RU{p:List Rat}(tp:Jd p=p)(lp:p.length<=25)(cp:Cd K p)(b:Jd g=g)(n:Jq g=g)(a:g≠[])(h:Dv g p):Cd (K+(K+5)) (Jt p g)/\(Jt p g).length<=p.length:=by
 have o:=cp.pos;by_cases d:p=[]
 . have e:Jt p g=[]:=by
    rw[d];refine Y4 (J9 _ _) λx=>?_;have k:=(JY b a (Dv.zero g)).2;have l:∀x,ev g x*ev (Jt [] g) x=ev g x*ev [] x:=λx=>by rw[<-k x];simp[ev]
    rw[YG b a l x];rfl
   rw[e];refine⟨⟨1,DL,Sm.mono (show Sm 1 1 by unfold Sm;decide) Z,λi=>by rw[Yy];exact CD.zero _ _⟩,J⟩
 . have ex:=(JY b a h).2;have e:p=Jp g (Jt p g):=YU tp (Jy _ _) λx=>by rw[Jj,ex]
   have x0:Jt p g≠[]:=λj=>d (by rw[e,j,Yw]);have c:=J9 p g;have f:Dv (Jt p g) p:=⟨g,λx=>by rw[ex,Fw]⟩;have ln:=(f.len c tp d).1;have hl:=LT b c a x0;rw[<-e,KH b a n,FL]at hl;have m:Dv (Jq (Jt p g)) p:=(Dv.of_sc (IW (Jw c x0)) f);have c1:=dN tp d lp cp (Yu _) (Jx c) m;have c2:=c1.scale cp (p.length-1);rw[hl,<-(RI c x0).2]at c2;exact⟨c2.mono Z,ln⟩
open M3
theorem RV{α:Type}{R:α->α->Prop}{L:List α}(h:L.Pairwise R){i j:Nat}(f:i<j){a b:α}(c:L[i]?=some a)(d:L[j]?=some b):R a b:=by
 obtain⟨e,rfl⟩:=Af.1 c;obtain⟨g,rfl⟩:=Af.1 d;exact List.pairwise_iff_getElem.1 h i j e g f
theorem dO(ta:Jd a=a)(h:cf a (a.length-1)=1):Jq a=a:=
 YU (Yu _) ta λx=>by rw[LQ,h];grind
theorem dP(ta:Jd a=a)(tb:Jd b=b)(c:a≠[])(b0:b≠[])(ma:Jq a=a)(mb:Jq b=b):Jq (Jp a b)=Jp a b/\Jp a b≠[]:=by
 have h:=LT ta tb c b0;rw[KH ta c ma,KH tb b0 mb]at h;refine⟨dO (Jy _ _) (by rw[h];grind),λe=>?_⟩;have d:=JD ta tb c b0;have:=Aj.2 c;have:=Aj.2 b0;rw[e]at d;simp at d;omega
def PrM(L:List (List Rat × Nat))(k:Nat)(e:List Rat)(m:Nat)(P:List Rat):Prop:=
 Jd P=P/\P≠[]/\Jq P=P/\∀x,ev P x=Dy (L.take k) x*ev e x^m
def Gk(L:List (List Rat × Nat))(k:Nat)(P:List Rat):Prop:=
 Jd P=P/\P≠[]/\Jq P=P/\∀x,ev P x=Dy (L.take k) x
section
variable {L:List (List Rat × Nat)} {k m t:Nat} {e P W:List Rat}
theorem Gk.zero:Gk L 0 [1]:=⟨DL,DL,Nd,λx=>by simp[Dy,ev];grind⟩
theorem Gk.start(h:Gk L k P)(e:List Rat):PrM L k e 0 P:=⟨h.1,h.2.1,h.2.2.1,λx=>by rw[h.2.2.2];simp⟩
theorem PrM.fin(h:PrM L k e t P)(a:L[k]?=some (e,t)):Gk L (k+1) P:=⟨h.1,h.2.1,h.2.2.1,λx=>by rw[h.2.2.2,RS a]⟩
theorem PrM.next(h:PrM L k e m P)(l:Jd e=e)(a:e≠[])(j:Jq e=e):PrM L k e (m+1) (Jp P e):=by
 obtain⟨b,c,d,f⟩:=h;obtain⟨g,i⟩:=dP b l c a d j;refine⟨Jy _ _,i,g,λx=>?_⟩;rw[Jj,f,Rat.pow_succ];grind
theorem PrM.cd(h:PrM L k e m P)(a:Jd W=W)(W0:W≠[])(p:W.length<=25)(d:Cd 75 W)(i:∀x,ev (Jq W) x=Dy L x)(j:L[k]?=some (e,t))(l:m<=t):Cd 80 P/\P.length<=25:=by
 obtain⟨b,n,f,g⟩:=h;have c:=dM i j l g;have q:(Jq W).length=W.length:=Xq a;have q0:=LJ a W0;have o:=(c.len b (Yu _) q0).1;exact⟨RJ (Yu _) q0 Z (d.mon a) b f c,Z⟩
theorem Gk.whole(h:Gk L L.length P)(a:∀x,ev (Jq W) x=Dy L x):P=Jq W:=
 YU h.1 (Yu _) λx=>by rw[h.2.2.2,a,Ag (Aa _)]
theorem RW(a:Jd W=W)(W0:W≠[]):(Jt W (Jq W)).length=1/\J5 W (Jq W)=[]:=by
 have q0:=LJ a W0;have b:=Yu W;obtain⟨c0,cb⟩:=RI a W0;have g:Dv (Jq W) W:=⟨[cf W (W.length-1)],λx=>by
  conv=>lhs;rw[cb]
  rw[Yr];simp[ev];grind⟩
 obtain⟨d,f⟩:=JY b q0 g;refine⟨?_,d⟩;have e:W=Jp (Jq W) (Jt W (Jq W)):=YU a (Jy _ _) λx=>by rw[Jj,f]
 have x0:Jt W (Jq W)≠[]:=λc=>W0 (by rw[e,c,Yw]);have hl:=JD b (J9 W (Jq W)) q0 x0;rw[<-e,Xq a]at hl;have:=Aj.2 x0;have:=Aj.2 W0;omega
end
namespace M3
def Et(V:World)(g c:Nat)(L:List (List Rat × Nat))(j:Nat)(x:Value)(e:List Rat):Prop:=
 EA 0 V (.slice (some ⟨g,0,none⟩) L.length c) L/\V.cell? ⟨g,j*2,none⟩=some x/\RowK true V x e
section
variable {V V':World} {g c j:Nat} {L:List (List Rat × Nat)} {x:Value} {e:List Rat}
theorem EA.lt(h:EA 0 V (.slice (some ⟨g,0,none⟩) L.length c) L)(d:L≠[]):g<V.heap.size:=by
 obtain⟨e,c1,b,T⟩:=Y5.toT h d;injection b with a
 injection a with a
 injection a with a
 subst a;exact T.lt
theorem Et.below(h:Et V g c L j x e)(a:Bl V V'):Et V' g c L j x e:=
 ⟨h.1.below a,(a.cell (p:=⟨g,_,none⟩) (World.block_lt_of_cell? V ⟨g,_,none⟩ h.2.1)).trans h.2.1,h.2.2.below a⟩
theorem Et.drew(h:Et V g c L j x e):Et V.drew g c L j x e:=h.below ((BE _ V).drew)
theorem Et.alloc(h:Et V g c L j x e)(o:Obj):Et (V.alloc o) g c L j x e:=h.below (Ba V o)
theorem Et.set1(h:Et V g c L j x e){B:Nat}{a:Option Addr}{l d:Nat}(q:Boxed V B 25 (.slice a l d))(p:JG (.slice a l d)=true)(k:Value):Et (V.setCell ⟨B,0,none⟩ k) g c L j x e:=by
 have m:g≠B:=by
  rcases h.1 with⟨f,_⟩|⟨s,cap,r,f,_,i,_⟩
  . injection f with b
    cases b
  . injection f with b
    injection b with b
    injection b with b
    subst b;intro n;subst n;have o:V.heap[g]?=some (.cells #[.slice a l d] 25 (0,0)):=q;rw[o]at i;simp only[Ak,Bn]at i;have:=i.2.1;revert this;decide
 exact⟨h.1.set1 q p k,(JW m).trans h.2.1,Ea q k h.2.2⟩
end
end M3

