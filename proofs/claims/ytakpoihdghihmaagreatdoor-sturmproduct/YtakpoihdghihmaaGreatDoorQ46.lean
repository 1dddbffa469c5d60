import Derived.Test.YtakpoihdghihmaaGreatDoorQ45
set_option maxRecDepth 100000
set_option maxHeartbeats 16000000
namespace Go.Proofs.YtakpoihdghihmaaGreatDoor
section
open Go.RowKit Go.Shelf
def zP:Array Value:=#[.slice none 0 0,.int .i64 0]
namespace M3
end M3
end
section
open Go.RowKit Go.Shelf
def bM(s:List Rat × List Rat):List Rat × List Rat:=(EA s.1 (Jr s.1 (Yl s.2 (Jb s.1))),EA (Yl s.2 (Jb s.1)) (Jr s.1 (Yl s.2 (Jb s.1))))
def Dx(w y:List Rat):Nat->List Rat × List Rat
 |0=>(w,y)
 |n+1=>bM (Dx w y n)
def yP(s:List Rat × List Rat):List Rat:=Jr s.1 (Yl s.2 (Jb s.1))
structure StOk(K M:Nat)(w y:List Rat):Prop where
 ch:M3.ChOk K w (Yl y (Jb w))
 ty:Jd y=y
 cw:Cd M w
 cs:Cd M (Jb w)
 cy:Cd M y
 cz:Cd M (Yl y (Jb w))
 kM:DX K w (Yl y (Jb w))<=M
 l1:2*((w.length+3)*(M+1))<=1000000000
 l2:2*(((Yl y (Jb w)).length+3)*(M+1))<=1000000000
structure PtOk(K M N:Nat)(p:List Rat):Prop where
 tp:Jd p=p
 cp:Cd M p
 ch:M3.ChOk K (Jz p) (Jb (Jz p))
 kM:DX K (Jz p) (Jb (Jz p))<=M
 l1:2*((p.length+3)*(M+1))<=1000000000
 gt:1<p.length
 nN:N<=1000000000
 st:∀n,n<N->1<(Dx (EA (Jz p) (Jr (Jz p) (Jb (Jz p)))) (EA (Jb (Jz p)) (Jr (Jz p) (Jb (Jz p)))) n).1.length/\StOk K M (Dx (EA (Jz p) (Jr (Jz p) (Jb (Jz p)))) (EA (Jb (Jz p)) (Jr (Jz p) (Jb (Jz p)))) n).1 (Dx (EA (Jz p) (Jr (Jz p) (Jb (Jz p)))) (EA (Jb (Jz p)) (Jr (Jz p) (Jb (Jz p)))) n).2
 en:(Dx (EA (Jz p) (Jr (Jz p) (Jb (Jz p)))) (EA (Jb (Jz p)) (Jr (Jz p) (Jb (Jz p)))) N).1.length<=1
namespace M3
section
variable {base:Nat} {V V':World} {v:Value} {L:List (List Rat × Nat)}
end
attribute [local go_sem] Oper.semAt_some
end M3
end
variable{P a b g p:List Rat}{M l n:Nat}{r:Nat->Int}{c:Rat}
theorem bN:∀D:Nat,1<D->∃l,1<l/\l∣D/\∀a:Nat,¬l∣a->Nat.gcd l a=1:=by
 intro D;induction D using Nat.strongRecOn with
 |ind D i=>
  intro hD;by_cases h:∀d,d∣D->d=1\/d=D
  . refine⟨D,hD,Nat.dvd_refl _,λa f=>?_⟩;rcases h _ (Fk D a)with e|e
    . exact e
    . exact absurd (e ▸ CV D a) f
  . obtain⟨d,g⟩:=Classical.not_forall.1 h;obtain⟨b,c⟩:=Classical.not_imp.1 g;have k:d≠1/\d≠D:=⟨λe=>c (Or.inl e),λe=>c (Or.inr e)⟩;have m:d<=D:=Nat.le_of_dvd Y b;have n:d≠0:=λe=>by subst e;have:=Nat.zero_dvd.1 b;omega
    obtain⟨l,l1,l2,j⟩:=i d Y Y;exact⟨l,l1,Nat.dvd_trans l2 b,j⟩
theorem QX{P:Nat->Prop}(h:∃a,P a):∃a,P a/\∀i,i<a->¬P i:=by
 obtain⟨a,d⟩:=h;induction a using Nat.strongRecOn with
 |ind a f=>
  by_cases h:∃i,i<a/\P i
  . obtain⟨i,b,c⟩:=h;exact f i b c
  . exact⟨a,d,λi e hp=>h ⟨i,e,hp⟩⟩
theorem bO{l:Int}{f:Nat->Int}{a:Nat}:∀n,a<n->(∀i,i<n->i≠a->l∣f i)->l∣Yp n f->l∣f a:=by
 have j:∀n,(∀i,i<n->l∣f i)->l∣Yp n f:=λn=>by
  induction n with
  |zero=>exact λ_=>Int.dvd_zero _
  |succ n d=>exact λh=>by rw[Yp];exact Int.dvd_add (d λi g=>h i Y) (h n Y)
 intro n;induction n with
 |zero=>intro h;omega
 |succ n d=>
  intro o h c;rw[Yp]at c;by_cases e:a=n
  . subst e;have m:=j a λi g=>h i Y Y;have b:=Int.dvd_sub c m;rwa[show Yp a f+f a-Yp a f=f a by omega]at b
  . refine d Y (λi g=>h i Y) ?_;have b:=Int.dvd_sub c (h n Y λk=>e k.symm);rwa[show Yp n f+f n-f n=Yp n f by omega]at b
theorem bP(hl:∀a:Nat,¬l∣a->Nat.gcd l a=1){s:Nat->Int}(p:∀i,n<=i->r i=0)(h:∀k,(l:Int)∣Yp n λi=>if i<=k then r i*s (k-i)else 0)(o:∃a,¬(l:Int)∣r a)(q:∃b,¬(l:Int)∣s b):False:=by
 obtain⟨a,e,g⟩:=QX o;obtain⟨b,j,m⟩:=QX q;have f:a<n:=by
  by_cases c:a<n
  . exact c
  . exact absurd (by rw[p a Y];exact Int.dvd_zero _) e
 have c:=bO n f (λi t u=>by
  split
  . by_cases d:i<a
    . exact Int.dvd_trans (Classical.not_not.1 (g i d)) (Int.dvd_mul_right _ _)
    . exact Int.dvd_trans (Classical.not_not.1 (m (a+b-i) Y)) (Int.dvd_mul_left _ _)
  . exact Int.dvd_zero _) (h (a+b))
 rw[BH Y,show a+b-a=b by omega,CX]at c;exact j (dvd_one c (by rw[AY];exact hl _ λd=>e (CM.2 d)))
theorem bQ{L G:Int}(M:∀i,((cf p i).den:Int)∣L)(N:∀u:Int,(∀i,((cf p i).den:Int)∣u)->L∣u)(I:∀i,G∣(cf p i).num)(K:∀v:Int,(∀i,v∣(cf p i).num)->v∣G)(H:G≠0)(Q:∀i,∃z:Int,cf p i*c=(z:Rat)):
 ∃t:Int,∀i,∃r:Int,cf p i*((L:Rat)/(G:Rat))=(r:Rat)/\cf p i*c=((r*t:Int):Rat):=by
 have y:(c.den:Int)≠0:=by have:=c.den_nz;omega
 have j:∀i,∃z:Int,cf p i*c=(z:Rat)/\(cf p i).num*c.num=z*((cf p i).den*c.den):=λi=>by
  obtain⟨z,b⟩:=Q i;refine⟨z,b,?_⟩;have B:c*(c.den:Rat)=(c.num:Rat):=GX c;have a:cf p i*((cf p i).den:Rat)=((cf p i).num:Rat):=GX _;have C:(((cf p i).num*c.num:Int):Rat)=((z*(((cf p i).den:Int)*(c.den:Int)):Int):Rat):=by
   rw[AC,AC,AC,AK,AK,<-B,<-a,<-b];grind
  exact Rat.intCast_inj.1 C
 have l:L∣c.num:=N _ λi=>by
  obtain⟨z,_,e⟩:=j i;have g:((cf p i).den:Int)∣(cf p i).num*c.num:=⟨z*c.den,by rw[e,Int.mul_left_comm]⟩;rw[CX]at g;refine dvd_one g ?_;rw[AY,C2];exact(cf p i).reduced
 have n:(c.den:Int)∣G:=K _ λi=>by
  obtain⟨z,_,e⟩:=j i;have g:(c.den:Int)∣(cf p i).num*c.num:=⟨z*(cf p i).den,by rw[e,<-Fy,CX]⟩;refine dvd_one g ?_;rw[AY,C2];exact c.reduced
 obtain⟨u,l⟩:=l;obtain⟨v,n⟩:=n;refine⟨u*v,λi=>?_⟩;obtain⟨e,s⟩:=M i;obtain⟨m,w⟩:=I i;obtain⟨z,D,b⟩:=j i;have P:((cf p i).den:Int)≠0:=by have:=(cf p i).den_nz;omega
 have A:z=m*e*(u*v):=by
  have E:z*(((cf p i).den:Int)*c.den)=m*e*(u*v)*(((cf p i).den:Int)*c.den):=by
   rw[<-b,w,l,n,s];generalize ((cf p i).den:Int)=d;generalize (c.den:Int)=f;grind
  exact Int.eq_of_mul_eq_mul_right (CJ P y) E
 refine⟨m*e,?_,by rw[D,A]⟩;have o:(G:Rat)≠0:=by exact_mod_cast H
 have a:cf p i*((cf p i).den:Rat)=((cf p i).num:Rat):=GX _;rw[w,AC]at a;have x:(L:Rat)=((cf p i).den:Rat)*(e:Rat):=by rw[s,AC,AK]
 have k:(L:Rat)/(G:Rat)*(G:Rat)=L:=Ap o;have F:(cf p i*((L:Rat)/(G:Rat))-((m*e:Int):Rat))*(G:Rat)=0:=by
  rw[AC];generalize (L:Rat)/(G:Rat)=f at k ⊢;rw[x]at k;generalize ((cf p i).den:Rat)=d at a k;grind
 rcases Cj.1 F with q|q
 . grind
 . exact absurd q o
theorem QY(hp:Jd p=p)(e:p≠[])(l:∀i,∃z:Int,cf p i*c=(z:Rat)):∃t:Int,∀i,∃r:Int,cf (JE p) i=(r:Rat)/\cf p i*c=((r*t:Int):Rat):=by
 have b:∀i,p.length<=i->cf p i=0:=λi a=>Yi a;obtain⟨t,g⟩:=bQ (p:=p) (L:=(YV p p.length:Int)) (G:=(YI p p.length:Int)) (λi=>by
  by_cases a:i<p.length
  . exact Int.natCast_dvd_natCast.2 (NL p _ i a)
  . rw[b i Y];exact Int.one_dvd _) (λu j=>CM.2 (NM p _ (λi=>CM.1 (j i)) _)) (λi=>by
  by_cases a:i<p.length
  . exact CM.2 (NN p _ i a)
  . rw[b i Y];exact Int.dvd_zero _) (λv k=>by
  have:v.natAbs∣YI p p.length:=QB p _ (λi=>FI.2 (k i)) _
  exact Int.natAbs_dvd.1 (Int.natCast_dvd_natCast.2 this)) (by have:=KO hp e;omega) l
 refine⟨t,λi=>?_⟩;obtain⟨r,d,f⟩:=g i;refine⟨r,?_,f⟩;unfold JE;rw[Yk];rw[AK,AK]at d;exact d
theorem QZ(hp:Jd p=p)(m:p≠[])(o:∀i,cf (JE p) i=(r i:Rat))(hl:1<l):∃i,¬(l:Int)∣r i:=by
 by_cases h:∃i,¬(l:Int)∣r i
 . exact h
 . exfalso
   have u:∀i,(l:Int)∣r i:=λi=>Classical.not_not.1 λb=>h ⟨i,b⟩;have d:(l:Rat)≠0:=by exact_mod_cast (show l≠0 by omega)
   obtain⟨c,n,e⟩:=F1 hp;have w:c≠0:=λg=>by rw[g]at n;exact absurd n DI
   have f:∀i,cf p i*c=(r i:Rat):=λi=>by rw[<-Yk,<-e,o]
   obtain⟨t,D⟩:=QY hp m (c:=c/(l:Rat)) (λi=>by
    obtain⟨q,hq⟩:=u i;refine⟨q,?_⟩;have b:c/(l:Rat)*(l:Rat)=c:=Ap d;have j:=f i;rw[hq,AC,AK]at j;have a:(cf p i*(c/(l:Rat))-(q:Rat))*(l:Rat)=0:=by grind
    rcases Cj.1 a with k|k
    . grind
    . exact absurd k d)
   obtain⟨E,b,j⟩:=D (p.length-1);have s:=Jt hp m;have x:E=r (p.length-1):=Rat.intCast_inj.1 (by rw[<-b,o]);have v:r (p.length-1)≠0:=λg=>by
    have a:=f (p.length-1);rw[g]at a;exact GE s w a
   have a:=f (p.length-1);have k:c/(l:Rat)*(l:Rat)=c:=Ap d;have y:((r (p.length-1):Int):Rat)=(((r (p.length-1))*(t*(l:Int)):Int):Rat):=by
    rw[<-a,AC,AC,AK];rw[x,AC]at j;grind
   have z:=Rat.intCast_inj.1 y;have A:t*(l:Int)=1:=by
    have B:r (p.length-1)*1=r (p.length-1)*(t*(l:Int)):=by rw[Int.mul_one];exact z
    exact(Int.eq_of_mul_eq_mul_left v B).symm
   have C:(l:Int)∣1:=⟨t,by rw[CX];exact A.symm⟩;have F:=Int.le_of_dvd DI C;omega
theorem NT(hp:Jd p=p)(b:p≠[]):∀i,∃r:Int,cf (JE p) i=(r:Rat):=by
 obtain⟨t,k⟩:=QY hp b (c:=(YV p p.length:Rat)) (λi=>by
  have f:(cf p i).den∣YV p p.length:=by
   by_cases j:i<p.length
   . exact NL p _ i j
   . rw[Yi Y];exact Nat.one_dvd _
  obtain⟨e,g⟩:=f;refine⟨(cf p i).num*(e:Int),?_⟩;have a:cf p i*((cf p i).den:Rat)=((cf p i).num:Rat):=GX _;rw[g,AC,<-a,AK,Rat.natCast_mul];grind)
 intro i;obtain⟨r,d,_⟩:=k i;exact⟨r,d⟩
theorem bS(B:Jd P=P)(u:P≠[])(T:∀i,∃z:Int,cf P i=(z:Rat))(o:Jd g=g)(h:Dv g P):
 ∃H:List Rat,Jd H=H/\P=Jm (JE g) H/\∀i,∃z:Int,cf H i=(z:Rat):=by
 have y:g≠[]:=λe=>u (by
  obtain⟨c,j⟩:=h;exact YW B λx=>by rw[j,e];simp[ev])
 obtain⟨M,C,N⟩:=F1 o;have F:M≠0:=λm=>by rw[m]at C;exact absurd C DI
 have R:Dv (JE g) P:=by rw[N];exact h.of_sc F
 obtain⟨H,f,eP⟩:=R.some B;have t:H≠[]:=λe=>u (by rw[eP,e];exact Xc _);refine⟨H,f,eP,?_⟩;obtain⟨c,j,w⟩:=F1 f;have K:c≠0:=λm=>by rw[m]at j;exact absurd j DI
 obtain⟨r,p⟩:=Classical.axiomOfChoice (NT o y);obtain⟨s,q⟩:=Classical.axiomOfChoice (NT f t);obtain⟨z,U⟩:=Classical.axiomOfChoice T;have D:DP c P=Jm (JE g) (JE H):=by
  refine XA (JI _ _) (JY _ _) λx=>?_;have a:ev P x=ev (JE g) x*ev H x:=by rw[<-Jg,<-eP]
  rw[JJ,Jg,w,JJ,a];grind
 have I:∀k,(z k:Rat)*c=((Yp (JE g).length (λi=>if i<=k then r i*s (k-i)else 0):Int):Rat):=λk=>by
  rw[<-U k,<-Yk,D,NI _ _ (Aa _)];refine NH λi _=>?_;split
  . rw[p,q,AC]
  . rfl
 have v:c*(c.den:Rat)=(c.num:Rat):=GX c;have E:∀k,z k*c.num=(c.den:Int)*Yp (JE g).length (λi=>if i<=k then r i*s (k-i)else 0):=λk=>by
  have a:((z k*c.num:Int):Rat)=(((c.den:Int)*Yp (JE g).length (λi=>if i<=k then r i*s (k-i)else 0):Int):Rat):=by
   rw[AC,AC,<-I k,AK,<-v];grind
  exact Rat.intCast_inj.1 a
 have L:c.num≠0:=λe=>K (FF.1 e);have G:c.num.natAbs=1:=by
  by_cases a:c.num.natAbs=1
  . exact a
  . exfalso
    have A:c.num.natAbs≠0:=Int.natAbs_ne_zero.2 L;obtain⟨l,l1,l2,V⟩:=bN c.num.natAbs Y;refine bP V (r:=r) (s:=s) (n:=(JE g).length) (λi S=>?_) (λk=>?_) (QZ o y p l1) (QZ f t q l1)
    . have b:=p i;rw[Yi S]at b;exact(Rat.intCast_inj.1 (show((0:Int):Rat)=_ from b)).symm
    . have b:(l:Int)∣(c.den:Int)*Yp (JE g).length (λi=>if i<=k then r i*s (k-i)else 0):=by
       rw[<-E k];exact Int.dvd_trans (CM.2 l2) (Int.dvd_mul_left _ _)
      rw[CX]at b;refine dvd_one b ?_;rw[AY,AY];have d:Nat.gcd l c.den∣Nat.gcd c.num.natAbs c.den:=Nat.dvd_gcd (Nat.dvd_trans (Fk _ _) l2) (CV _ _);have Q:Nat.gcd c.num.natAbs c.den=1:=c.reduced;rw[Q]at d;exact Nat.dvd_one.1 d
 intro i;refine⟨s i*(c.den:Int)*c.num,?_⟩;have a:cf H i*c=(s i:Rat):=by rw[<-q,w,Yk]
 have A:(c.num:Rat)*(c.num:Rat)=1:=by
  rw[<-AC];have b:c.num*c.num=1:=by
   rcases Int.natAbs_eq c.num with e|e<;>(rw[G]at e;rw[e];rfl)
  rw[b];rfl
 rw[AC,AC,AK,<-a];have d:cf H i*c*(c.den:Rat)*(c.num:Rat)=cf H i*(c.num*c.num:Rat):=by rw[Rat.mul_assoc (cf H i),v,Rat.mul_assoc]
 rw[d,A,Rat.mul_one]
def Dm:List Int->Int->Int
 |[],_=>0
 |c::t,x=>c+x*Dm t x
def cz(g:List Int)(i:Nat):Int:=g[i]?.getD 0
theorem Q3(i:Nat):cz [] i=0:=rfl
theorem LX(c:Int)(t:List Int):cz (c::t) 0=c:=rfl
theorem KX(c:Int)(t:List Int)(i:Nat):cz (c::t) (i+1)=cz t i:=rfl
theorem NU{g:List Int}{i:Nat}(h:g.length<=i):cz g i=0:=by unfold cz;rw[AO h];rfl
def Yr:List Int->Int->List Int × Int
 |[],_=>([],0)
 |c::t,k=>((Yr t k).2::(Yr t k).1,c+k*(Yr t k).2)
theorem NW(k x:Int):∀g:List Int,Dm g x=(x-k)*Dm (Yr g k).1 x+(Yr g k).2:=by
 intro g;induction g with
 |nil=>simp[Dm,Yr]
 |cons c t a=>rw[Dm,Yr,a];simp only[Dm];grind
theorem Q4(k:Int)(g:List Int):(Yr g k).2=Dm g k:=by
 have h:=NW k k g;rw[Int.sub_self,Int.zero_mul,Int.zero_add]at h;exact h.symm
theorem NX(k:Int):∀(g:List Int),cz g 0=(Yr g k).2-k*cz (Yr g k).1 0/\∀i,cz g (i+1)=cz (Yr g k).1 i-k*cz (Yr g k).1 (i+1):=by
 intro g;induction g with
 |nil=>exact⟨by simp[Q3,Yr],λi=>by simp[Q3,Yr]⟩
 |cons c t a=>
  rw[Yr];refine⟨by rw[LX,LX];omega,λi=>?_⟩;cases i with
  |zero=>rw[KX,LX,KX];exact a.1
  |succ i=>rw[KX,KX,KX];exact a.2 i
theorem Q5(k:Int)(g:List Int){m:Nat}(h:∀i,m+1<=i->cz g i=0):∀i,m<=i->cz (Yr g k).1 i=0:=by
 have b:∀d i,m<=i->(Yr g k).1.length<=i+d->cz (Yr g k).1 i=0:=λd=>by
  induction d with
  |zero=>intro i _ c;exact NU Y
  |succ d j=>
   intro i a c;have e:=j (i+1) Y Y;have f:=(NX k g).2 i;rw[h (i+1) Y,e,Int.mul_zero]at f;omega
 intro i a;exact b (Yr g k).1.length i a Y
theorem bT:∀(m:Nat) (g:List Int),(∀i,m<=i->cz g i=0)->(∃i,cz g i≠0)->∀b:List Int,b.Nodup->(∀k∈b,Dm g k=0)->b.length<m:=by
 intro m;induction m with
 |zero=>intro g h ⟨i,s⟩;exact absurd (h i Y) s
 |succ m u=>
  intro g h ⟨t,c⟩ b e o;cases b with
  |nil=>simp
  |cons a b=>
   rw[List.nodup_cons]at e;have q:(Yr g a).2=0:=by rw[Q4];exact o a Z
   have hq:∃i,cz (Yr g a).1 i≠0:=by
    by_cases f:∃i,cz (Yr g a).1 i≠0
    . exact f
    . exfalso
      have d:∀i,cz (Yr g a).1 i=0:=λi=>Classical.not_not.1 λr=>f ⟨i,r⟩;have j:=NX a g;cases t with
      |zero=>rw[j.1,q,d]at c;simp at c
      |succ i=>rw[j.2,d,d]at c;simp at c
   have v:=u (Yr g a).1 (Q5 a g h) hq b e.2 (λk p=>by
    have l:=NW a k g;rw[o k (by simp[p]),q,Int.add_zero]at l;rcases Int.mul_eq_zero.1 l.symm with n|n
    . exact absurd (show k∈b from p) λw=>e.1 (by rwa[show a=k by omega])
    . exact n)
   simp only[Ae];omega
theorem bU(B:Nat):∀(m:Nat) (g:List Int) (M:Nat),(∀i,m<=i->cz g i=0)->∀b:List Int,b.Nodup->b.length=m->(∀k∈b,(Dm g k).natAbs<=M/\k.natAbs<=B)->∀i,(cz g i).natAbs<=M*(2*B+3)^m:=by
 intro m;induction m with
 |zero=>intro g M h b _ _ _ i;rw[h i Y];simp
 |succ m v=>
  intro g M h b f hl o i;cases b with
  |nil=>simp at hl
  |cons a b=>
   rw[List.nodup_cons]at f;obtain⟨p,q⟩:=o a Z;have D:((Yr g a).2).natAbs<=M:=by rw[Q4];exact p
   have hq:=v (Yr g a).1 (2*M) (Q5 a g h) b f.2 (by simpa using hl) (λk u=>by
    obtain⟨n,c⟩:=o k (by simp[u]);refine⟨?_,c⟩;have z:=NW a k g;have r:(k-a)*Dm (Yr g a).1 k=Dm g k-(Yr g a).2:=Y
    have s:(k-a).natAbs*(Dm (Yr g a).1 k).natAbs<=2*M:=by
     rw[<-CF,r];omega
    have t:0<(k-a).natAbs:=Int.natAbs_pos.2 λe=>f.1 (by rwa[show a=k by omega]);exact An (C4 _ t) s)
   obtain⟨X,d⟩:∃X,2*M*(2*B+3)^m=X:=⟨_,rfl⟩;rw[d]at hq;have A:2*M<=X:=by rw[<-d];exact Cf _ (CU Y)
   have C:X+B*X<=M*(2*B+3)^(m+1):=by
    have e:M*(2*B+3)^(m+1)*2=X*(2*B+3):=by rw[<-d,A4];grind
    have w:X*(2*B+3)=2*(B*X)+3*X:=by grind
    omega
   have j:∀y:Int,(a*y).natAbs<=B*y.natAbs:=λy=>by rw[CF];exact Ah _ q
   have l:=NX a g;cases i with
   |zero=>
    rw[l.1];have n:=j (cz (Yr g a).1 0);have c:B*(cz (Yr g a).1 0).natAbs<=B*X:=Ao _ (hq 0);omega
   |succ i=>
    rw[l.2];have n:=j (cz (Yr g a).1 (i+1));have c:B*(cz (Yr g a).1 (i+1)).natAbs<=B*X:=Ao _ (hq (i+1));have x:=hq i;omega
theorem bV{B:Nat}:∀(g:List Int) (k:Int),(∀i,(cz g i).natAbs<=M)->k.natAbs<=B->(Dm g k).natAbs<=M*(B+1)^g.length:=by
 intro g;induction g with
 |nil=>intro k _ _;simp[Dm]
 |cons c t l=>
  intro k h e;have b:=l k (λi=>h (i+1)) e;have j:=h 0;rw[LX]at j;rw[Dm,Ae,A4];obtain⟨a,d⟩:=ex ((B+1)^t.length);rw[d]at b ⊢;have f:1<=a:=by rw[<-d];exact CU Y
  have m:(k*Dm t k).natAbs<=B*(M*a):=by rw[CF];exact Cq e b
  have n:M<=M*a:=Cf _ f;have o:M*(a*(B+1))=M*a+B*(M*a):=by grind
  have p:=FK c (k*Dm t k);omega
def KY(g:List Int):List Rat:=g.map (λz:Int=>(z:Rat))
theorem NY(g:List Int)(i:Nat):cf (KY g) i=(cz g i:Rat):=by
 unfold cf KY cz;rw[Fa];cases g[i]? with
 |none=>rfl
 |some z=>rfl
theorem Na(k:Int):∀g:List Int,ev (KY g) (k:Rat)=(Dm g k:Rat):=by
 intro g;induction g with
 |nil=>rfl
 |cons c t a=>
  show(c:Rat)+(k:Rat)*ev (KY t) (k:Rat)=_;rw[a,Dm,Rat.intCast_add,AC]
theorem Nb(h:∀i,∃z:Int,cf p i=(z:Rat)):∃g:List Int,p=KY g/\g.length=p.length:=by
 induction p with
 |nil=>exact⟨[],rfl,rfl⟩
 |cons c t e=>
  obtain⟨g,b,d⟩:=e (λi=>by have:=h (i+1);rwa[J1]at this);obtain⟨z,a⟩:=h 0;rw[YL]at a;exact⟨z::g,by rw[a,b];rfl,by simp[d]⟩
theorem nodup_range(n:Nat):((List.range n).map (λi:Nat=>(i:Int))).Nodup:=by
 refine List.Pairwise.map _ ?_ (List.nodup_range (n:=n));intro a b h e;exact h Y
theorem bW(x:Jd P=P)(f:P≠[])(hl:P.length<=n+1)(s:∀i,∃z:Int,z.natAbs<=M/\cf P i=(z:Rat))(y:Jd g=g)(h:Dv g P):
 ∀i,∃z:Int,z.natAbs<=M*(2*n+1)^(n+1)*(2*(2*n)+3)^(n+1)/\cf (JE g) i=(z:Rat):=by
 obtain⟨H,K,eP,L⟩:=bS x f (λi=>by obtain⟨z,_,c⟩:=s i;exact⟨z,c⟩) y h;have I:g≠[]:=λe=>f (by rw[eP,e];rfl);have t:H≠[]:=λe=>f (by rw[eP,e];exact Xc _);obtain⟨a,m,lp⟩:=Nb (p:=P) (λi=>by obtain⟨z,_,c⟩:=s i;exact⟨z,c⟩);obtain⟨j,w,lg⟩:=Nb (NT y I);obtain⟨N,G,lh⟩:=Nb L;have X:(JE g).length<=n+1:=by
  have b:=JG (Ye g) K (λe=>f (by rw[eP,e];rfl)) t;rw[<-eP]at b;have c:0<H.length:=Af.2 t;omega
 have E:∀i,(cz a i).natAbs<=M:=λi=>by
  obtain⟨z,b,c⟩:=s i;rw[m,NY]at c;rwa[Rat.intCast_inj.1 c]
 have u:∀k:Int,Dm a k=Dm j k*Dm N k:=λk=>by
  have b:ev P (k:Rat)=ev (JE g) (k:Rat)*ev H (k:Rat):=by rw[<-Jg,<-eP]
  rw[m,w,G,Na,Na,Na,<-AC]at b;exact Rat.intCast_inj.1 b
 obtain⟨R,o⟩:=ex ((List.range (2*n+1)).map (λi:Nat=>(i:Int)));have v:R.Nodup:=by rw[<-o];exact nodup_range _
 have V:R.length=2*n+1:=by rw[<-o];simp
 have C:∀k∈R,k.natAbs<=2*n:=λk d=>by
  rw[<-o]at d;obtain⟨i,r,rfl⟩:=C3.1 d;have:=List.mem_range.1 r;omega
 have W:(R.filter λk=>Dm a k==0).length<n+1:=by
  refine bT (n+1) a (λi r=>NU Y) ?_ _ (v.filter _) (λk d=>by
   have:=(Ft.1 d).2;simpa using this)
  refine⟨P.length-1,λe=>Jt x f ?_⟩;have b:=NY a (P.length-1);rw[<-m,e]at b;exact b
 have ad:(R.filter λk=>Dm a k==0).length+(R.filter λk=>!(Dm a k==0)).length=R.length:=by
  rw[<-List.countP_eq_length_filter,<-List.countP_eq_length_filter];have b:=List.length_eq_countP_add_countP (l:=R) λk=>Dm a k==0;have c:List.countP (λk=>!(Dm a k==0)) R=List.countP (λk=>decide ¬((Dm a k==0)=true)) R:=by congr 1;funext k;cases(Dm a k==0)<;>rfl
  omega
 obtain⟨S,q⟩:=ex ((R.filter λk=>!(Dm a k==0)).take (n+1));have B:S.length=n+1:=by rw[<-q,Al];omega
 have D:S.Nodup:=by rw[<-q];exact List.Sublist.nodup (List.take_sublist _ _) (v.filter _)
 have F:∀k∈S,Dm a k≠0/\k.natAbs<=2*n:=λk d=>by
  rw[<-q]at d;have b:=Ft.1 (FN d);refine⟨?_,C k b.1⟩;have:=b.2;simpa using this
 have A:=bU (2*n) (n+1) j (M*(2*n+1)^(n+1)) (λi r=>NU Y) S D B (λk d=>by
  obtain⟨b,c⟩:=F k d;refine⟨?_,c⟩;have Q:=bV a k E c;have T:M*(2*n+1)^a.length<=M*(2*n+1)^(n+1):=Ao _ (AE Y Y);have U:(Dm j k).natAbs<=(Dm a k).natAbs:=by
   rw[u k,CF];refine Cf _ (Int.natAbs_pos.2 λe=>b ?_);rw[u k,e,Int.mul_zero]
  omega)
 intro i;exact⟨cz j i,A i,by rw[w,NY]⟩
theorem Dv.lnN{K e:Nat}(b:Jd P=P)(s:P≠[])(hl:P.length<=n+1)(F:(2*n+1)^(n+1)*(2*(2*n)+3)^(n+1)<=O^e)(G:Ln K P)(r:Jd g=g)(h:Dv g P):Ln (K+e) g:=by
 obtain⟨c,p,o⟩:=F1 b;have v:c≠0:=λf=>by rw[f]at p;exact absurd p DI
 have C:JE P≠[]:=by rw[o];exact Id v b s
 have D:Dv g (JE P):=by rw[o];exact h.sc c
 have x:=Ii b G;have y:=bW (n:=n) (M:=O^K-1) (Ye P) C (by rw[J0 b];omega) (λi=>by
  obtain⟨z,j,k⟩:=x i;unfold Sm at j;exact⟨z,Y,k⟩) r D
 have A:EG (K+e) (JE g):=λi=>by
  obtain⟨z,j,k⟩:=y i;refine⟨z,?_,k⟩;unfold Sm;have I:0<O^K:=CU Hh;have t:0<O^e:=CU Hh;have a:(O^K-1)*((2*n+1)^(n+1)*(2*(2*n)+3)^(n+1))<=(O^K-1)*O^e:=Ao _ F;rw[<-AJ]at a;have l:(O^K-1)*O^e<O^K*O^e:=(Nat.mul_lt_mul_right t).2 Y;rw[CQ];exact Ck j (Ck a l)
 obtain⟨m,q,w⟩:=F1 r;have u:m≠0:=λf=>by rw[f]at q;exact absurd q DI
 have a:=A.ln;rw[w]at a;obtain⟨d,E,H⟩:=a;refine⟨m*d,GE u E,λi=>?_⟩;obtain⟨z,l,B⟩:=H i;exact⟨z,l,by rw[<-B,Yk];grind⟩
theorem bY:(2*24+1)^(24+1)*(2*(2*24)+3)^(24+1)<=O^5:=by unfold O;decide
theorem Dv.len(g:Jd a=a)(i:Jd b=b)(b0:b≠[])(h:Dv a b):a.length<=b.length/\a≠[]:=by
 obtain⟨c,j,e⟩:=h.some i;have f:a≠[]:=λd=>b0 (by rw[e,d];rfl);have c0:c≠[]:=λd=>b0 (by rw[e,d];exact Xc _);have l:=JG g j f c0;rw[<-e]at l
 have:0<c.length:=Af.2 c0
 exact⟨Y,f⟩
theorem Q6(d:Jd a=a)(e:Jd b=b)(c:a≠[])(b0:b≠[]):cf (Jm a b) ((Jm a b).length-1)=cf a (a.length-1)*cf b (b.length-1):=by
 have l:=JG d e c b0;have f:0<a.length:=Af.2 c;have g:0<b.length:=Af.2 b0;rw[l,show a.length+b.length-1-1=(a.length-1)+(b.length-1)by omega];unfold Jm;rw[Yd];exact Lm a b (a.length-1) (b.length-1) Y Y
theorem Q7{q:List Rat}(h:q≠[]):EA p q=Js p q:=BB h
section
variable {q w y:List Rat}
end

