import Derived.Test.YtakpoihdghihmaaGreatDoorC45
set_option maxRecDepth 100000
set_option maxHeartbeats 16000000
namespace Go.Proofs.YtakpoihdghihmaaGreatDoor
section
open Go.RowKit Go.Shelf
def kG(s:List Rat × List Rat):List Rat × List Rat:=(GK s.1 (JQ s.1 (YA s.2 (Jc s.1))),GK (YA s.2 (Jc s.1)) (JQ s.1 (YA s.2 (Jc s.1))))
def ES(w y:List Rat):Nat->List Rat × List Rat
 |0=>(w,y)
 |n+1=>kG (ES w y n)
def yP(s:List Rat × List Rat):List Rat:=JQ s.1 (YA s.2 (Jc s.1))
structure StOk(K M:Nat)(w y:List Rat):Prop where
 ch:M3.ChOk K w (YA y (Jc w))
 ty:Jd y=y
 cw:Cd M w
 cs:Cd M (Jc w)
 cy:Cd M y
 cz:Cd M (YA y (Jc w))
 kM:DW K w (YA y (Jc w))<=M
 l1:2*((w.length+3)*(M+1))<=1000000
 l2:2*(((YA y (Jc w)).length+3)*(M+1))<=1000000
structure PtOk(K M N:Nat)(p:List Rat):Prop where
 tp:Jd p=p
 cp:Cd M p
 ch:M3.ChOk K (Jy p) (Jc (Jy p))
 kM:DW K (Jy p) (Jc (Jy p))<=M
 l1:2*((p.length+3)*(M+1))<=1000000
 gt:1<p.length
 nN:N<=1000000
 st:∀n,n<N->1<(ES (GK (Jy p) (JQ (Jy p) (Jc (Jy p)))) (GK (Jc (Jy p)) (JQ (Jy p) (Jc (Jy p)))) n).1.length/\StOk K M (ES (GK (Jy p) (JQ (Jy p) (Jc (Jy p)))) (GK (Jc (Jy p)) (JQ (Jy p) (Jc (Jy p)))) n).1 (ES (GK (Jy p) (JQ (Jy p) (Jc (Jy p)))) (GK (Jc (Jy p)) (JQ (Jy p) (Jc (Jy p)))) n).2
 en:(ES (GK (Jy p) (JQ (Jy p) (Jc (Jy p)))) (GK (Jc (Jy p)) (JQ (Jy p) (Jc (Jy p)))) N).1.length<=1
namespace M3
section
variable {base:Nat} {V V':World} {v:Value} {L:List (List Rat × Nat)}
end
attribute [local go_sem] Oper.semAt_some
end M3
end
section
variable{P g p:List Rat}{M l n:Nat}{r:Nat->Int}{c:Rat}
theorem kH:∀D:Nat,1<D->∃l,1<l/\l∣D/\∀a:Nat,¬l∣a->Nat.gcd l a=1:=by
 intro D;induction D using Nat.strongRecOn with
 |ind D i=>
  intro hD;by_cases h:∀d,d∣D->d=1\/d=D
  . refine⟨D,hD,Nat.dvd_refl _,λa f=>?_⟩;rcases h _ (FE D a)with e|e
    . exact e
    . exact absurd (e ▸ C8 D a) f
  . obtain⟨d,g⟩:=Classical.not_forall.1 h;obtain⟨b,c⟩:=Classical.not_imp.1 g;have k:d≠1/\d≠D:=⟨λe=>c (Or.inl e),λe=>c (Or.inr e)⟩;have m:d<=D:=Nat.le_of_dvd O b;have n:d≠0:=λe=>by subst e;have:=Nat.zero_dvd.1 b;omega
    obtain⟨l,l1,l2,j⟩:=i d O O;exact⟨l,l1,Nat.dvd_trans l2 b,j⟩
theorem UW{P:Nat->Prop}(h:∃a,P a):∃a,P a/\∀i,i<a->¬P i:=by
 obtain⟨a,d⟩:=h;induction a using Nat.strongRecOn with
 |ind a f=>
  by_cases h:∃i,i<a/\P i
  . obtain⟨i,b,c⟩:=h;exact f i b c
  . exact⟨a,d,λi e hp=>h ⟨i,e,hp⟩⟩
theorem kI{l:Int}{f:Nat->Int}{a:Nat}:∀n,a<n->(∀i,i<n->i≠a->l∣f i)->l∣YO n f->l∣f a:=by
 have j:∀n,(∀i,i<n->l∣f i)->l∣YO n f:=λn=>by
  induction n with
  |zero=>exact λ_=>Int.dvd_zero _
  |succ n d=>exact λh=>by rw[YO];exact Int.dvd_add (d λi g=>h i O) (h n O)
 intro n;induction n with
 |zero=>intro h;omega
 |succ n d=>
  intro o h c;rw[YO]at c;by_cases e:a=n
  . subst e;have m:=j a λi g=>h i O O;have b:=Int.dvd_sub c m;rwa[show YO a f+f a-YO a f=f a by omega]at b
  . refine d O (λi g=>h i O) ?_;have b:=Int.dvd_sub c (h n O λk=>e k.symm);rwa[show YO n f+f n-f n=YO n f by omega]at b
theorem kJ(hl:∀a:Nat,¬l∣a->Nat.gcd l a=1){s:Nat->Int}(p:∀i,n<=i->r i=0)(h:∀k,(l:Int)∣YO n λi=>if i<=k then r i*s (k-i)else 0)(o:∃a,¬(l:Int)∣r a)(q:∃b,¬(l:Int)∣s b):False:=by
 obtain⟨a,e,g⟩:=UW o;obtain⟨b,j,m⟩:=UW q;have f:a<n:=by
  by_cases c:a<n
  . exact c
  . exact absurd (by rw[p a O];exact Int.dvd_zero _) e
 have c:=kI n f (λi t u=>by
  split
  . by_cases d:i<a
    . exact Int.dvd_trans (Classical.not_not.1 (g i d)) (Int.dvd_mul_right _ _)
    . exact Int.dvd_trans (Classical.not_not.1 (m (a+b-i) O)) (Int.dvd_mul_left _ _)
  . exact Int.dvd_zero _) (h (a+b))
 rw[BC O,show a+b-a=b by omega,CY]at c;exact j (dvd_one c (by rw[AK];exact hl _ λd=>e (C3.2 d)))
theorem kK{L G:Int}(M:∀i,((cf p i).den:Int)∣L)(N:∀u:Int,(∀i,((cf p i).den:Int)∣u)->L∣u)(I:∀i,G∣(cf p i).num)(K:∀v:Int,(∀i,v∣(cf p i).num)->v∣G)(H:G≠0)(Q:∀i,∃z:Int,cf p i*c=(z:Rat)):
 ∃t:Int,∀i,∃r:Int,cf p i*((L:Rat)/(G:Rat))=(r:Rat)/\cf p i*c=((r*t:Int):Rat):=by
 have y:(c.den:Int)≠0:=by have:=c.den_nz;omega
 have j:∀i,∃z:Int,cf p i*c=(z:Rat)/\(cf p i).num*c.num=z*((cf p i).den*c.den):=λi=>by
  obtain⟨z,b⟩:=Q i;refine⟨z,b,?_⟩;have B:c*(c.den:Rat)=(c.num:Rat):=Ig c;have a:cf p i*((cf p i).den:Rat)=((cf p i).num:Rat):=Ig _;have C:(((cf p i).num*c.num:Int):Rat)=((z*(((cf p i).den:Int)*(c.den:Int)):Int):Rat):=by
   rw[AJ,AJ,AJ,AY,AY,<-B,<-a,<-b];grind
  exact Rat.intCast_inj.1 C
 have l:L∣c.num:=N _ λi=>by
  obtain⟨z,_,e⟩:=j i;have g:((cf p i).den:Int)∣(cf p i).num*c.num:=⟨z*c.den,by rw[e,Int.mul_left_comm]⟩;rw[CY]at g;refine dvd_one g ?_;rw[AK,C4];exact(cf p i).reduced
 have n:(c.den:Int)∣G:=K _ λi=>by
  obtain⟨z,_,e⟩:=j i;have g:(c.den:Int)∣(cf p i).num*c.num:=⟨z*(cf p i).den,by rw[e,<-CT,CY]⟩;refine dvd_one g ?_;rw[AK,C4];exact c.reduced
 obtain⟨u,l⟩:=l;obtain⟨v,n⟩:=n;refine⟨u*v,λi=>?_⟩;obtain⟨e,s⟩:=M i;obtain⟨m,w⟩:=I i;obtain⟨z,D,b⟩:=j i;have P:((cf p i).den:Int)≠0:=by have:=(cf p i).den_nz;omega
 have A:z=m*e*(u*v):=by
  have E:z*(((cf p i).den:Int)*c.den)=m*e*(u*v)*(((cf p i).den:Int)*c.den):=by
   rw[<-b,w,l,n,s];generalize ((cf p i).den:Int)=d;generalize (c.den:Int)=f;grind
  exact Int.eq_of_mul_eq_mul_right (Cn P y) E
 refine⟨m*e,?_,by rw[D,A]⟩;have o:(G:Rat)≠0:=by exact_mod_cast H
 have a:cf p i*((cf p i).den:Rat)=((cf p i).num:Rat):=Ig _;rw[w,AJ]at a;have x:(L:Rat)=((cf p i).den:Rat)*(e:Rat):=by rw[s,AJ,AY]
 have k:(L:Rat)/(G:Rat)*(G:Rat)=L:=Ar o;have F:(cf p i*((L:Rat)/(G:Rat))-((m*e:Int):Rat))*(G:Rat)=0:=by
  rw[AJ];generalize (L:Rat)/(G:Rat)=f at k ⊢;rw[x]at k;generalize ((cf p i).den:Rat)=d at a k;grind
 rcases CP.1 F with q|q
 . grind
 . exact absurd q o
theorem UX(hp:Jd p=p)(e:p≠[])(l:∀i,∃z:Int,cf p i*c=(z:Rat)):∃t:Int,∀i,∃r:Int,cf (JK p) i=(r:Rat)/\cf p i*c=((r*t:Int):Rat):=by
 have b:∀i,p.length<=i->cf p i=0:=λi a=>J3 a;obtain⟨t,g⟩:=kK (p:=p) (L:=(Xt p p.length:Int)) (G:=(Xj p p.length:Int)) (λi=>by
  by_cases a:i<p.length
  . exact Int.natCast_dvd_natCast.2 (Ps p _ i a)
  . rw[b i O];exact Int.one_dvd _) (λu j=>C3.2 (Pt p _ (λi=>C3.1 (j i)) _)) (λi=>by
  by_cases a:i<p.length
  . exact C3.2 (Pv p _ i a)
  . rw[b i O];exact Int.dvd_zero _) (λv k=>by
  have:v.natAbs∣Xj p p.length:=UD p _ (λi=>FV.2 (k i)) _
  exact Int.natAbs_dvd.1 (Int.natCast_dvd_natCast.2 this)) (by have:=MB hp e;omega) l
 refine⟨t,λi=>?_⟩;obtain⟨r,d,f⟩:=g i;refine⟨r,?_,f⟩;unfold JK;rw[Y4];rw[AY,AY]at d;exact d
theorem UY(hp:Jd p=p)(m:p≠[])(o:∀i,cf (JK p) i=(r i:Rat))(hl:1<l):∃i,¬(l:Int)∣r i:=by
 by_cases h:∃i,¬(l:Int)∣r i
 . exact h
 . exfalso
   have u:∀i,(l:Int)∣r i:=λi=>Classical.not_not.1 λb=>h ⟨i,b⟩;have d:(l:Rat)≠0:=by exact_mod_cast (show l≠0 by omega)
   obtain⟨c,n,e⟩:=Hn hp;have w:c≠0:=λg=>by rw[g]at n;exact absurd n DO
   have f:∀i,cf p i*c=(r i:Rat):=λi=>by rw[<-Y4,<-e,o]
   obtain⟨t,D⟩:=UX hp m (c:=c/(l:Rat)) (λi=>by
    obtain⟨q,hq⟩:=u i;refine⟨q,?_⟩;have b:c/(l:Rat)*(l:Rat)=c:=Ar d;have j:=f i;rw[hq,AJ,AY]at j;have a:(cf p i*(c/(l:Rat))-(q:Rat))*(l:Rat)=0:=by grind
    rcases CP.1 a with k|k
    . grind
    . exact absurd k d)
   obtain⟨E,b,j⟩:=D (p.length-1);have s:=Js hp m;have x:E=r (p.length-1):=Rat.intCast_inj.1 (by rw[<-b,o]);have v:r (p.length-1)≠0:=λg=>by
    have a:=f (p.length-1);rw[g]at a;exact Hm s w a
   have a:=f (p.length-1);have k:c/(l:Rat)*(l:Rat)=c:=Ar d;have y:((r (p.length-1):Int):Rat)=(((r (p.length-1))*(t*(l:Int)):Int):Rat):=by
    rw[<-a,AJ,AJ,AY];rw[x,AJ]at j;grind
   have z:=Rat.intCast_inj.1 y;have A:t*(l:Int)=1:=by
    have B:r (p.length-1)*1=r (p.length-1)*(t*(l:Int)):=by rw[Int.mul_one];exact z
    exact(Int.eq_of_mul_eq_mul_left v B).symm
   have C:(l:Int)∣1:=⟨t,by rw[CY];exact A.symm⟩;have F:=Int.le_of_dvd DO C;omega
theorem P9(hp:Jd p=p)(b:p≠[]):∀i,∃r:Int,cf (JK p) i=(r:Rat):=by
 obtain⟨t,k⟩:=UX hp b (c:=(Xt p p.length:Rat)) (λi=>by
  have f:(cf p i).den∣Xt p p.length:=by
   by_cases j:i<p.length
   . exact Ps p _ i j
   . rw[J3 O];exact Nat.one_dvd _
  obtain⟨e,g⟩:=f;refine⟨(cf p i).num*(e:Int),?_⟩;have a:cf p i*((cf p i).den:Rat)=((cf p i).num:Rat):=Ig _;rw[g,AJ,<-a,AY,Rat.natCast_mul];grind)
 intro i;obtain⟨r,d,_⟩:=k i;exact⟨r,d⟩
theorem kL(B:Jd P=P)(u:P≠[])(T:∀i,∃z:Int,cf P i=(z:Rat))(o:Jd g=g)(h:Dv g P):
 ∃H:List Rat,Jd H=H/\P=JB (JK g) H/\∀i,∃z:Int,cf H i=(z:Rat):=by
 have y:g≠[]:=λe=>u (by
  obtain⟨c,j⟩:=h;exact Xu B λx=>by rw[j,e];simp[ev])
 obtain⟨M,C,N⟩:=Hn o;have F:M≠0:=λm=>by rw[m]at C;exact absurd C DO
 have R:Dv (JK g) P:=by rw[N];exact h.of_sc F
 obtain⟨H,f,eP⟩:=R.some B;have t:H≠[]:=λe=>u (by rw[eP,e];exact Xw _);refine⟨H,f,eP,?_⟩;obtain⟨c,j,w⟩:=Hn f;have K:c≠0:=λm=>by rw[m]at j;exact absurd j DO
 obtain⟨r,p⟩:=Classical.axiomOfChoice (P9 o y);obtain⟨s,q⟩:=Classical.axiomOfChoice (P9 f t);obtain⟨z,U⟩:=Classical.axiomOfChoice T;have D:DU c P=JB (JK g) (JK H):=by
  refine GA (JM _ _) (YJ _ _) λx=>?_;have a:ev P x=ev (JK g) x*ev H x:=by rw[<-Jk,<-eP]
  rw[JW,Jk,w,JW,a];grind
 have I:∀k,(z k:Rat)*c=((YO (JK g).length (λi=>if i<=k then r i*s (k-i)else 0):Int):Rat):=λk=>by
  rw[<-U k,<-Y4,D,Pq _ _ (Aa _)];refine Pp λi _=>?_;split
  . rw[p,q,AJ]
  . rfl
 have v:c*(c.den:Rat)=(c.num:Rat):=Ig c;have E:∀k,z k*c.num=(c.den:Int)*YO (JK g).length (λi=>if i<=k then r i*s (k-i)else 0):=λk=>by
  have a:((z k*c.num:Int):Rat)=(((c.den:Int)*YO (JK g).length (λi=>if i<=k then r i*s (k-i)else 0):Int):Rat):=by
   rw[AJ,AJ,<-I k,AY,<-v];grind
  exact Rat.intCast_inj.1 a
 have L:c.num≠0:=λe=>K (Fv.1 e);have G:c.num.natAbs=1:=by
  by_cases a:c.num.natAbs=1
  . exact a
  . exfalso
    have A:c.num.natAbs≠0:=Int.natAbs_ne_zero.2 L;obtain⟨l,l1,l2,V⟩:=kH c.num.natAbs O;refine kJ V (r:=r) (s:=s) (n:=(JK g).length) (λi S=>?_) (λk=>?_) (UY o y p l1) (UY f t q l1)
    . have b:=p i;rw[J3 S]at b;exact(Rat.intCast_inj.1 (show((0:Int):Rat)=_ from b)).symm
    . have b:(l:Int)∣(c.den:Int)*YO (JK g).length (λi=>if i<=k then r i*s (k-i)else 0):=by
       rw[<-E k];exact Int.dvd_trans (C3.2 l2) (Int.dvd_mul_left _ _)
      rw[CY]at b;refine dvd_one b ?_;rw[AK,AK];have d:Nat.gcd l c.den∣Nat.gcd c.num.natAbs c.den:=Nat.dvd_gcd (Nat.dvd_trans (FE _ _) l2) (C8 _ _);have Q:Nat.gcd c.num.natAbs c.den=1:=c.reduced;rw[Q]at d;exact Nat.dvd_one.1 d
 intro i;refine⟨s i*(c.den:Int)*c.num,?_⟩;have a:cf H i*c=(s i:Rat):=by rw[<-q,w,Y4]
 have A:(c.num:Rat)*(c.num:Rat)=1:=by
  rw[<-AJ];have b:c.num*c.num=1:=by
   rcases Int.natAbs_eq c.num with e|e<;>(rw[G]at e;rw[e];rfl)
  rw[b];rfl
 rw[AJ,AJ,AY,<-a];have d:cf H i*c*(c.den:Rat)*(c.num:Rat)=cf H i*(c.num*c.num:Rat):=by rw[Rat.mul_assoc (cf H i),v,Rat.mul_assoc]
 rw[d,A,Rat.mul_one]
def D7:List Int->Int->Int
 |[],_=>0
 |c::t,x=>c+x*D7 t x
def cz(g:List Int)(i:Nat):Int:=g[i]?.getD 0
theorem UZ(i:Nat):cz [] i=0:=rfl
theorem Nz(c:Int)(t:List Int):cz (c::t) 0=c:=rfl
theorem MH(c:Int)(t:List Int)(i:Nat):cz (c::t) (i+1)=cz t i:=rfl
theorem QA{g:List Int}{i:Nat}(h:g.length<=i):cz g i=0:=by unfold cz;rw[As h];rfl
def YP:List Int->Int->List Int × Int
 |[],_=>([],0)
 |c::t,k=>((YP t k).2::(YP t k).1,c+k*(YP t k).2)
theorem QB(k x:Int):∀g:List Int,D7 g x=(x-k)*D7 (YP g k).1 x+(YP g k).2:=by
 intro g;induction g with
 |nil=>simp[D7,YP]
 |cons c t a=>rw[D7,YP,a];simp only[D7];grind
theorem U0(k:Int)(g:List Int):(YP g k).2=D7 g k:=by
 have h:=QB k k g;rw[Int.sub_self,Int.zero_mul,Int.zero_add]at h;exact h.symm
theorem QC(k:Int):∀(g:List Int),cz g 0=(YP g k).2-k*cz (YP g k).1 0/\∀i,cz g (i+1)=cz (YP g k).1 i-k*cz (YP g k).1 (i+1):=by
 intro g;induction g with
 |nil=>exact⟨by simp[UZ,YP],λi=>by simp[UZ,YP]⟩
 |cons c t a=>
  rw[YP];refine⟨by rw[Nz,Nz];omega,λi=>?_⟩;cases i with
  |zero=>rw[MH,Nz,MH];exact a.1
  |succ i=>rw[MH,MH,MH];exact a.2 i
theorem U4(k:Int)(g:List Int){m:Nat}(h:∀i,m+1<=i->cz g i=0):∀i,m<=i->cz (YP g k).1 i=0:=by
 have b:∀d i,m<=i->(YP g k).1.length<=i+d->cz (YP g k).1 i=0:=λd=>by
  induction d with
  |zero=>intro i _ c;exact QA O
  |succ d j=>
   intro i a c;have e:=j (i+1) O O;have f:=(QC k g).2 i;rw[h (i+1) O,e,Int.mul_zero]at f;omega
 intro i a;exact b (YP g k).1.length i a O
theorem kN:∀(m:Nat) (g:List Int),(∀i,m<=i->cz g i=0)->(∃i,cz g i≠0)->∀b:List Int,b.Nodup->(∀k∈b,D7 g k=0)->b.length<m:=by
 intro m;induction m with
 |zero=>intro g h ⟨i,s⟩;exact absurd (h i O) s
 |succ m u=>
  intro g h ⟨t,c⟩ b e o;cases b with
  |nil=>simp
  |cons a b=>
   rw[List.nodup_cons]at e;have q:(YP g a).2=0:=by rw[U0];exact o a Z
   have hq:∃i,cz (YP g a).1 i≠0:=by
    by_cases f:∃i,cz (YP g a).1 i≠0
    . exact f
    . exfalso
      have d:∀i,cz (YP g a).1 i=0:=λi=>Classical.not_not.1 λr=>f ⟨i,r⟩;have j:=QC a g;cases t with
      |zero=>rw[j.1,q,d]at c;simp at c
      |succ i=>rw[j.2,d,d]at c;simp at c
   have v:=u (YP g a).1 (U4 a g h) hq b e.2 (λk p=>by
    have l:=QB a k g;rw[o k (by simp[p]),q,Int.add_zero]at l;rcases Int.mul_eq_zero.1 l.symm with n|n
    . exact absurd (show k∈b from p) λw=>e.1 (by rwa[show a=k by omega])
    . exact n)
   simp only[Ai];omega
theorem kO(B:Nat):∀(m:Nat) (g:List Int) (M:Nat),(∀i,m<=i->cz g i=0)->∀b:List Int,b.Nodup->b.length=m->(∀k∈b,(D7 g k).natAbs<=M/\k.natAbs<=B)->∀i,(cz g i).natAbs<=M*(2*B+3)^m:=by
 intro m;induction m with
 |zero=>intro g M h b _ _ _ i;rw[h i O];simp
 |succ m v=>
  intro g M h b f hl o i;cases b with
  |nil=>simp at hl
  |cons a b=>
   rw[List.nodup_cons]at f;obtain⟨p,q⟩:=o a Z;have D:((YP g a).2).natAbs<=M:=by rw[U0];exact p
   have hq:=v (YP g a).1 (2*M) (U4 a g h) b f.2 (by simpa using hl) (λk u=>by
    obtain⟨n,c⟩:=o k (by simp[u]);refine⟨?_,c⟩;have z:=QB a k g;have r:(k-a)*D7 (YP g a).1 k=D7 g k-(YP g a).2:=O
    have s:(k-a).natAbs*(D7 (YP g a).1 k).natAbs<=2*M:=by
     rw[<-CK,r];omega
    have t:0<(k-a).natAbs:=Int.natAbs_pos.2 λe=>f.1 (by rwa[show a=k by omega]);exact Am (Fk _ t) s)
   obtain⟨X,d⟩:∃X,2*M*(2*B+3)^m=X:=⟨_,rfl⟩;rw[d]at hq;have A:2*M<=X:=by rw[<-d];exact Co _ (C6 O)
   have C:X+B*X<=M*(2*B+3)^(m+1):=by
    have e:M*(2*B+3)^(m+1)*2=X*(2*B+3):=by rw[<-d,AZ];grind
    have w:X*(2*B+3)=2*(B*X)+3*X:=by grind
    omega
   have j:∀y:Int,(a*y).natAbs<=B*y.natAbs:=λy=>by rw[CK];exact Ah _ q
   have l:=QC a g;cases i with
   |zero=>
    rw[l.1];have n:=j (cz (YP g a).1 0);have c:B*(cz (YP g a).1 0).natAbs<=B*X:=Ap _ (hq 0);omega
   |succ i=>
    rw[l.2];have n:=j (cz (YP g a).1 (i+1));have c:B*(cz (YP g a).1 (i+1)).natAbs<=B*X:=Ap _ (hq (i+1));have x:=hq i;omega
theorem kP{B:Nat}:∀(g:List Int) (k:Int),(∀i,(cz g i).natAbs<=M)->k.natAbs<=B->(D7 g k).natAbs<=M*(B+1)^g.length:=by
 intro g;induction g with
 |nil=>intro k _ _;simp[D7]
 |cons c t l=>
  intro k h e;have b:=l k (λi=>h (i+1)) e;have j:=h 0;rw[Nz]at j;rw[D7,Ai,AZ];obtain⟨a,d⟩:=ex ((B+1)^t.length);rw[d]at b ⊢;have f:1<=a:=by rw[<-d];exact C6 O
  have m:(k*D7 t k).natAbs<=B*(M*a):=by rw[CK];exact Cu e b
  have n:M<=M*a:=Co _ f;have o:M*(a*(B+1))=M*a+B*(M*a):=by grind
  have p:=FW c (k*D7 t k);omega
def MI(g:List Int):List Rat:=g.map (λz:Int=>(z:Rat))
theorem QD(g:List Int)(i:Nat):cf (MI g) i=(cz g i:Rat):=by
 unfold cf MI cz;rw[C7];cases g[i]? with
 |none=>rfl
 |some z=>rfl
theorem QE(k:Int):∀g:List Int,ev (MI g) (k:Rat)=(D7 g k:Rat):=by
 intro g;induction g with
 |nil=>rfl
 |cons c t a=>
  show(c:Rat)+(k:Rat)*ev (MI t) (k:Rat)=_;rw[a,D7,Rat.intCast_add,AJ]
theorem QF(h:∀i,∃z:Int,cf p i=(z:Rat)):∃g:List Int,p=MI g/\g.length=p.length:=by
 induction p with
 |nil=>exact⟨[],rfl,rfl⟩
 |cons c t e=>
  obtain⟨g,b,d⟩:=e (λi=>by have:=h (i+1);rwa[Ya]at this);obtain⟨z,a⟩:=h 0;rw[Y6]at a;exact⟨z::g,by rw[a,b];rfl,by simp[d]⟩
theorem nodup_range(n:Nat):((List.range n).map (λi:Nat=>(i:Int))).Nodup:=by
 refine List.Pairwise.map _ ?_ (List.nodup_range (n:=n));intro a b h e;exact h O
theorem kQ(x:Jd P=P)(f:P≠[])(hl:P.length<=n+1)(s:∀i,∃z:Int,z.natAbs<=M/\cf P i=(z:Rat))(y:Jd g=g)(h:Dv g P):
 ∀i,∃z:Int,z.natAbs<=M*(2*n+1)^(n+1)*(2*(2*n)+3)^(n+1)/\cf (JK g) i=(z:Rat):=by
 obtain⟨H,K,eP,L⟩:=kL x f (λi=>by obtain⟨z,_,c⟩:=s i;exact⟨z,c⟩) y h;have I:g≠[]:=λe=>f (by rw[eP,e];rfl);have t:H≠[]:=λe=>f (by rw[eP,e];exact Xw _);obtain⟨a,m,lp⟩:=QF (p:=P) (λi=>by obtain⟨z,_,c⟩:=s i;exact⟨z,c⟩);obtain⟨j,w,lg⟩:=QF (P9 y I);obtain⟨N,G,lh⟩:=QF L;have X:(JK g).length<=n+1:=by
  have b:=JX (YI g) K (λe=>f (by rw[eP,e];rfl)) t;rw[<-eP]at b;have c:0<H.length:=Ae.2 t;omega
 have E:∀i,(cz a i).natAbs<=M:=λi=>by
  obtain⟨z,b,c⟩:=s i;rw[m,QD]at c;rwa[Rat.intCast_inj.1 c]
 have u:∀k:Int,D7 a k=D7 j k*D7 N k:=λk=>by
  have b:ev P (k:Rat)=ev (JK g) (k:Rat)*ev H (k:Rat):=by rw[<-Jk,<-eP]
  rw[m,w,G,QE,QE,QE,<-AJ]at b;exact Rat.intCast_inj.1 b
 obtain⟨R,o⟩:=ex ((List.range (2*n+1)).map (λi:Nat=>(i:Int)));have v:R.Nodup:=by rw[<-o];exact nodup_range _
 have V:R.length=2*n+1:=by rw[<-o];simp
 have C:∀k∈R,k.natAbs<=2*n:=λk d=>by
  rw[<-o]at d;obtain⟨i,r,rfl⟩:=CJ.1 d;have:=List.mem_range.1 r;omega
 have W:(R.filter λk=>D7 a k==0).length<n+1:=by
  refine kN (n+1) a (λi r=>QA O) ?_ _ (v.filter _) (λk d=>by
   have:=(FK.1 d).2;simpa using this)
  refine⟨P.length-1,λe=>Js x f ?_⟩;have b:=QD a (P.length-1);rw[<-m,e]at b;exact b
 have ad:(R.filter λk=>D7 a k==0).length+(R.filter λk=>!(D7 a k==0)).length=R.length:=by
  rw[<-List.countP_eq_length_filter,<-List.countP_eq_length_filter];have b:=List.length_eq_countP_add_countP (l:=R) λk=>D7 a k==0;have c:List.countP (λk=>!(D7 a k==0)) R=List.countP (λk=>decide ¬((D7 a k==0)=true)) R:=by congr 1;funext k;cases(D7 a k==0)<;>rfl
  omega
 obtain⟨S,q⟩:=ex ((R.filter λk=>!(D7 a k==0)).take (n+1));have B:S.length=n+1:=by rw[<-q,Ak];omega
 have D:S.Nodup:=by rw[<-q];exact List.Sublist.nodup (List.take_sublist _ _) (v.filter _)
 have F:∀k∈S,D7 a k≠0/\k.natAbs<=2*n:=λk d=>by
  rw[<-q]at d;have b:=FK.1 (Ff d);refine⟨?_,C k b.1⟩;have:=b.2;simpa using this
 have A:=kO (2*n) (n+1) j (M*(2*n+1)^(n+1)) (λi r=>QA O) S D B (λk d=>by
  obtain⟨b,c⟩:=F k d;refine⟨?_,c⟩;have Q:=kP a k E c;have T:M*(2*n+1)^a.length<=M*(2*n+1)^(n+1):=Ap _ (Aw O O);have U:(D7 j k).natAbs<=(D7 a k).natAbs:=by
   rw[u k,CK];refine Co _ (Int.natAbs_pos.2 λe=>b ?_);rw[u k,e,Int.mul_zero]
  omega)
 intro i;exact⟨cz j i,A i,by rw[w,QD]⟩
theorem Dv.lnN{K e:Nat}(b:Jd P=P)(s:P≠[])(hl:P.length<=n+1)(F:(2*n+1)^(n+1)*(2*(2*n)+3)^(n+1)<=DN^e)(G:Ln K P)(r:Jd g=g)(h:Dv g P):Ln (K+e) g:=by
 obtain⟨c,p,o⟩:=Hn b;have v:c≠0:=λf=>by rw[f]at p;exact absurd p DO
 have C:JK P≠[]:=by rw[o];exact LM v b s
 have D:Dv g (JK P):=by rw[o];exact h.sc c
 have x:=LO b G;have y:=kQ (n:=n) (M:=DN^K-1) (YI P) C (by rw[Yc b];omega) (λi=>by
  obtain⟨z,j,k⟩:=x i;unfold Sm at j;exact⟨z,O,k⟩) r D
 have A:Eh (K+e) (JK g):=λi=>by
  obtain⟨z,j,k⟩:=y i;refine⟨z,?_,k⟩;unfold Sm;have I:0<DN^K:=C6 KK;have t:0<DN^e:=C6 KK;have a:(DN^K-1)*((2*n+1)^(n+1)*(2*(2*n)+3)^(n+1))<=(DN^K-1)*DN^e:=Ap _ F;rw[<-AA]at a;have l:(DN^K-1)*DN^e<DN^K*DN^e:=(Nat.mul_lt_mul_right t).2 O;rw[CV];exact Cr j (Cr a l)
 obtain⟨m,q,w⟩:=Hn r;have u:m≠0:=λf=>by rw[f]at q;exact absurd q DO
 have a:=A.ln;rw[w]at a;obtain⟨d,E,H⟩:=a;refine⟨m*d,Hm u E,λi=>?_⟩;obtain⟨z,l,B⟩:=H i;exact⟨z,l,by rw[<-B,Y4];grind⟩
theorem kR:(2*24+1)^(24+1)*(2*(2*24)+3)^(24+1)<=DN^5:=by unfold DN;decide
theorem Dv.len{a b:List Rat}(g:Jd a=a)(i:Jd b=b)(b0:b≠[])(h:Dv a b):a.length<=b.length/\a≠[]:=by
 obtain⟨c,j,e⟩:=h.some i;have f:a≠[]:=λd=>b0 (by rw[e,d];rfl);have c0:c≠[]:=λd=>b0 (by rw[e,d];exact Xw _);have l:=JX g j f c0;rw[<-e]at l
 have:0<c.length:=Ae.2 c0
 exact⟨O,f⟩
theorem U5{q:List Rat}(h:q≠[]):GK p q=Jz p q:=BB h
section
variable {q w y:List Rat}
end
end
theorem kS(c:Rat)(p:List Rat){q:List Rat}(hq:Jd q=q)(q0:q≠[]):Jz (DU c p) q=DU c (Jz p q):=by
 have h:=(L8 (c:=c) (d:=1) DO p q hq q0).1;rw[Ie hq,show c/1=c by grind]at h;exact h
def QG(p w y:List Rat):Nat->List Rat
 |0=>p
 |n+1=>Jz (QG p w y n) (ES w y n).1
section
variable {p q w y:List Rat}
end
variable{p:List Rat}
theorem QH(tp:Jd p=p)(p0:p≠[]):cf p (p.length-1)≠0/\p=DU (cf p (p.length-1)) (Jy p):=by
 have h:=Js tp p0;refine⟨h,?_⟩;unfold Jy;rw[Kf,show 1/cf p (p.length-1)*cf p (p.length-1)=1 by grind,Ie tp]
theorem kT(k:Rat)(p:List Rat):Jc (DU k p)=DU k (Jc p):=by
 rw[<-JP (DU k p),<-JM k (Jc p)];refine YM λi=>?_;rw[MG,Y4,Y4,MG];grind
theorem kU(tp:Jd p=p)(p0:p≠[]):I6 p=GK (Jy p) (JQ (Jy p) (Jc (Jy p))):=by
 obtain⟨g,_⟩:=QH tp p0;obtain⟨k,d⟩:∃k,1/cf p (p.length-1)=k:=⟨_,rfl⟩;have b:k≠0:=by rw[<-d];exact IA g
 have c:Jy p=DU k p:=by unfold Jy;rw[d]
 have tq:Jd (Jy p)=Jy p:=YD _;have q0:Jy p≠[]:=LN tp p0;have f:JQ (Jy p) (Jc (Jy p))=JQ p (Jc p):=by
  rw[c,kT];exact MA b b tp (JP _)
 have a:JQ p (Jc p)≠[]:=I5 tp (JP _) (Or.inl p0);have i:=(XU tq (JP (Jy p))).1;have e:=(P7 tq q0 (I1 tp) (YE _ _) (MF tq (JP (Jy p))) i).1;rw[f]at e ⊢;rw[U5 a];unfold I6;rw[U5 a,<-e,c,kS k p (YE _ _) a];exact(L9 b (Xn _ _)).symm
theorem kV{q g:List Rat}(tq:Jd q=q)(q0:q≠[])(lq:q.length<=25)(cq:Cd 75 q)(a:Jd g=g)(c:Jy g=g)(h:Dv g q):Cd 80 g:=by
 have b:=h.lnN (n:=24) tq q0 O kR cq.ln a;have:=LP a (b.mono (L:=80) O) O;rwa[c]at this
theorem Cd.scale{A B:Nat}{r:List Rat}(hp:Cd A p)(f:Cd B r)(i:Nat):Cd (A+B) (DU (cf r i) p):=by
 obtain⟨D,d1,a,b⟩:=hp;obtain⟨E,c,d,e⟩:=f;exact⟨D*E,Cn d1 c,a.mul d,λj=>by rw[Y4];exact(b j).mul (e i)⟩
structure StR(K M:Nat)(r f:List Rat):Prop where
 tr:Jd r=r
 cr:Cd M r
 tf:Jd f=f
 f0:f≠[]
 mf:Jy f=f
 ca:Cd M f
 lr:(r.length+3)*(M+1)<=1000000
 lf:(f.length+3)*(M+1)<=1000000
 r1:r.length<=1000
 f1:f.length<=1000
 ch:M3.ChOk K f (Jz r f)
structure ReOk(K M N:Nat)(p w y:List Rat):Prop where
 fr:M3.FrOk K p
 w0:I6 p=w
 nN:N<=1000000
 st:∀n,n<N->1<(ES w y n).1.length/\StR K M (QG p w y n) (ES w y n).1/\Cd M (ES w y (n+1)).1/\Jd (ES w y (n+1)).1=(ES w y (n+1)).1/\(ES w y (n+1)).1≠[]/\Jy (ES w y (n+1)).1=(ES w y (n+1)).1/\
  JQ (ES w y n).1 (QG p w y (n+1))=(ES w y (n+1)).1/\Jz (ES w y n).1 (ES w y (n+1)).1=yP (ES w y n)/\Jy (yP (ES w y n))=yP (ES w y n)/\
  Jd (yP (ES w y n))=yP (ES w y n)/\Cd M (yP (ES w y n))/\(yP (ES w y n)).length<=25
 en:(ES w y N).1.length<=1

