import Derived.Test.YtakpoihdghihmaaGreatDoorU36
set_option linter.all false
open Go.Value renaming slice->C,bool->B
open Go renaming World->G,Value->I
open Go.Proofs.Tryz renaming prog->F
set_option maxRecDepth 99999
set_option maxHeartbeats 0
namespace Go.Proofs.YtakpoihdghihmaaGreatDoor
open Proofs.Tryz
open Go.RowKit Go.Shelf
attribute [local go_sem] Oper.semAt_some
def ku(s:Ja × Ja):Ja × Ja:=(Ex s.1 (JN s.1 (Ys s.2 (Jb s.1))),Ex (Ys s.2 (Jb s.1)) (JN s.1 (Ys s.2 (Jb s.1))))
def D5(w y:Ja):Nat->Ja × Ja
 |0=>(w,y)
 |n+1=>ku (D5 w y n)
def yP(s:Ja × Ja):Ja:=JN s.1 (Ys s.2 (Jb s.1))
structure StOk(K M:Nat)(w y:Ja):Prop where
 ch:M3.ChOk K w (Ys y (Jb w))
 ty:Jc y=y
 cw:Cd M w
 cs:Cd M (Jb w)
 cy:Cd M y
 cz:Cd M (Ys y (Jb w))
 kM:DR K w (Ys y (Jb w))<=M
 l1:2*((w.length+3)*(M+1))<=1000000000
 l2:2*(((Ys y (Jb w)).length+3)*(M+1))<=1000000000
structure PtOk(K M N:Nat)(p:Ja):Prop where
 tp:Jc p=p
 cp:Cd M p
 ch:M3.ChOk K (Jy p) (Jb (Jy p))
 kM:DR K (Jy p) (Jb (Jy p))<=M
 l1:2*((p.length+3)*(M+1))<=1000000000
 gt:1<p.length
 nN:N<=1000000000
 st:∀n,n<N->1<(D5 (Ex (Jy p) (JN (Jy p) (Jb (Jy p)))) (Ex (Jb (Jy p)) (JN (Jy p) (Jb (Jy p)))) n).1.length/\StOk K M (D5 (Ex (Jy p) (JN (Jy p) (Jb (Jy p)))) (Ex (Jb (Jy p)) (JN (Jy p) (Jb (Jy p)))) n).1 (D5 (Ex (Jy p) (JN (Jy p) (Jb (Jy p)))) (Ex (Jb (Jy p)) (JN (Jy p) (Jb (Jy p)))) n).2
 en:(D5 (Ex (Jy p) (JN (Jy p) (Jb (Jy p)))) (Ex (Jb (Jy p)) (JN (Jy p) (Jb (Jy p)))) N).1.length<=1
namespace M3
def Ge(base:Nat)(V:G)(v:I)(L:List (Ja × Nat)):Prop:=Ep true base V v L
section
variable {base:Nat} {V V':World} {v:Value} {L:List (Ja × Nat)}
def Ge.below(h:Ge base V v L)(a:Bl V V'):Ge base V' v L:=Ep.below h a
def Ge.drew(h:Ge base V v L):Ge base V.drew v L:=Ep.below h ((BA _ V).drew)
def Ge.alloc(h:Ge base V v L)(o:Obj):Ge base (V.alloc o) v L:=Ep.below h (Ba V o)
def Ge.set1(h:Ge base V v L){B:Nat}{a:nJ}{l c:Nat}(q:Boxed V B 25 (C a l c))(_:JE (C a l c)=true)(b:I):Ge base (V.setCell ⟨B,0,none⟩ b) v L:=Ep.set h q (λ_ _ g=>Ez q b g)
end
end M3
section
variable{P g:Ja}{M l n:Nat}
theorem kw:∀D:Nat,1<D->∃l,1<l/\l∣D/\∀a:Nat,¬l∣a->Nat.gcd l a=1:=by
 intro D;induction D using Nat.strongRecOn with
 |ind D g=>
  intro hD;by_cases h:∀d,d∣D->d=1\/d=D
  . refine⟨D,hD,Nat.dvd_refl _,λa n=>?_⟩;grind[Fo,CY]
  . obtain⟨d,f⟩:=Classical.not_forall.1 h;obtain⟨b,c⟩:=Classical.not_imp.1 f;have j:d≠1/\d≠D:=⟨λe=>c (An e),λe=>c (Au e)⟩;have k:d<=D:=Nat.le_of_dvd O b;have m:d≠0:=λe=>by subst e;omega
    obtain⟨l,l1,l2,i⟩:=g d O O;exact⟨l,l1,Nat.dvd_trans l2 b,i⟩
theorem VC{P:Nat->Prop}(h:∃a,P a):∃a,P a/\∀i,i<a->¬P i:=by
 obtain⟨a,b⟩:=h;induction a using Nat.strongRecOn with
 |ind a c=>
  grind
theorem kx{l:Int}{f:Nat->Int}{a:Nat}:∀n,a<n->(∀i,i<n->i≠a->l∣f i)->l∣YX n f->l∣f a:=by
 have d:∀n,(∀i,i<n->l∣f i)->l∣YX n f:=λn=>by
  induction n with
  |zero=>exact λ_=>Int.dvd_zero _
  |succ n c=>exact λh=>by rw[YX];grind[Int.dvd_add]
 intro n;induction n with
 |zero=>intro h;omega
 |succ n c=>
  intro o h b;rw[YX]at b;by_cases e:a=n
  . subst e;have j:=d a λi m=>h i O O;have k:=Int.dvd_sub b j;grind
  . refine c O (λi m=>h i O) ?_;have k:=Int.dvd_sub b (h n O λg=>e g.symm);grind
theorem ky(hl:∀a:Nat,¬l∣a->Nat.gcd l a=1){r s:Nat->Int}(t:∀i,n<=i->r i=0)(h:∀k,(l:Int)∣YX n λi=>if i<=k then r i*s (k-i)else 0)(e:∃a,¬(l:Int)∣r a)(f:∃b,¬(l:Int)∣s b):False:=by
 obtain⟨a,g,j⟩:=VC e;obtain⟨b,m,o⟩:=VC f;have d:a<n:=by
  by_cases c:a<n
  . exact c
  . grind[Int.dvd_zero]
 have c:=kx n d (λi p q=>by
  grind[Int.dvd_trans,Int.dvd_mul_right,Int.dvd_mul_left,Int.dvd_zero]) (h (a+b))
 grind[dvd_one,AA,CG]
theorem kz{p:Ja}{L G:Int}(K:∀i,((cf p i).den:Int)∣L)(M:∀u:Int,(∀i,((cf p i).den:Int)∣u)->L∣u)(E:∀i,G∣(cf p i).num)(H:∀v:Int,(∀i,v∣(cf p i).num)->v∣G)(D:G≠0){c:Rat}(P:∀i,∃z:Int,cf p i*c=(z:Rat)):
 ∃t:Int,∀i,∃r:Int,cf p i*((L:Rat)/(G:Rat))=(r:Rat)/\cf p i*c=((r*t:Int):Rat):=by
 have q:(c.den:Int)≠0:=by have:=c.den_nz;omega
 have g:∀i,∃z:Int,cf p i*c=(z:Rat)/\(cf p i).num*c.num=z*((cf p i).den*c.den):=λi=>by
  obtain⟨z,a⟩:=P i;refine⟨z,a,?_⟩;have w:c*(c.den:Rat)=(c.num:Rat):=IG c;have j:cf p i*((cf p i).den:Rat)=((cf p i).num:Rat):=IG _;have x:(((cf p i).num*c.num:Int):Rat)=((z*(((cf p i).den:Int)*(c.den:Int)):Int):Rat):=by
   rw[AH,AH,AH,AP,AP,<-w,<-j,<-a];grind
  exact C3.1 x
 have k:L∣c.num:=M _ λi=>by
  obtain⟨z,_,e⟩:=g i;have b:((cf p i).den:Int)∣(cf p i).num*c.num:=⟨z*c.den,DI⟩;rw[Int.mul_comm]at b;refine dvd_one b ?_;rw[AA,CI];exact(cf p i).reduced
 have l:(c.den:Int)∣G:=H _ λi=>by
  obtain⟨z,_,e⟩:=g i;have b:(c.den:Int)∣(cf p i).num*c.num:=⟨z*(cf p i).den,DI⟩;refine dvd_one b ?_;rw[AA,CI];exact c.reduced
 obtain⟨u,k⟩:=k;obtain⟨v,l⟩:=l;refine⟨u*v,λi=>?_⟩;obtain⟨e,n⟩:=K i;obtain⟨m,o⟩:=E i;obtain⟨z,y,a⟩:=g i;have N:((cf p i).den:Int)≠0:=by have:=(cf p i).den_nz;omega
 have s:z=m*e*(u*v):=by
  have A:z*(((cf p i).den:Int)*c.den)=m*e*(u*v)*(((cf p i).den:Int)*c.den):=by
   rw[<-a,o,k,l,n];generalize ((cf p i).den:Int)=d;generalize (c.den:Int)=f;grind
  exact Int.eq_of_mul_eq_mul_right (AV N q) A
 refine⟨m*e,?_,by rw[y,s]⟩;have Q:(G:Rat)≠0:=by exact_mod_cast D
 have j:cf p i*((cf p i).den:Rat)=((cf p i).num:Rat):=IG _;rw[o,AH]at j;have R:(L:Rat)=((cf p i).den:Rat)*(e:Rat):=by rw[n,AH,AP]
 grind
theorem VD{p:Ja}(hp:Jc p=p)(d:p≠[]){c:Rat}(j:∀i,∃z:Int,cf p i*c=(z:Rat)):∃t:Int,∀i,∃r:Int,cf (JL p) i=(r:Rat)/\cf p i*c=((r*t:Int):Rat):=by
 have b:∀i,p.length<=i->cf p i=0:=λi a=>JZ a;obtain⟨t,e⟩:=kz (p:=p) (L:=(Xv p p.length:Int)) (G:=(Xg p p.length:Int)) (λi=>by
  by_cases a:i<p.length
  . grind[FA,Py]
  . rw[b i O];exact Int.one_dvd _) (λu f=>CG.2 (Pz p _ (λi=>CG.1 (f i)) _)) (λi=>by
  by_cases a:i<p.length
  . exact CG.2 (P0 p _ i a)
  . rw[b i O];exact Int.dvd_zero _) (λv g=>by
  have:v.natAbs∣Xg p p.length:=UT p _ (λi=>FH.2 (g i)) _
  grind[Int.natAbs_dvd,FA]) (by have:=Ly hp d;omega) j
 refine⟨t,λi=>?_⟩;obtain⟨r,k,l⟩:=e i;grind[JL,YY,AP]
theorem VE{p:Ja}(hp:Jc p=p)(k:p≠[]){r:Nat->Int}(m:∀i,cf (JL p) i=(r i:Rat))(hl:1<l):∃i,¬(l:Int)∣r i:=by
 by_cases h:∃i,¬(l:Int)∣r i
 . exact h
 . exfalso
   have n:∀i,(l:Int)∣r i:=λi=>Classical.not_not.1 λa=>h ⟨i,a⟩;have g:(l:Rat)≠0:=by exact_mod_cast (show l≠0 by omega)
   obtain⟨c,H,e⟩:=GP hp;have K:c≠0:=λj=>by grind
   have b:∀i,cf p i*c=(r i:Rat):=λi=>by rw[<-YY,<-e,m]
   obtain⟨t,y⟩:=VD hp k (c:=c/(l:Rat)) (λi=>by
    obtain⟨q,hq⟩:=n i;refine⟨q,?_⟩;have a:c/(l:Rat)*(l:Rat)=c:=AB g;have d:=b i;rw[hq,AH,AP]at d;grind)
   obtain⟨z,a,d⟩:=y (p.length-1);have L:=Jt hp k;have s:z=r (p.length-1):=C3.1 (by rw[<-a,m]);have o:r (p.length-1)≠0:=λj=>by
    have f:=b (p.length-1);rw[j]at f;grind
   have f:=b (p.length-1);have D:c/(l:Rat)*(l:Rat)=c:=AB g;have u:((r (p.length-1):Int):Rat)=(((r (p.length-1))*(t*(l:Int)):Int):Rat):=by
    rw[<-f,AH,AH,AP];rw[s,AH]at d;grind
   have v:=C3.1 u;have E:t*(l:Int)=1:=by
    have w:r (p.length-1)*1=r (p.length-1)*(t*(l:Int)):=by rw[Int.mul_one];exact v
    exact(Int.eq_of_mul_eq_mul_left o w).symm
   have x:(l:Int)∣1:=⟨t,DI⟩;have A:=Int.le_of_dvd DK x;omega
theorem QE{p:Ja}(hp:Jc p=p)(b:p≠[]):∀i,∃r:Int,cf (JL p) i=(r:Rat):=by
 obtain⟨t,k⟩:=VD hp b (c:=(Xv p p.length:Rat)) (λi=>by
  have f:(cf p i).den∣Xv p p.length:=by
   by_cases j:i<p.length
   . exact Py p _ i j
   . rw[JZ O];exact Nat.one_dvd _
  obtain⟨e,g⟩:=f;refine⟨(cf p i).num*(e:Int),?_⟩;have a:cf p i*((cf p i).den:Rat)=((cf p i).num:Rat):=IG _;rw[g,AH,<-a,AP,Rat.natCast_mul];grind)
 intro i;obtain⟨r,d,_⟩:=k i;exact⟨r,d⟩
theorem lC(R:Jc P=P)(j:P≠[])(V:∀i,∃z:Int,cf P i=(z:Rat))(hg:Jc g=g)(h:Dv g P):
 ∃H:Ja,Jc H=H/\P=Jv (JL g) H/\∀i,∃z:Int,cf H i=(z:Rat):=by
 have o:g≠[]:=λe=>j (by
  obtain⟨c,S⟩:=h;grind[XK,ev])
 obtain⟨K,ad,M⟩:=GP hg;have w:K≠0:=λL=>by grind
 have T:Dv (JL g) P:=by rw[M];exact h.of_sc w
 obtain⟨H,d,eP⟩:=T.some R;have f:H≠[]:=λe=>j (by rw[eP,e];exact Xp _);refine⟨H,d,eP,?_⟩;obtain⟨c,S,m⟩:=GP d;have D:c≠0:=λL=>by grind
 obtain⟨r,q⟩:=CF (QE hg o);obtain⟨s,t⟩:=CF (QE d f);obtain⟨z,W⟩:=CF V;have u:DQ c P=Jv (JL g) (JL H):=by
  refine Ea (JK _ _) (Yq _ _) λx=>?_;have a:ev P x=ev (JL g) x*ev H x:=by rw[<-Ji,<-eP]
  rw[J2,Ji,m,J2,a];grind
 have A:∀k,(z k:Rat)*c=((YX (JL g).length (λi=>if i<=k then r i*s (k-i)else 0):Int):Rat):=λk=>by
  rw[<-W k,<-YY,u,Ng _ _ (Aa _)];refine Pv λi _=>?_;split
  . grind
  . rfl
 have E:c*(c.den:Rat)=(c.num:Rat):=IG c;have ae:(c.den:Int)≠0:=by have:=c.den_nz;omega
 have v:∀k,z k*c.num=(c.den:Int)*YX (JL g).length (λi=>if i<=k then r i*s (k-i)else 0):=λk=>by
  have a:((z k*c.num:Int):Rat)=(((c.den:Int)*YX (JL g).length (λi=>if i<=k then r i*s (k-i)else 0):Int):Rat):=by
   rw[AH,AH,<-A k,AP,<-E];grind
  exact C3.1 a
 have y:c.num≠0:=λe=>D (C4.1 e);have ah:c.num.natAbs=1:=by
  by_cases a:c.num.natAbs=1
  . exact a
  . exfalso
    have N:c.num.natAbs≠0:=Int.natAbs_ne_zero.2 y;obtain⟨l,l1,l2,X⟩:=kw c.num.natAbs O;refine ky X (r:=r) (s:=s) (n:=(JL g).length) (λi U=>?_) (λk=>?_) (VE hg o q l1) (VE d f t l1)
    . have b:=q i;rw[JZ U]at b;exact(C3.1 (show((0:Int):Rat)=_ from b)).symm
    . have b:(l:Int)∣(c.den:Int)*YX (JL g).length (λi=>if i<=k then r i*s (k-i)else 0):=by
       rw[<-v k];exact Int.dvd_trans (CG.2 l2) (Int.dvd_mul_left _ _)
      rw[Int.mul_comm]at b;refine dvd_one b ?_;rw[AA,AA];have p:Nat.gcd l c.den∣Nat.gcd c.num.natAbs c.den:=Nat.dvd_gcd (Nat.dvd_trans (Fo _ _) l2) (CY _ _);have Q:Nat.gcd c.num.natAbs c.den=1:=c.reduced;rw[Q]at p;exact Nat.dvd_one.1 p
 intro i;refine⟨s i*(c.den:Int)*c.num,?_⟩;have a:cf H i*c=(s i:Rat):=by rw[<-t,m,YY]
 have N:(c.num:Rat)*(c.num:Rat)=1:=by
  rw[<-AH];have b:c.num*c.num=1:=by
   grind
  rw[b];rfl
 rw[AH,AH,AP,<-a];grind
def Dq:List Int->Int->Int
 |[],_=>0
 |c::t,x=>c+x*Dq t x
def cz(g:List Int)(i:Nat):Int:=g[i]?.getD 0
theorem lD(i:Nat):cz [] i=0:=rfl
def Nn(c:Int)(t:List Int):cz (c::t) 0=c:=rfl
def L8(c:Int)(t:List Int)(i:Nat):cz (c::t) (i+1)=cz t i:=rfl
theorem QF{g:List Int}{i:Nat}(h:g.length<=i):cz g i=0:=by unfold cz;grind
def YR:List Int->Int->List Int × Int
 |[],_=>([],0)
 |c::t,k=>((YR t k).2::(YR t k).1,c+k*(YR t k).2)
theorem QG(k x:Int):∀g:List Int,Dq g x=(x-k)*Dq (YR g k).1 x+(YR g k).2:=by
 intro g;induction g with
 |nil=>simp[Dq,YR]
 |cons c t a=>rw[Dq,YR,a];simp only[Dq];grind
theorem VF(k:Int)(g:List Int):(YR g k).2=Dq g k:=by
 grind[QG]
theorem QH(k:Int):∀(g:List Int),cz g 0=(YR g k).2-k*cz (YR g k).1 0/\∀i,cz g (i+1)=cz (YR g k).1 i-k*cz (YR g k).1 (i+1):=by
 intro g;induction g with
 |nil=>grind[lD,YR]
 |cons c t a=>
  rw[YR];refine⟨by rw[Nn,Nn];omega,λi=>?_⟩;cases i with
  |zero=>rw[L8,Nn,L8];exact a.1
  |succ i=>rw[L8,L8,L8];exact a.2 i
theorem VG(k:Int)(g:List Int){m:Nat}(h:∀i,m+1<=i->cz g i=0):∀i,m<=i->cz (YR g k).1 i=0:=by
 have b:∀d i,m<=i->(YR g k).1.length<=i+d->cz (YR g k).1 i=0:=λd=>by
  induction d with
  |zero=>intro i _ c;exact QF O
  |succ d e=>
   intro i a c;have f:=e (i+1) O O;have j:=(QH k g).2 i;grind
 intro i a;exact b (YR g k).1.length i a O
theorem lE:∀(m:Nat) (g:List Int),(∀i,m<=i->cz g i=0)->(∃i,cz g i≠0)->∀b:List Int,b.Nodup->(∀k∈b,Dq g k=0)->b.length<m:=by
 intro m;induction m with
 |zero=>intro g h ⟨i,q⟩;grind
 |succ m l=>
  intro g h ⟨j,r⟩ b d f;cases b with
  |nil=>simp
  |cons a b=>
   rw[List.nodup_cons]at d;have t:(YR g a).2=0:=by rw[VF];exact f a DG
   have hq:∃i,cz (YR g a).1 i≠0:=by
    by_cases c:∃i,cz (YR g a).1 i≠0
    . exact c
    . exfalso
      have n:∀i,cz (YR g a).1 i=0:=λi=>Classical.not_not.1 λe=>c ⟨i,e⟩;have o:=QH a g;cases j with
      |zero=>grind
      |succ i=>grind
   have p:=l (YR g a).1 (VG a g h) hq b d.2 (λk s=>by
    grind[QG,Int.mul_eq_zero])
   grind
theorem lF(B:Nat):∀(m:Nat) (g:List Int) (M:Nat),(∀i,m<=i->cz g i=0)->∀b:List Int,b.Nodup->b.length=m->(∀k∈b,(Dq g k).natAbs<=M/\k.natAbs<=B)->∀i,(cz g i).natAbs<=M*(2*B+3)^m:=by
 intro m;induction m with
 |zero=>intro g M h b _ _ _ i;grind
 |succ m v=>
  intro g M h b f hl o i;cases b with
  |nil=>simp at hl
  |cons a b=>
   rw[List.nodup_cons]at f;obtain⟨p,q⟩:=o a DG;have E:((YR g a).2).natAbs<=M:=by rw[VF];exact p
   have hq:=v (YR g a).1 (2*M) (VG a g h) b f.2 (by simpa using hl) (λk u=>by
    obtain⟨n,c⟩:=o k (by simp[u]);refine⟨?_,c⟩;have z:=QG a k g;have r:(k-a)*Dq (YR g a).1 k=Dq g k-(YR g a).2:=O
    have s:(k-a).natAbs*(Dq (YR g a).1 k).natAbs<=2*M:=by
     rw[<-Cu,r];omega
    have t:0<(k-a).natAbs:=Int.natAbs_pos.2 λe=>f.1 DI;exact Af (Co _ t) s)
   obtain⟨X,d⟩:∃X,2*M*(2*B+3)^m=X:=⟨_,rfl⟩;rw[d]at hq;have A:2*M<=X:=by rw[<-d];exact Cf _ (CW O)
   have D:X+B*X<=M*(2*B+3)^(m+1):=by
    have e:M*(2*B+3)^(m+1)*2=X*(2*B+3):=by rw[<-d,Cm];grind
    have w:X*(2*B+3)=2*(B*X)+3*X:=DI
    omega
   have j:∀y:Int,(a*y).natAbs<=B*y.natAbs:=λy=>by rw[Cu];exact Ae _ q
   have l:=QH a g;cases i with
   |zero=>
    rw[l.1];have n:=j (cz (YR g a).1 0);have c:B*(cz (YR g a).1 0).natAbs<=B*X:=Aj _ (hq 0);omega
   |succ i=>
    rw[l.2];have n:=j (cz (YR g a).1 (i+1));have c:B*(cz (YR g a).1 (i+1)).natAbs<=B*X:=Aj _ (hq (i+1));have x:=hq i;omega
theorem lG{B:Nat}:∀(g:List Int) (k:Int),(∀i,(cz g i).natAbs<=M)->k.natAbs<=B->(Dq g k).natAbs<=M*(B+1)^g.length:=by
 intro g;induction g with
 |nil=>intro k _ _;simp[Dq]
 |cons c t l=>
  intro k h e;have b:=l k (λi=>h (i+1)) e;have j:=h 0;rw[Nn]at j;rw[Dq,Ah,Cm];obtain⟨a,d⟩:=ex ((B+1)^t.length);rw[d]at b ⊢;have f:1<=a:=by rw[<-d];exact CW O
  have m:(k*Dq t k).natAbs<=B*(M*a):=by rw[Cu];exact Ci e b
  have n:M<=M*a:=Cf _ f;grind[]
def L9(g:List Int):Ja:=g.map (λz:Int=>(z:Rat))
theorem QI(g:List Int)(i:Nat):cf (L9 g) i=(cz g i:Rat):=by
 unfold cf L9 cz;rw[List.getElem?_map];cases g[i]? with
 |none=>rfl
 |some z=>rfl
def QJ(k:Int):∀g:List Int,ev (L9 g) (k:Rat)=(Dq g k:Rat):=by
 intro g;induction g with
 |nil=>rfl
 |cons c t a=>
  show(c:Rat)+(k:Rat)*ev (L9 t) (k:Rat)=_;rw[a,Dq,FT,AH]
def QK{p:Ja}(h:∀i,∃z:Int,cf p i=(z:Rat)):∃g:List Int,p=L9 g/\g.length=p.length:=by
 induction p with
 |nil=>exact⟨[],rfl,rfl⟩
 |cons c t e=>
  obtain⟨g,b,d⟩:=e (λi=>by have:=h (i+1);rwa[Yf]at this);obtain⟨z,a⟩:=h 0;rw[YE]at a;exact⟨z::g,by rw[a,b];rfl,by simp[d]⟩
theorem nodup_range(n:Nat):((List.range n).map (λi:Nat=>(i:Int))).Nodup:=by
 grind[List.nodup_range]
theorem VH(u:Jc P=P)(d:P≠[])(hl:P.length<=n+1)(m:∀i,∃z:Int,z.natAbs<=M/\cf P i=(z:Rat))(hg:Jc g=g)(h:Dv g P):
 ∀i,∃z:Int,z.natAbs<=M*(2*n+1)^(n+1)*(2*(2*n)+3)^(n+1)/\cf (JL g) i=(z:Rat):=by
 obtain⟨H,N,eP,Q⟩:=lC u d (λi=>by obtain⟨z,_,c⟩:=m i;exact⟨z,c⟩) hg h;have L:g≠[]:=λe=>d (by rw[eP,e];rfl);have o:H≠[]:=λe=>d (by rw[eP,e];exact Xp _);obtain⟨a,t,lp⟩:=QK (p:=P) (λi=>by obtain⟨z,_,c⟩:=m i;exact⟨z,c⟩);obtain⟨j,s,lg⟩:=QK (QE hg L);obtain⟨U,K,lh⟩:=QK Q;have ai:(JL g).length<=n+1:=by
  have b:=JS (Yu g) N (λe=>d (by rw[eP,e];rfl)) o;rw[<-eP]at b;have c:0<H.length:=Ac.2 o;omega
 have D:∀i,(cz a i).natAbs<=M:=λi=>by
  obtain⟨z,b,c⟩:=m i;grind[QI,C3]
 have q:∀k:Int,Dq a k=Dq j k*Dq U k:=λk=>by
  have b:ev P (k:Rat)=ev (JL g) (k:Rat)*ev H (k:Rat):=by rw[<-Ji,<-eP]
  rw[t,s,K,QJ,QJ,QJ,<-AH]at b;exact C3.1 b
 obtain⟨R,v⟩:=ex ((List.range (2*n+1)).map (λi:Nat=>(i:Int)));have r:R.Nodup:=by rw[<-v];exact nodup_range _
 have ae:R.length=2*n+1:=by rw[<-v];simp
 have ad:∀k∈R,k.natAbs<=2*n:=λk f=>by
  grind
 have ah:(R.filter λk=>Dq a k==0).length<n+1:=by
  refine lE (n+1) a (λi T=>QF O) ?_ _ (r.filter _) (λk f=>by
   grind)
  refine⟨P.length-1,λe=>Jt u d ?_⟩;have b:=QI a (P.length-1);rw[<-t,e]at b;exact b
 have aj:(R.filter λk=>Dq a k==0).length+(R.filter λk=>!(Dq a k==0)).length=R.length:=by
  rw[<-List.countP_eq_length_filter,<-List.countP_eq_length_filter];have b:=List.length_eq_countP_add_countP (l:=R) λk=>Dq a k==0;have c:List.countP (λk=>!(Dq a k==0)) R=List.countP (λk=>decide ¬((Dq a k==0)=true)) R:=by congr 1;funext k;grind
  omega
 obtain⟨S,w⟩:=ex ((R.filter λk=>!(Dq a k==0)).take (n+1));have y:S.length=n+1:=by rw[<-w,Ai];omega
 have A:S.Nodup:=by rw[<-w];exact List.Sublist.nodup (List.take_sublist _ _) (r.filter _)
 have E:∀k∈S,Dq a k≠0/\k.natAbs<=2*n:=λk f=>by
  grind
 have x:=lF (2*n) (n+1) j (M*(2*n+1)^(n+1)) (λi T=>QF O) S A y (λk f=>by
  obtain⟨b,c⟩:=E k f;refine⟨?_,c⟩;have V:=lG a k D c;have W:M*(2*n+1)^a.length<=M*(2*n+1)^(n+1):=Aj _ (Ak O O);have X:(Dq j k).natAbs<=(Dq a k).natAbs:=by
   rw[q k,Cu];refine Cf _ (Int.natAbs_pos.2 λe=>b ?_);rw[q k,e,Int.mul_zero]
  omega)
 intro i;exact⟨cz j i,x i,by rw[s,QI]⟩
def lH(e:n<=60):(2*n+1)^(n+1)*(2*(2*n)+3)^(n+1)<=Z^15:=by
 have a:(2*n+1)^(n+1)<=121^(n+1):=CM O _;have b:(2*(2*n)+3)^(n+1)<=243^(n+1):=CM O _;have c:121^(n+1)<=121^61:=Ak O O;have d:243^(n+1)<=243^61:=Ak O O;refine Af (Ci (Af a c) (Af b d)) ?_;unfold Z;decide
theorem Dv.ln{K:Nat}{P g:Ja}(a:Jc P=P)(k:P≠[])(hl:P.length<=61)(D:Ln K P)(hg:Jc g=g)(h:Dv g P):Ln (K+15) g:=by
 obtain⟨c,H,e⟩:=GP a;have o:c≠0:=λp=>by grind
 have x:JL P≠[]:=by rw[e];exact KH o a k
 have y:Dv g (JL P):=by rw[e];exact h.sc c
 have r:=KJ a D;have m:(JL P).length<=60+1:=by rw[J5 a];omega
 have s:=VH (n:=60) (M:=Z^K-1) (Yu P) x m (λi=>by
  obtain⟨z,f,t⟩:=r i;unfold Sm at f;grind) hg y
 have hp:=lH (n:=60) (Aa _);have u:D9 (K+15) (JL g):=λi=>by
  obtain⟨z,f,t⟩:=s i;grind[Sm,Z]
 obtain⟨b,L,q⟩:=GP hg;have l:b≠0:=λp=>by grind
 have j:=u.ln;rw[q]at j;obtain⟨d,A,E⟩:=j;refine⟨b*d,IE l A,λi=>?_⟩;obtain⟨z,v,w⟩:=E i;exact⟨z,v,by rw[<-w,YY];grind⟩
theorem Ln.mul{K N:Nat}{p q:Ja}(hp:Ln K p)(hq:Ln N q)(hl:p.length<=1000000000):Ln (K+N+1) (Jv p q):=by
 obtain⟨c,j,b⟩:=hp;obtain⟨d,l,a⟩:=hq;obtain⟨z,b⟩:=CF b;obtain⟨y,a⟩:=CF a;refine⟨c*d,IE j l,λk=>⟨YX p.length λi=>if i<=k then z i*y (k-i)else 0,?_,?_⟩⟩
 . have e:(YX p.length λi=>if i<=k then z i*y (k-i)else 0).natAbs<=p.length*(Z^K*Z^N):=Nd λi _=>by
    split
    . rw[Cu];have f:=(b i).1;have g:=(a (k-i)).1;unfold Sm at f g;exact Ci O O
    . simp
   grind[Sm,Z,Cx,AD,Nat.mul_lt_mul_left]
 . rw[Ng p q (Aa _)];have e:∀n,sumN n (λi=>if i<=k then cf p i*cf q (k-i)else 0)*(c*d)=((YX n (λi=>if i<=k then z i*y (k-i)else 0):Int):Rat):=λn=>by
    induction n with
    |zero=>simp[sumN,YX,Rat.zero_mul]
    |succ n m=>
     rw[sumN,YX,FT,<-m];split
     . grind
     grind
   exact e _
theorem Ln.slope{K:Nat}{p:Ja}(h:Ln K p)(hl:p.length<=1000000000):Ln (K+1) (Jb p):=by
 obtain⟨c,b,d⟩:=h;refine⟨c,b,λi=>?_⟩;obtain⟨z,a,e⟩:=d (i+1);rw[L6];by_cases f:i+1<p.length
 . refine⟨z*((i+1:Nat):Int),a.mul (by unfold Sm Z;omega),?_⟩;grind
 . exact⟨0,Sm.zero _,by grind[JZ]⟩
theorem Dv.lnN{K e:Nat}(b:Jc P=P)(o:P≠[])(hl:P.length<=n+1)(E:(2*n+1)^(n+1)*(2*(2*n)+3)^(n+1)<=Z^e)(H:Ln K P)(hg:Jc g=g)(h:Dv g P):Ln (K+e) g:=by
 obtain⟨c,N,j⟩:=GP b;have r:c≠0:=λs=>by grind
 have y:JL P≠[]:=by rw[j];exact KH r b o
 have A:Dv g (JL P):=by rw[j];exact h.sc c
 have u:=KJ b H;have v:=VH (n:=n) (M:=Z^K-1) (Yu P) y (by rw[J5 b];omega) (λi=>by
  obtain⟨z,k,l⟩:=u i;unfold Sm at k;grind) hg A
 have w:D9 (K+e) (JL g):=λi=>by
  obtain⟨z,k,l⟩:=v i;refine⟨z,?_,l⟩;unfold Sm;have R:0<Z^K:=CW Hv;have p:0<Z^e:=CW Hv;have a:(Z^K-1)*((2*n+1)^(n+1)*(2*(2*n)+3)^(n+1))<=(Z^K-1)*Z^e:=Aj _ E;rw[<-Cp]at a;have m:(Z^K-1)*Z^e<Z^K*Z^e:=(Nat.mul_lt_mul_right p).2 O;grind
 obtain⟨f,Q,t⟩:=GP hg;have q:f≠0:=λs=>by grind
 have a:=w.ln;rw[t]at a;obtain⟨d,D,L⟩:=a;refine⟨f*d,IE q D,λi=>?_⟩;obtain⟨z,m,x⟩:=L i;exact⟨z,m,by rw[<-x,YY];grind⟩
def lI:(2*24+1)^(24+1)*(2*(2*24)+3)^(24+1)<=Z^5:=by unfold Z;decide
theorem Dv.len{a b:Ja}(i:Jc a=a)(f:Jc b=b)(b0:b≠[])(h:Dv a b):a.length<=b.length/\a≠[]:=by
 obtain⟨c,j,e⟩:=h.some f;have g:a≠[]:=λd=>b0 (by rw[e,d];rfl);grind[Xp,JS,Ac]
theorem lJ{p q:Ja}(h:q≠[]):Ex p q=JA p q:=BD h
section
variable {q w y:Ja}
end
end
section
theorem lK(c:Rat)(p:Ja){q:Ja}(hq:Jc q=q)(q0:q≠[]):JA (DQ c p) q=DQ c (JA p q):=by
 have h:=(Lv (c:=c) (d:=1) DK p q hq q0).1;grind[IF]
def QL(p w y:Ja):Nat->Ja
 |0=>p
 |n+1=>JA (QL p w y n) (D5 w y n).1
section
variable {p q w y:Ja}
end
variable{g:Ja}
theorem QM{p:Ja}(tp:Jc p=p)(p0:p≠[]):cf p (p.length-1)≠0/\p=DQ (cf p (p.length-1)) (Jy p):=by
 have h:=Jt tp p0;refine⟨h,?_⟩;unfold Jy;rw[Ky,show 1/cf p (p.length-1)*cf p (p.length-1)=1 by grind,IF tp]
theorem lL(k:Rat)(p:Ja):Jb (DQ k p)=DQ k (Jb p):=by
 grind[JO,JK,YL,L6,YY]
theorem lM{p:Ja}(tp:Jc p=p)(p0:p≠[]):Ij p=Ex (Jy p) (JN (Jy p) (Jb (Jy p))):=by
 obtain⟨d,_⟩:=QM tp p0;obtain⟨k,a⟩:∃k,1/cf p (p.length-1)=k:=⟨_,rfl⟩;have b:k≠0:=by rw[<-a];exact Gv d
 have c:Jy p=DQ k p:=by unfold Jy;rw[a]
 have tq:Jc (Jy p)=Jy p:=Yz _;have q0:Jy p≠[]:=Kz tp p0;have e:JN (Jy p) (Jb (Jy p))=JN p (Jb p):=by
  rw[c,lL];exact Lx b b tp (JO _)
 have f:JN p (Jb p)≠[]:=II tp (JO _) (An p0);grind[Xl,JO,QC,YA,L5,lJ,Ij,lK,Lw,Y6]
def lN{K:Nat}{q:Ja}(tq:Jc q=q)(q0:q≠[])(lq:q.length<=25)(cq:Cd K q)(b:Jc g=g)(d:Jy g=g)(h:Dv g q):Cd (K+5) g:=by
 have c:=Dv.lnN (n:=24) (e:=5) tq q0 O lI cq.ln b h;have a:=K0 b c O;rw[d]at a;exact a
def lO{q:Ja}(tq:Jc q=q)(q0:q≠[])(lq:q.length<=25)(cq:Cd 75 q)(b:Jc g=g)(a:Jy g=g)(h:Dv g q):Cd 80 g:=lN tq q0 lq cq b a h
def Cd.scale{A B:Nat}{p r:Ja}(hp:Cd A p)(f:Cd B r)(i:Nat):Cd (A+B) (DQ (cf r i) p):=by
 obtain⟨D,d1,a,b⟩:=hp;obtain⟨E,c,d,e⟩:=f;exact⟨D*E,AV d1 c,a.mul d,λj=>by rw[YY];exact(b j).mul (e i)⟩
structure StR(K M:Nat)(r f:Ja):Prop where
 tr:Jc r=r
 cr:Cd M r
 tf:Jc f=f
 f0:f≠[]
 mf:Jy f=f
 ca:Cd M f
 lr:(r.length+3)*(M+1)<=1000000000
 lf:(f.length+3)*(M+1)<=1000000000
 r1:r.length<=1000
 f1:f.length<=1000
 ch:M3.ChOk K f (JA r f)
structure ReOk(K M N:Nat)(p w y:Ja):Prop where
 fr:M3.FrOk K p
 w0:Ij p=w
 nN:N<=1000000000
 st:∀n,n<N->1<(D5 w y n).1.length/\StR K M (QL p w y n) (D5 w y n).1/\Cd M (D5 w y (n+1)).1/\Jc (D5 w y (n+1)).1=(D5 w y (n+1)).1/\(D5 w y (n+1)).1≠[]/\Jy (D5 w y (n+1)).1=(D5 w y (n+1)).1/\
  JN (D5 w y n).1 (QL p w y (n+1))=(D5 w y (n+1)).1/\JA (D5 w y n).1 (D5 w y (n+1)).1=yP (D5 w y n)/\Jy (yP (D5 w y n))=yP (D5 w y n)/\
  Jc (yP (D5 w y n))=yP (D5 w y n)/\Cd M (yP (D5 w y n))/\(yP (D5 w y n)).length<=25
 en:(D5 w y N).1.length<=1
end
section
variable {a b c d p q r w y R:Ja}
theorem Dd.shift(h:Dd a b)(f:∀x,ev b x=ev c x+ev a x*ev d x):Dd a c:=by
 obtain⟨u,v,e⟩:=h;refine⟨Xc u (Jv v d),v,λx=>?_⟩;rw[YF,Ji];grind
def Dd.left(h:Dd a (Jv b c)):Dd a b:=(h.symm.of_dv ((Dv.refl b).mul c)).symm
def Dd.right(h:Dd a (Jv b c)):Dd a c:=(h.symm.of_dv ((Dv.refl c).mul' b)).symm
theorem Yun.part(h:Yun R w y):Dd (JN w (Ys y (Jb w))) (Jb (JN w (Ys y (Jb w))))/\Dd (JN w (Ys y (Jb w))) (JA w (JN w (Ys y (Jb w)))):=by
 obtain⟨a,b,_⟩:=Xl h.tw (Xd y (Jb w));have c:=h.step.2.2.2.2.2;obtain⟨P,f⟩:=ex (JN w (Ys y (Jb w)));rw[f]at a b c ⊢;obtain⟨e,i⟩:=ex (JA w P);rw[i]at c ⊢;have c1:Dd P y:=h.cop.of_dv a;obtain⟨t,g⟩:=b;have c2:Dd P (Jb w):=c1.shift (d:=t) λx=>by
  have:=g x;rw[Xb]at this;grind
 have c3:Dd P (Jv (Jb P) e):=c2.shift (d:=Jb e) λx=>by
  grind[Yp,Ji]
 exact⟨c3.left,c3.right⟩
end
section
variable {q w y:Ja}
end
theorem QN{c:Rat}(h:c≠0):0<Xa c:=by
 unfold Xa;split<;>grind
theorem lS{c:Rat}(h:0<c):∀n:Nat,0<c^n:=by
 intro n;induction n with
 |zero=>grind
 |succ n a=>rw[Rat.pow_succ];exact Cb a h
def lT{p q:Ja}(hq:Jc q=q)(a:q≠[]):0<EY p q:=lS (QN (Jt hq a)) _
theorem VI{a b:Ja}(tb:Jc b=b)(b0:b≠[]):∃(q:Ja) (c:Rat),0<c/\∀x,EY a b*ev a x=ev q x*ev b x-c*ev (XO a b) x:=by
 obtain⟨k,d,f⟩:=GP (p:=JI (Xw a b) b) (Yc _);refine⟨JA (Xw a b) b,1/k,Xh DK d,λx=>?_⟩;have e:=(J8 (Xw a b) b tb b0).1 x;grind[ev,Xw,J2,XO,Xb]
def chnL_head(a b:Ja):∃t,Eg a b=a::t:=by
 unfold Eg;cases b.length with
 |zero=>exact⟨_,rfl⟩
 |succ n=>
  unfold EZ;split
  . exact⟨_,rfl⟩
  . exact⟨_,rfl⟩
theorem lU{a:Ja}(ta:Jc a=a)(b:a≠[])(x:Rat):ev (JA a a) x=1:=by
 have h:=Y5 (u:=JA a a) (v:=[1]) ta b (λx=>by
  rw[<-(JW ta b (Dv.refl a)).2 x,J9];grind) x
 rwa[J9]at h
theorem QO:∀(n:Nat) (a b:Ja),b.length<=n->Jc a=a->Jc b=b->a≠[]->∃g,(Eg a b).getLast?=some g/\Jc g=g/\g≠[]/\Dv g a/\Dv g b/\(∀d,Dv d a->Dv d b->Dv d g)/\StC ((Eg a b).map λp=>JA p g):=by
 intro n;induction n with
 |zero=>
  intro a b z ta _ j
  have:b=[]:=Az.1 O
  subst this;exact⟨a,rfl,ta,j,Dv.refl a,Dv.zero a,λ_ h _=>h,StC.one (c:=1) DK λx=>lU ta j x⟩
 |succ n D=>
  intro a b z ta tb j;by_cases b0:b=[]
  . grind
  . have hl:=XJ (a:=a) tb b0;obtain⟨g,N,f,e,k,o,s,i⟩:=D b (XO a b) O tb (KK _ _) b0;obtain⟨q,c,c0,P⟩:=VI (a:=a) tb b0;have w0:=lT (p:=a) tb b0;have E:1/EY a b*EY a b=1:=AB DI;have H:1/c*c=1:=AB DI;have l:Dv g a:=k.comb o (Jv [1/EY a b] q) [-(1/EY a b*c)] λx=>by
     grind[Ji,ev]
    refine⟨g,?_,f,e,l,k,λd d1 m=>s d m (m.comb d1 (Jv [1/c] q) [-(1/c*EY a b)] λx=>?_),?_⟩
    . grind[KL]
    . grind[Ji,ev]
    . rw[KL tb b0];by_cases r:XO a b=[]
      . rw[r,L0]at i ⊢;obtain⟨_,w,y⟩:=i.o;exact StC.two w y
      . obtain⟨t,A⟩:=chnL_head (XO a b) (XO b (XO a b));rw[KL (KK _ _) r,A]at i ⊢;have K:=(JW f e l).2;have L:=(JW f e k).2;have M:=(JW f e o).2;refine StC.more (q:=q) w0 c0 (λx=>?_) i;have:=Y5 (u:=Jv [EY a b] (JA a g)) (v:=Ys (Jv q (JA b g)) (Jv [c] (JA (XO a b) g))) f e (λx=>by
         grind[Ji,Xb,J9]) x
        grind[Ji,Xb,J9]
theorem lV:∀(n:Nat) (R w y:Ja),R.length<=n->Yun R w y->Dd w (Jb w):=by
 intro n;induction n with
 |zero=>intro R w y m h;exact absurd (Az.1 O) h.R0
 |succ n p=>
  intro R w y m h;by_cases hl:w.length<=1
  . obtain⟨c,r⟩:=Nk h.tw h.w0 hl;refine⟨c,[],λx=>?_⟩;grind[ev]
  . obtain⟨p1,e⟩:=h.part;obtain⟨_,_,b,j,_,g⟩:=h.step;obtain⟨a,l⟩:=ex (JN w (Ys y (Jb w)));rw[l]at p1 e b g;obtain⟨f,o⟩:=ex (JA w a);rw[o]at e b g;have q:(JA R w).length<=n:=by
     have:=JS h.tw b.tR h.w0 b.R0;rw[<-j]at this;omega
    have k:=p _ _ _ q b;have i:∀x,ev (Jb w) x=ev (Jb a) x*ev f x+ev a x*ev (Jb f) x:=λx=>by
     grind[Yp]
    have c1:Dd a (Jb w):=(p1.mul e).shift (d:=Jv [-1] (Jb f)) λx=>by
     rw[Ji,Ji,J9,i];grind
    have c2:Dd f (Jb w):=(e.symm.mul k).shift (d:=Jv [-1] (Jb a)) λx=>by
     rw[Ji,Ji,J9,i];grind
    have c3:=(c1.symm.mul c2.symm).symm;rwa[<-g]at c3
theorem lW(c:Rat)(p:Ja)(x:Rat):ev (Jb (DQ c p)) x=c*ev (Jb p) x:=by
 rw[KQ,KQ];unfold DQ;rw[Q6 (JT _),Q8,Fa]
def Yb(p:Ja):List Ja:=(D4 p (Jb p)).map λa=>JA a ((D4 p (Jb p)).getLast?.getD [])
def DM(p:Ja):Ja:=JA (Jy p) (JN (Jy p) (Jb (Jy p)))
def KM(p:Ja):Ja:=JA (Jb (Jy p)) (JN (Jy p) (Jb (Jy p)))
theorem lX{p:Ja}(tp:Jc p=p)(p0:p≠[]):StC (Yb p)/\∃f l k,Yb p=f::l/\k≠0/\(∀x,ev f x=k*ev (DM p) x)/\∀f1 l1,l=f1::l1->∃H,0<k*H/\∀x,ev f1 x=H*ev (KM p) x:=by
 have ts:=JO p;obtain⟨α,α0,hα⟩:=GP tp;obtain⟨β,β0,hβ⟩:=GP ts;obtain⟨X,E⟩:=QM tp p0;obtain⟨b,hl⟩:=ex (cf p (p.length-1));rw[hl]at X E;have tR:=Yz p;have R0:=Kz tp p0;obtain⟨R,D⟩:=ex (Jy p);rw[D]at E tR R0;have o:=JO R;have M:JL p≠[]:=λe=>p0 (Az.1 (by rw[<-J5 tp,e];rfl));have P:∀x,ev (JL p) x=α*b*ev R x:=λx=>by
  grind[J2]
 have Q:∀x,ev (JL (Jb p)) x=β*b*ev (Jb R) x:=λx=>by
  grind[J2,lW]
 obtain⟨g,S,q,y,z,A,T,U⟩:=QO _ (JL p) (JL (Jb p)) (Aa _) (Yu _) (Yu _) M;obtain⟨r,s,_⟩:=Xl tR o;have i:=YA R (Jb R);have j:=II tR o (An R0);have fW:=(JW i j r).2;have fY:=(JW i j s).2;have K:Dv (JN R (Jb R)) g:=T _ (by
  obtain⟨c,d⟩:=r;exact⟨DQ (α*b) c,λx=>by rw[P,d,J2];grind⟩) (by obtain⟨c,d⟩:=s;exact⟨DQ (β*b) c,λx=>by rw[Q,d,J2];grind⟩)
 have i1:∀ {k:Rat},0<k->1/(k*b)*(k*b)=1:=λhk=>AB (by
  grind)
 have L:Dv g (JN R (Jb R)):=QA tR o (by
  obtain⟨c,d⟩:=z;refine⟨DQ (1/(α*b)) c,λx=>?_⟩;grind[J2]) (by obtain⟨c,d⟩:=A;refine⟨DQ (1/(β*b)) c,λx=>?_⟩;grind[J2])
 obtain⟨m,m0,W⟩:=Dv.anti i q K L;have eg:∀x,ev g x=m*ev (JN R (Jb R)) x:=λx=>by rw[W,J2];grind
 have im:1/m*m=1:=AB m0;have qa:=(JW q y z).2;have qb:=(JW q y A).2;have w:Yb p=(Eg (JL p) (JL (Jb p))).map λa=>JA a g:=by
  unfold Yb D4;rw[S];rfl
 refine⟨by rw[w];exact U,?_⟩;obtain⟨t,n⟩:=chnL_head (JL p) (JL (Jb p));unfold DM KM;rw[D];refine⟨JA (JL p) g,t.map λa=>JA a g,1/m*(α*b),by rw[w,n];rfl,?_,λx=>?_,λf1 l1 ad=>⟨1/m*(β*b),?_,λx=>?_⟩⟩
 . grind
 . have:=Y5 (u:=JA (JL p) g) (v:=DQ (1/m*(α*b)) (JA R (JN R (Jb R)))) i j (λx=>by
    grind[J2]) x
   rw[this,J2];grind
 . have N:1/m*(α*b)*(1/m*(β*b))=(1/m*b)*(1/m*b)*(α*β):=DI
   rw[N];refine Cb ?_ (Cb α0 β0);have c0:1/m*b≠0:=λe=>by
    grind
   have:=LG (f:=[1/m*b]) c0 (λx=>J9 _ x) 0 0;unfold Ds at this;rwa[J9]at this
 . have V:f1=JA (JL (Jb p)) g:=by
    by_cases b0:JL (Jb p)=[]
    . grind[L0]
    . rw[KL (Yu _) b0]at n;injection n with _ n
      obtain⟨t2,ae⟩:=chnL_head (JL (Jb p)) (XO (JL p) (JL (Jb p)));grind
   rw[V];have:=Y5 (u:=JA (JL (Jb p)) g) (v:=DQ (1/m*(β*b)) (JA (Jb R) (JN R (Jb R)))) i j (λx=>by
    grind[J2]) x
   rw[this,J2];grind
def JU(b:Ja):Ja:=DQ (1/Xa (cf b (b.length-1))) b
def D0:Nat->Ja->Ja->List Ja
 |0,a,_=>[a]
 |n+1,a,b=>if b=[]then [a]else a::D0 n (JU b) (DQ (-1) (JI a (JU b)))
def QP(n:Nat)(a b:Ja):∃t,D0 n a b=a::t:=by
 cases n with
 |zero=>exact⟨_,rfl⟩
 |succ n=>
  unfold D0;split
  . exact⟨_,rfl⟩
  . exact⟨_,rfl⟩
def K4{b:Ja}(tb:Jc b=b)(b0:b≠[]):0<1/Xa (cf b (b.length-1)):=Xh DK (QN (Jt tb b0))
theorem K5{b:Ja}{c:Rat}(a:c≠0)(tb:Jc b=b):(DQ c b).length=b.length:=by
 have e:DQ (1/c) (DQ c b)=b:=by rw[Ky,Fa,AB a,IF tb]
 grind[DQ,JV,Yv]
theorem VJ{a:Ja}(ta:Jc a=a)(h:Dd a []):∃c,c≠0/\∀x,ev a x=c:=by
 obtain⟨u,v,b⟩:=h;have f:Dv a [1]:=⟨u,λx=>by rw[J9,<-b x];simp[ev];grind⟩;have g:=(f.len ta DK DK).1;have d:a≠[]:=λe=>by
  have:=b 0;rw[e]at this;simp[ev]at this;grind
 match a,d,g with
 |[c],_,_=>
  refine⟨c,λe=>?_,λx=>J9 c x⟩;have:=b 0;rw[e]at this;simp[ev]at this;grind
theorem lY:∀(n:Nat) (a b:Ja),b.length<=n->Jc a=a->Jc b=b->Dd a b->StC (D0 n a b):=by
 intro n;induction n with
 |zero=>
  intro a b m ta _ d
  have:b=[]:=Az.1 O
  subst this;obtain⟨c,c0,f⟩:=VJ ta d;exact StC.one c0 f
 |succ n r=>
  intro a b m ta tb d;by_cases b0:b=[]
  . subst b0;obtain⟨c,c0,f⟩:=VJ ta d;rw[D0,BG rfl];exact StC.one c0 f
  . rw[D0,BD b0];have K:=K4 tb b0;have lb:(JU b).length=b.length:=K5 DI tb;have i:Jc (JU b)=JU b:=JK _ _;have j:JU b≠[]:=λe=>b0 (Az.1 (by rw[<-lb,e];rfl));obtain⟨E,sl⟩:=J8 a (JU b) i j;have tr:Jc (JI a (JU b))=JI a (JU b):=Yc _;have l:∀x,ev (JU b) x=ev b x*(1/Xa (cf b (b.length-1))):=λx=>J2 _ _ _;have k:Dd (JU b) (DQ (-1) (JI a (JU b))):=by
     obtain⟨u,v,p⟩:=d;have s:Xa (cf b (b.length-1))*(1/Xa (cf b (b.length-1)))=1:=by
      rw[Fa];exact AB DI
     refine⟨Xc (Jv u (JA a (JU b))) (Jv [Xa (cf b (b.length-1))] v),Jv [-1] u,λx=>?_⟩;rw[YF,Ji,Ji,Ji,J9,J9,J2];have w:=p x;have y:=E x;have z:=l x;have A:ev b x=Xa (cf b (b.length-1))*ev (JU b) x:=by
      rw[z,Fa,Rat.mul_assoc,Fa (1/_),s,Rat.mul_one]
     rw[A,y]at w;grind
    have g:=r (JU b) (DQ (-1) (JI a (JU b))) (by rw[K5 DK tr];omega) i (JK _ _) k;by_cases r0:DQ (-1) (JI a (JU b))=[]
    . rw[r0]at g ⊢;have e:D0 n (JU b) []=[JU b]:=by cases n<;>rfl
      rw[e]at g ⊢;obtain⟨_,d,f⟩:=g.o;exact StC.two d f
    . have H:=JK (-1) (JI a (JU b));cases n with
      |zero=>
       grind[K5]
      |succ n=>
       obtain⟨t,o⟩:=QP n (JU (DQ (-1) (JI a (JU b)))) (DQ (-1) (JI (JU b) (JU (DQ (-1) (JI a (JU b))))));rw[D0,BD r0,o]at g ⊢;have D:=QN (Jt H r0);refine StC.more (q:=JA a (JU b)) (a:=1) (c:=Xa (cf (DQ (-1) (JI a (JU b))) ((DQ (-1) (JI a (JU b))).length-1))) DK D (λx=>?_) g;grind[JU,J2]
def Ym(p:Ja):List Ja:=D0 (Jb (DM p)).length (DM p) (Jb (DM p))
theorem VK{p:Ja}(tp:Jc p=p)(p0:p≠[]){a b:Rat}(w:a<=b):Dc (Xy (Yb p) a)+Dc (Xy (Ym p) b)=Dc (Xy (Yb p) b)+Dc (Xy (Ym p) a):=by
 obtain⟨P,f,l,k,E,S,D,s⟩:=lX tp p0;have d:=Yun.start (Yz p) (Kz tp p0) (KI tp);have d:Yun (Jy p) (DM p) (KM p):=d;have R:=lV _ _ _ _ (Aa _) d;have N:=lY _ (DM p) (Jb (DM p)) (Aa _) d.tw (JO _) R;obtain⟨A,V,u⟩:=LF a;obtain⟨C,W,v⟩:=LF b;have g:0<=A+C:=DI
 obtain⟨e,X,sg⟩:=kj _ _ _ _ (Aa _) d g;refine glue (B:=A+C) (F:=λx=>Dc (Xy (Yb p) x)) (G:=λx=>Dc (Xy (Ym p) x)) ?_ (u.mono DI) (v.mono DI) w;refine(((P.gd g).and (N.gd g)).and sg).mono λx y _ _ _ i=>?_;have d1:=i.1.1;have j:=i.1.2;have r:=i.2;obtain⟨m,c⟩:=QP (Jb (DM p)).length (DM p) (Jb (DM p));show Dc (Xy (Yb p) x)+Dc (Xy (Ym p) y)=Dc (Xy (Yb p) y)+Dc (Xy (Ym p) x);unfold Ym;rw[E]at d1 ⊢;rw[c]at j ⊢;refine d1.both j S D λL f1 l1 o m1 hl K=>?_;obtain⟨k1,T,H⟩:=s f1 l1 hl;obtain⟨s1,s2⟩:=r L;by_cases w0:Jb (DM p)=[]
 . grind[D0]
 . obtain⟨n,M⟩:∃n,(Jb (DM p)).length=n+1:=⟨_,(Nat.succ_pred_eq_of_pos (Ac.2 w0)).symm⟩;rw[M,D0,BD w0]at c;injection c with _ c
   obtain⟨t,Q⟩:=QP n (JU (Jb (DM p))) (DQ (-1) (JI (DM p) (JU (Jb (DM p)))));rw[Q,K]at c;injection c with hg _
   have U:=K4 (JO (DM p)) w0;have q:∀z,ev o z=ev (Jb (DM p)) z*(1/Xa (cf (Jb (DM p)) ((Jb (DM p)).length-1))):=λz=>by rw[<-hg];exact J2 _ _ _
   have fin:∀z,e<=ev (KM p) z*ev (Jb (DM p)) z->0<k*ev f1 z*ev o z:=λz hz=>by
    rw[H,q];have:=Cb (Cb T U) (show 0<ev (KM p) z*ev (Jb (DM p)) z by grind);grind
   grind
def MA(l:List Ja):Prop:=∀p∈l,Jc p=p/\p≠[]
def Gw(l:List Ja):Ja:=l.map λp=>cf p (p.length-1)
def FX(l:List Ja):Ja:=l.map λp=>(-1)^(p.length-1)*cf p (p.length-1)
theorem Np{l:List Ja}(h:MA l):∃B,0<B/\(∀x,B<=x->Dc (Xy l x)=Dc (Gw l))/\∀x,x<=-B->Dc (Xy l x)=Dc (FX l):=by
 have j:∃B,0<B/\(∀x,B<=x->∀p∈l,0<ev p x*cf p (p.length-1))/\∀x,x<=-B->∀p∈l,0<ev p x*((-1)^(p.length-1)*cf p (p.length-1)):=by
  induction l with
  |nil=>exact⟨1,DK,(λ_ _ _ hp=>absurd hp (List.not_mem_nil)),(λ_ _ _ hp=>absurd hp (List.not_mem_nil))⟩
  |cons p l e=>
   obtain⟨B,a,b,c⟩:=e λq hq=>h q (FO _ hq);obtain⟨tp,p0⟩:=h p (CC);grind[WJ,WK,Fa]
 obtain⟨B,a,b,c⟩:=j;refine⟨B,a,λx d=>?_,λx d=>?_⟩
 . refine RK _ _ 0 0 (by simp[Xy,Gw]) (λi f g=>?_) (Au ⟨rfl,rfl⟩);grind[Xy,Gw]
 . refine RK _ _ 0 0 (by simp[Xy,FX]) (λi f g=>?_) (Au ⟨rfl,rfl⟩);grind[Xy,FX]
theorem ld:∀(n:Nat) (a b g:Ja),b.length<=n->Jc a=a->Jc b=b->a≠[]->Dv g a->Dv g b->Jc g=g->g≠[]->MA ((Eg a b).map λp=>JA p g):=by
 intro n;induction n with
 |zero=>
  intro a b g r ta tb j f k i d
  have:b=[]:=Az.1 O
  subst this;intro p hp;rw[L0]at hp;rcases C8.1 hp with⟨q,hq,rfl⟩
  have:q=a:=by simpa using hq
  subst this;exact⟨Y6 _ _,λe=>j (XK ta λx=>by rw[(JW i d f).2,e];simp[ev])⟩
 |succ n s=>
  intro a b g r ta tb j f k i d;have m:Jc (JA a g)=JA a g/\JA a g≠[]:=⟨Y6 _ _,λe=>j (XK ta λx=>by rw[(JW i d f).2,e];simp[ev])⟩;by_cases b0:b=[]
  . grind
  . have hl:=XJ (a:=a) tb b0;obtain⟨q,c,c0,u⟩:=VI (a:=a) tb b0;have t:1/c*c=1:=AB DI;have l:Dv g (XO a b):=k.comb f (Jv [1/c] q) [-(1/c*EY a b)] λx=>by
     grind[Ji,ev]
    have o:=s b (XO a b) g O tb (KK _ _) b0 k l i d;rw[KL tb b0];intro p hp;rcases List.mem_cons.1 hp with rfl|hp
    . exact m
    . exact o p hp
def Nq{p:Ja}(tp:Jc p=p)(p0:p≠[]):MA (Yb p):=by
 have b:JL p≠[]:=λe=>p0 (Az.1 (by rw[<-J5 tp,e];rfl));obtain⟨g,f,k,d,i,j,_,_⟩:=QO _ (JL p) (JL (Jb p)) (Aa _) (Yu _) (Yu _) b;have c:Yb p=(Eg (JL p) (JL (Jb p))).map λa=>JA a g:=by
  unfold Yb D4;rw[f];rfl
 rw[c];exact ld _ _ _ g (Aa _) (Yu _) (Yu _) b i j k d
theorem li:∀(n:Nat) (a b:Ja),Jc a=a->Jc b=b->a≠[]->MA (D0 n a b):=by
 intro n;induction n with
 |zero=>
  intro a b ta _ c p hp;grind[D0]
 |succ n d=>
  intro a b ta tb c p hp;by_cases b0:b=[]
  . grind[D0]
  . rw[D0,BD b0]at hp;rcases List.mem_cons.1 hp with rfl|hp
    . exact⟨ta,c⟩
    . have f:=K4 tb b0;have lb:(JU b).length=b.length:=K5 DI tb;exact d _ _ (JK _ _) (JK _ _) (λe=>b0 (Az.1 (by rw[<-lb];show(DQ _ b).length=0;rw[e];rfl))) p hp
def QQ{p:Ja}(tp:Jc p=p)(p0:p≠[]):MA (Ym p):=by
 have a:Yun (Jy p) (DM p) (KM p):=Yun.start (Yz p) (Kz tp p0) (KI tp);exact li _ _ _ a.tw (JO _) a.w0
theorem VL{p:Ja}(tp:Jc p=p)(p0:p≠[])(x:Rat):Dc (FX (Yb p))+Dc (Xy (Ym p) x)=Dc (Xy (Yb p) x)+Dc (FX (Ym p)):=by
 obtain⟨B,f,_,c⟩:=Np (Nq tp p0);obtain⟨C,g,_,d⟩:=Np (QQ tp p0);obtain⟨X,i,e⟩:=LF x;have:=VK tp p0 (a:=-(B+C+X)) (b:=x) (by have:=e.1;clear c d;grind);grind
theorem lj{p:Ja}(tp:Jc p=p)(p0:p≠[]):Dc (FX (Yb p))+Dc (Gw (Ym p))=Dc (Gw (Yb p))+Dc (FX (Ym p)):=by
 obtain⟨B,a,c,_⟩:=Np (Nq tp p0);obtain⟨C,b,d,_⟩:=Np (QQ tp p0);have:=VL tp p0 (B+C);grind
namespace M3
variable{cs:List I}{ty:TypeId}{W W':G}
def lk(va:I)(ps:Ja)(w:G)(r:RowK false w va ps)(an:Jc ps=ps)(S:Sqs ps)(am:ps≠[]->Sq (1/Xa (cf ps (ps.length-1))))(az:ps.length<1099511627776):
 Calls F 109 #[va] w λe g=>∃u,e=.returned u/\RowK false g u (JU ps)/\Bl w g:=by
 obtain⟨a,la,ca,rfl⟩:=r.form;obtain⟨ay,bf,bg,ce,s,t,T,U,ll,W,kk,dd,hc⟩:=r.formsF;by_cases q:ps=[]
 . have HA:=Y (show RowK false w (C a la ca) (JU ps)by rw[q]at r ⊢;exact r);have bu:(la:Int)=0:=by rw[ay,q];rfl
   clear r hc S am an q;go_enter func109,ntmps109
   go_wp2_with fail
   go_ret;exact⟨_,rfl,HA.o,BA _ _⟩
 . have bt:¬(la:Int)=0:=by have:=Ac.2 q;omega
   obtain⟨m,hm⟩:=ex (la-1:Nat);have cj:(la:Int)-1=(m:Int):=O
   have ck:IntKind.i64.wrap (m:Int)=(m:Int):=by rw[BJ];omega
   have cn:(m:Int)<(la:Int):=O
   have Qd:ps.length-1=m:=O
   obtain⟨aq,b1,rfl,bn,bi,bj,bk,bm⟩:=hc m O;obtain⟨Qr,Qp,Qo,Qm⟩:=Di (show Xa (cf ps m)≠0 by rw[<-Qd];exact P3 (Jt an q)) (show Sq (1/Xa (cf ps m))by rw[<-Qd];exact am q) (show Jc (Yv (1/Xa (cf ps m)) ps)=JU ps by unfold JU DQ;rw[Qd]) λ(V:G) (Q:Bl w V)=>r.below Q;have Qq:=Y (show Sq (Xa (cf ps m))by
    rcases Ni (cf ps m)with e|e
    . rw[e];exact S.at m
    . rw[e];exact(S.at m).neg)
   have Ql:=Y S;have Qn:=Y az;have X:Bl w (w.alloc (.cells #[C (T m) (ll m) (W m),B (s m),C (U m) (kk m) (dd m),B (t m)] 47)):=Ba w _;have n1:=JB.new w 47 (C (T m) (ll m) (W m)) (B (s m)) (C (U m) (kk m) (dd m)) (B (t m));have r1:=aq.below X;obtain⟨M,ae⟩:=ex (w.alloc (.cells #[C (T m) (ll m) (W m),B (s m),C (U m) (kk m) (dd m),B (t m)] 47));rw[ae]at X n1 r1;obtain⟨Qj,Qb,Qc,Qg,Qh,l⟩:=IU ae X (Li _ (cf ps m) M r1) (λ(V:G) (Q:Bl M V)=>fP _ (cf ps m) V (r1.below Q)) r1 n1;obtain⟨n,hn⟩:=ex ((cf ps m).num.sign);rw[hn]at Qc;have Qk:=Y λ(V:G)=>YD 1 O O V;have Qi:=Y λ(V:G) (x y:I) (hx:Jk V x ((1:Int):Rat)) (hy:Jk V y (Xa (cf ps m)))=>show Calls F 158 #[x,y] V λe g=>∃u,e=.returned u/\Jk g u (1/Xa (cf ps m))/\Bl V g from Pa x y _ _ V hx hy (Sq.of (k:=1) ⟨Sm.one 1 O,Sm.one 1 O⟩ O) Qq.o Qr.o;have Qf:=Y (λ(V:G) (Q:Bl w V) (x:I) (hx:Jk V x (1/Xa (cf ps m)))=>show Calls F 111 #[C (some ⟨b1,0,none⟩) la ca,x] V λe g=>∃u,e=.returned u/\RowK false g u (JU ps)/\Bl V g by
    have h1:=NQ _ x ps (1/Xa (cf ps m)) V (Qm.o V Q) hx Ql.o Qp.o Qn.o;rw[Qo.o]at h1;exact h1)
   have Qe:=Y (show(cf ps m<0->n<0∧-(cf ps m)=Xa (cf ps m))/\(¬cf ps m<0->¬n<0/\cf ps m=Xa (cf ps m))from⟨λh=>⟨by rw[<-hn,Int.sign_eq_neg_one_of_neg (neg_num.1 h)];decide,by unfold Xa;rw[BG h]⟩,λh=>⟨λe=>h (neg_num.2 (Int.sign_neg_iff.1 (by rw[hn];exact e))),by unfold Xa;rw[BD h]⟩⟩);clear r hc S am an q hn X ae r1 aq az ay bf bg n1;by_cases ad:cf ps m<0
   . obtain⟨bh,R⟩:=Qe.o.1 ad;rw[R]at Qg;clear ad R;go_enter func109,ntmps109
     go_upto_region 4 with fail
     rw[Qj.o];have hq:=BA M.heap.size M;obtain⟨b,c,d,f⟩:=l.o.cq;obtain⟨f0,f1,f2,f3⟩:=l.o.fq;go_upto_region 6 with(first
      |(go_at_call 58;refine Qc.o.mono ?_;rintro e w2 ⟨rfl,ah⟩;have hq:=Bt hq ah;clear b c d f f0 f1 f2 f3;obtain⟨b,c,d,f⟩:=(l.o.below hq).cq;obtain⟨f0,f1,f2,f3⟩:=(l.o.below hq).fq)
      |(go_at_call 157;refine(Qg.o _ hq).mono ?_;rintro e w3 ⟨v3,rfl,g3,bc⟩;obtain⟨v,z,A,D,E,H,K,L,rfl⟩:=Jk.form g3;have hq:=Bt hq bc;clear b c d f f0 f1 f2 f3;obtain⟨b,c,d,f⟩:=(l.o.below hq).cq;obtain⟨f0,f1,f2,f3⟩:=(l.o.below hq).fq))
     have o:=g3.put4 (l.o.below hq) rfl rfl rfl rfl (C v z A) (B D) (C E H K) (B L);have i:=(l.o.below hq).put (C v z A) (B D) (C E H K) (B L);have j:=Jn (Bt Qb.o hq) (Aa _) (C v z A) (B D) (C E H K) (B L);unfold Go.Proofs.YtakpoihdghihmaaGreatDoor.put4 at o i j;clear b c d f f0 f1 f2 f3 g3 hq;generalize (((w3.setCell ⟨w.heap.size,0,none⟩ (C v z A)).setCell ⟨w.heap.size,1,none⟩ (B D)).setCell ⟨w.heap.size,2,none⟩ (C E H K)).setCell ⟨w.heap.size,3,none⟩ (B L)=p at o i j ⊢;replace o:=Y o;replace i:=Y i;replace j:=Y j;have hq:=BA p.heap.size p;have hq:Bl p p.drew:=hq.drew;obtain⟨b,c,d,f⟩:=i.o.cq;go_region_held3 (λg=>g.cell? ⟨w.heap.size,0,none⟩=some (C v z A)/\g.cell? ⟨w.heap.size,1,none⟩=some (B D)/\g.cell? ⟨w.heap.size,2,none⟩=some (C E H K)/\g.cell? ⟨w.heap.size,3,none⟩=some (B L)) (first|(with_reducible exact⟨b,c,d,f⟩)|(go_keep;done))
      (first
       |(go_at_call 41;refine(Qk.o _).mono ?_;rintro e w5 ⟨v5,rfl,N,ai⟩;have hq:=Bt hq ai;clear b c d f;obtain⟨b,c,d,f⟩:=(i.o.below hq).cq)
       |(go_at_call 158;refine(Qi.o _ _ _ N (o.o.below hq)).mono ?_;clear N;rintro e w7 ⟨v7,rfl,P,aj⟩;have hq:=Bt hq aj;clear b c d f;obtain⟨b,c,d,f⟩:=(i.o.below hq).cq)
       |(go_at_call 111;refine(Qf.o _ (Bt j.o hq) _ P).mono ?_;clear P;rintro e w8 ⟨v8,rfl,g8,ak⟩;have hq:=Bt hq ak;clear b c d f;obtain⟨b,c,d,f⟩:=(i.o.below hq).cq))
     go_wp2_with fail
     go_ret;exact⟨_,rfl,g8,Bt j.o hq⟩
   . obtain⟨bh,R⟩:=Qe.o.2 ad;rw[R]at Qh;clear ad R;go_enter func109,ntmps109
     go_upto_region 4 with fail
     rw[Qj.o];have hq:=BA M.heap.size M;obtain⟨b,c,d,f⟩:=l.o.cq;go_upto_region 6 with(go_at_call 58;refine Qc.o.mono ?_;rintro e w2 ⟨rfl,ah⟩;have hq:=Bt hq ah;clear b c d f)
     obtain⟨o,i,j⟩:=DX (Qh.o.below hq) (l.o.below hq) (Bt Qb.o hq);clear hq;obtain⟨p,ap⟩:=ex w2;rw[ap]at o i j ⊢;clear ap;generalize T m=v,ll m=z,W m=A,s m=D,U m=E,kk m=H,dd m=K,t m=L at o i ⊢;have hq:=BA p.heap.size p;have hq:Bl p p.drew:=hq.drew;obtain⟨b,c,d,f⟩:=i.o.cq;go_region_held3 (λg=>g.cell? ⟨w.heap.size,0,none⟩=some (C v z A)/\g.cell? ⟨w.heap.size,1,none⟩=some (B D)/\g.cell? ⟨w.heap.size,2,none⟩=some (C E H K)/\g.cell? ⟨w.heap.size,3,none⟩=some (B L)) (first|(with_reducible exact⟨b,c,d,f⟩)|(go_keep;done))
      (first
       |(go_at_call 41;refine(Qk.o _).mono ?_;rintro e w5 ⟨v5,rfl,N,ai⟩;have hq:=Bt hq ai;clear b c d f;obtain⟨b,c,d,f⟩:=(i.o.below hq).cq)
       |(go_at_call 158;refine(Qi.o _ _ _ N (o.o.below hq)).mono ?_;clear N;rintro e w7 ⟨v7,rfl,P,aj⟩;have hq:=Bt hq aj;clear b c d f;obtain⟨b,c,d,f⟩:=(i.o.below hq).cq)
       |(go_at_call 111;refine(Qf.o _ (Bt j.o hq) _ P).mono ?_;clear P;rintro e w8 ⟨v8,rfl,g8,ak⟩;have hq:=Bt hq ak;clear b c d f;obtain⟨b,c,d,f⟩:=(i.o.below hq).cq))
     go_wp2_with fail
     go_ret;exact⟨_,rfl,g8,Bt j.o hq⟩
def KN(ty:TypeId)(W W':G):Prop:=∀B,B<W.heap.size->(∀cs m,W.heap[B]?≠some (.cells cs ty m))->W'.heap[B]?=W.heap[B]?
theorem KN.at(h:KN ty W W'){B:Nat}{cs:Array I}{t:TypeId}{m:Nat × Nat}(a:W.heap[B]?=some (.cells cs t m))(c:t≠ty):W'.heap[B]?=W.heap[B]?:=
 h B (Ab.1 a).1 λb d e=>by
  grind
def KN.row(h:KN ty W W')(d:∀k,It k≠ty){k:IntKind}{v:I}{ds:m4}(r:Row k W v ds):Row k W' v ds:=by
 obtain⟨a,c,e,i,l,n,g4⟩:=r;refine⟨a,c,e,i,l,n,?_⟩;rcases g4 with g4|⟨b,s,g,f,p⟩
 . exact An g4
 . obtain⟨cs,m,o⟩:=id f;have d:=h.at o (d k);refine Au ⟨b,s,g,f.of d,λj q=>?_⟩;rw[<-p j q];simp only[World.cell?,d]
def KN.rowK(h:KN ty W W')(q:∀k,It k≠ty)(r:∀k,Dn k≠ty){k:Bool}{v:I}{qs:Ja}(A:RowK k W v qs):RowK k W' v qs:=by
 obtain⟨a,cap,e,n,o,p,g4⟩:=A;refine⟨a,cap,e,n,o,p,?_⟩;rcases g4 with g4|⟨b,m,cs,c,t⟩
 . exact An g4
 . refine Au ⟨b,m,cs,(h.at c (r k)).trans c,λj w=>?_⟩;obtain⟨x,y,z,u,d,f,i,l,s⟩:=t j w;exact⟨x,y,z,u,d,f,i,l,s.keep λ_ _ _ g=>h.row q g⟩
def lm(k:IntKind):It k≠25:=by cases k<;>decide
def ls(k:Bool):Dn k≠25:=by cases k<;>decide
def Yn.far{base:Nat}{v:I}(h:Yn ty base W v cs)(c:∀B,B<W.heap.size->Ek v≠some B->W'.heap[B]?=W.heap[B]?):KN ty W W':=λB b d=>c B b λe=>by
 rcases h with⟨rfl,_⟩|⟨g,cap,f,rfl,i,a,j⟩
 . cases e
 . cases e;exact d _ _ a
def Es.keep{W W':G}{cs:List I}{L:List Ja}(h:Es W cs L)(a:∀v p,Jh W v p->Jh W' v p):Es W' cs L:=GL.keep h λ_ _=>a _ _
def Es.snoc{W:G}{cs:List I}{L:List Ja}(h:Es W cs L){x:I}{p:Ja}(a:Jh W (.agg #[x]) p):Es W (cs++[x]) (L++[p]):=GL.snoc h a
def GQ(w:G)(B4 B5:Nat)(H:List Ja)(W:G):Prop:=
 ∃v cs,Boxed W w.heap.size 120 v/\Yn 25 (w.heap.size+1) W v cs/\Es W cs H/\Ek v≠some B4/\Ek v≠some B5/\Bl w W
def GQ.own(w:G)(B4 B5 B:Nat)(l:w.heap.size<=B):OwnFrom B (GQ w B4 B5):=by
 rintro H W W' row ⟨v,cs,d,f,g,i,j,b⟩ hg c;have a:∀r,row=some r->∃o:Obj,W.heap[r]?=some o/\o.isCells=false:=λr e=>(c r e).2;exact⟨v,cs,YJ hg a d,f.own hg a,g.keep λ_ _ h=>QD hg a h,i,j,b.grown hg b.size λk e=>Af l (c k e).1⟩
def GQ.bel(w:G)(B4 B5:Nat):GB (GQ w B4 B5):=by
 rintro H W W' ⟨v,cs,b,c,d,e,f,g⟩ a;exact⟨v,cs,boxed_below b a,c.below a,d.keep λ_ _ h=>h.below a,e,f,Bt g a⟩
theorem GQ.set(w:G)(B4 B5:Nat)(n:w.heap.size+1<=B4)(o:w.heap.size+1<=B5):L1 B4 B5 (GQ w B4 B5):=by
 rintro H W B a l c u q k ⟨v,cs,d,f,i,g4,b,j⟩;refine⟨v,cs,Boxed.other d O u,f.keep λg e _ _=>BC W ⟨B,0,none⟩ u g λm=>?_,i.keep λ_ _ h=>h.setB k,g4,b,j.setCell (p:=⟨B,0,none⟩) DI u⟩;grind
theorem GQ.app{w:G}{B4 B5:Nat}{H:List Ja}{v:I}(D:Boxed W w.heap.size 120 v)(f:Yn 25 (w.heap.size+1) W v cs)(P:Es W cs H)(g4:Ek v≠some B4)(A:Ek v≠some B5)(E:Bl w W)(T:B4<W.heap.size)(U:B5<W.heap.size){a:nJ}{l c:Nat}{r:Ja}(R:Jh W (.agg #[C a l c]) r)(hl:cs.length+1<=1099511627776):
 ∃x y z d,(Builtin.append_ #[120,120] 120 #[v,C (some ⟨W.heap.size,0,none⟩) 1 1]).run F (W.alloc (.cells #[C a l c] 25))=.ok (C x y z) d/\Boxed d w.heap.size 120 v/\∀(b:Nat) (t:Act),b=w.heap.size+1->VA b B4 B5 (GQ w B4 B5) (H++[r]) W .normal t (d.setCell ⟨w.heap.size,0,none⟩ (C x y z)):=by
 have hs:=E.size;have q:=(Ab.1 D).1;obtain⟨v',d,e,K,far,bel,V,Kg⟩:=PP eB (w.heap.size+1) W v cs f (x:=C a l c) rfl hl q;obtain⟨x,z,rfl,_⟩:=K.form;have M:Ek v≠some w.heap.size:=λe=>by have:=(f.lt e).2;omega
 have j:Boxed d w.heap.size 120 v:=(far _ q M).trans D;have L:=Yn.far f far;have n:∀v p,Jh W v p->Jh d v p:=λv p h=>by
  obtain⟨u,e,h⟩:=h;exact⟨u,e,L.rowK lm ls h⟩
 obtain⟨av,cv,S,_⟩:=f.form;have s:∀u p,Jh d u p->Jh (d.setCell ⟨w.heap.size,0,none⟩ (C x (cs++[Value.slice a l c]).length z)) u p:=λu p h=>by
  obtain⟨u,e,h⟩:=h;exact⟨u,e,XE j (o:=0) (by rw[S];rfl) rfl true DK _ _ _ h⟩
 have ne:∀B,B<W.heap.size->Ek v≠some B->Ek (C x (cs++[Value.slice a l c]).length z)≠some B:=λB hB h e=>by
  grind
 refine⟨x,_,z,d,e,j,λb t hb=>⟨⟨_,_,j.set _,K.keep λg e hg _=>BC d ⟨w.heap.size,0,none⟩ _ g DI,Es.keep ((Es.keep P n).snoc (n _ _ R)) s,ne _ T g4,ne _ U A,?_⟩,?_,λk o hk m i=>?_,λu p h=>s _ _ (n _ _ h)⟩⟩
 . exact(bel _ _ O E).setCell (p:=⟨w.heap.size,0,none⟩) (Aa _) _
 . rw[World.size_setCell];exact V
 . have N:=(Ab.1 i).1;rw[BC d ⟨w.heap.size,0,none⟩ _ k DI];refine(far k N λe=>?_).trans i;rcases m with m|rfl|rfl
   . rcases f with⟨rfl,_⟩|⟨g,cap,X,rfl,_,Q,_⟩
     . cases e
     . cases e;rw[Q]at i;cases i;cases m
   . exact g4 e
   . exact A e
def lu{F:Fence}{n:Nat}{P:Program}(w:G){ops:Array Oper}{rest:List Oper}{o:Oper}{a:Act}{Q:Exit->Act->G->Prop}(hg:o.guard=none)(s x:Operand)(t:TypeId)
(b:o.op=Op.call { callee:=Callee.builtin Builtin.append,args:=#[s,x],argTypes:=#[t,t] })(e f:I)(m:a.eval s=e)(p:a.eval x=f)(d:I)(g:G)(l:(Builtin.append_ #[t,t] o.type #[e,f]).run P w=.ok d g)
(i:wpListIn F n P ops Q rest (a.put o.dst d) g):wpListIn F n P ops Q (o::rest) a w:=by
 refine wpListIn_plain hg λK j=>?_;unfold Oper.wpIn;refine⟨?_,?_⟩
 . simp[Oper.about,b,resolve,Target.leads,Sem.run_pure]
 . rw[Oper.semAt_plain F _ _ (by rw[b];intro c k;cases k)];simp[execOp,b,resolve,invoke,builtin,m,p,l,Result.andThen];exact j _ _ i
theorem lw(K:Nat)(s t:Nat)(pa qa:nJ)(pl pc ql qc:Nat)(p q:Ja)(w:G)(z:ChOk K p q)(ad:De w s pa pl pc)(ae:De w t qa ql qc)(ip:Jh w (.agg #[C pa pl pc]) p)(iq:Jh w (.agg #[C qa ql qc]) q):
 Calls F 186 #[C none 0 0,.func (.func 136) #[] #[.pointer (some ⟨s,0,none⟩),.pointer (some ⟨t,0,none⟩)]] w λe A=>∃v cs,e=.returned v/\Yn 25 (w.heap.size+1) A v cs/\Es A cs (D4 p q)/\Bl w A:=by
 have g:Bl w (w.alloc (.cells #[C none 0 0] 120)):=Ba w _;obtain⟨N,m⟩:=ex (w.alloc (.cells #[C none 0 0] 120));have U:Boxed N w.heap.size 120 (C none 0 0):=by rw[<-m];exact BF w _ _
 have T:N.heap.size=w.heap.size+1:=by rw[<-m];simp
 rw[m]at g;obtain⟨Qi,Qg,Qh,Qn,Qj,Ql,i,HA⟩:=FZ z (ad.below g) (ae.below g) (ip.below g) (iq.below g) U T g;have Qf:=Y m;have Qk:=Y (show(D4 p q).length<=1000000000 from by
  have c:∀(n:Nat) (a b:Ja),(EZ n a b).length<=n+1:=λn=>by
   induction n with
    |zero=>intro a b;exact Aa _
    |succ n ih=>
    intro a b;grind[EZ]
  have d:=c (JL q).length (JL p) (JL q);have f:=J5 z.tq;have h4:=z.ln;show(EZ _ _ _).length<=_;omega)
 clear z ad ae ip iq U T g m;refine(BM (n:=3)).1 ?_;refine BN func186 rfl trivial ?_ rfl;simp only[ntmps186,AF,Ah,AK,Nat.reduceAdd,Nat.reduceSub,As,At,AE,Ay,Ar,AC];gi_wp2_with fail
 rw[Qf.o];clear Qf;refine km O Qi.o Qg.o Qh.o Qn.o Qj.o rfl (Bi func136 nK rfl) rfl
  (λB4 B5=>GQ w B4 B5) (λB4 B5=>GQ.own w B4 B5 _ (by have:=i.o;omega)) (λB4 B5=>GQ.bel w B4 B5)
  (λB4 B5 h4 h5=>GQ.set w B4 B5 (by have:=i.o;omega) (by have:=i.o;omega)) (λB4 B5 V h4 h5 hV=>⟨_,[],boxed_below Ql.o hV,Yn.nil _ _ _,⟨rfl,λj p e=>by simp at e⟩,by simp[Ek],by simp[Ek],Bt HA.o hV⟩)
  (λv b=>{ tmps:=#[C none 0 0,.func (.func 136) #[] #[.pointer (some ⟨s,0,none⟩),.pointer (some ⟨t,0,none⟩)],.pointer (some ⟨w.heap.size,0,none⟩),undef,C none 0 0,.pointer (some ⟨b,0,none⟩),.func (.func 136) #[] #[.pointer (some ⟨s,0,none⟩),.pointer (some ⟨t,0,none⟩)],.agg #[v],undef,undef,undef,undef,undef],defers:=[] }) ?assign ?body ?done
 case assign=>
  intro l x xl xc W K y;gi_wp2;exact y
 case body=>
  rintro l b B4 B5 x xl xc r H W ⟨v,cs,c,d,f,g4,u,k⟩ aj hb l4 l5 R hr;have M:=Bx.lt (cs:=#[C x xl xc]) R;obtain⟨xa,xb,ap,A,ak,P,ai⟩:=GQ.app c d f g4 u k (Nat.lt_trans l4 M) (Nat.lt_trans l5 M) hr (by
   have h8:=aj.length_le;have h9:=Qk.o;have an:=f.1;grind)
  have Qm:=Y (ai N.heap.size · i.o);obtain⟨av,Q,S,_,_⟩:=d.form;subst S;have e0:=c.cell;have e1:=R.cell;have e2:=P.cell;have f2:=P.frozen;clear c d f g4 u k aj hb l4 l5 R hr M P ai;gi_wp2_with(gi_at_builtin;refine lu _ rfl _ _ 120 rfl _ _ rfl rfl _ _ ak ?_;clear ak)
  exact Qm.o _
 case done=>
  rintro D B4 B5 W H r hD ⟨v,cs,c,d,f,g4,u,k⟩ ah am y;obtain⟨av,Q,S,_,_⟩:=d.form;subst S;have e0:=c.cell;obtain⟨E,L,HD⟩:=DX (show Yn 25 (w.heap.size+1) W (C av cs.length Q) cs/\Es W cs (D4 p q)/\Bl w W from⟨d,by rw[ah];exact f,k⟩) y (show w.heap.size<=D by have:=i.o;omega);clear c d f g4 u k ah am y hD;gi_wp2_with fail
  refine⟨DG,.inl ⟨_,_,rfl,BU L.o,?_⟩⟩;have hg:=BX W D (.deferred none);have X:∀r,some D=some r->∃o:Obj,W.heap[r]?=some o/\o.isCells=false:=λr e=>by cases e;exact⟨_,L.o,rfl⟩
  exact⟨C av cs.length Q,by simp[results,results186,go_sem],_,cs,rfl,E.o.1.own hg X,E.o.2.1.keep λ_ _ h=>QD hg X h,E.o.2.2.trans (DE (w:=w) (Aa _) _ D _ _ HD.o L.o rfl rfl)⟩
end M3
def Dd.mul_left{a b c:Ja}(h:Dd a c)(d:Dd b c):Dd (Jv a b) c:=(h.symm.mul d.symm).symm
def Gf(u:Ja):Prop:=Dd u (Jb u)
theorem Gf.parts{a b:Ja}(h:Gf (Jv a b)):Dd a b:=by
 obtain⟨u,v,c⟩:=h;refine⟨Xc (Jv u b) (Jv v (Jb b)),Jv v (Jb a),λx=>?_⟩;grind[Yp,Ji,YF]
theorem Gf.of_dv{a b:Ja}(h:Gf b)(tb:Jc b=b)(d:Dv a b):Gf a:=by
 obtain⟨c,_,e⟩:=d.some tb;obtain⟨u,v,f⟩:=h;rw[e]at f;refine⟨Xc (Jv u c) (Jv v (Jb c)),Jv v c,λx=>?_⟩;grind[Yp,Ji,YF]
theorem Gf.mul{a b:Ja}(e:Gf a)(f:Gf b)(h:Dd a b):Gf (Jv a b):=by
 have c:=Yp a b;have c1:Dd a (Jb (Jv a b)):=(Dd.mul e h).shift (d:=Jv [-1] (Jb b)) λx=>by
  rw[Ji,Ji,J9,c];grind
 have c2:Dd b (Jb (Jv a b)):=(h.symm.mul f).shift (d:=Jv [-1] (Jb a)) λx=>by
  rw[Ji,Ji,J9,c];grind
 exact c1.mul_left c2
theorem Gf.dv{u v:Ja}(g:Jc u=u)(i:Jc v=v)(S:v≠[])(P:Gf v)(h:∀c,Dd u c->Dd v c):Dv v u:=by
 have j:=II g i (Au S);have y:=YA u v;obtain⟨l,n,s,t,o⟩:=Xl g i;obtain⟨d,N⟩:=ex (JN u v);rw[N]at j y l n o;have f:=(JW y j n).2;obtain⟨e,p⟩:=ex (JA v d);rw[p]at f;have H:v=Jv d e:=Ea i (Yq _ _) λx=>by rw[Ji,f]
 have D:Dd d e:=Gf.parts (by rw[<-H];exact P);have E:Dd u e:=by
  obtain⟨a,b,M⟩:=D;have R:Jc e=e:=by rw[<-p];exact Y6 _ _
  obtain⟨f1,f2,m,k,f3⟩:=Xl g R;have K:Dv (JN u e) d:=f1.comb (f2.mul' d) s t λx=>by
   rw[o,Ji,f]
  have L:Dv (JN u e) [1]:=K.comb f2 a b λx=>by rw[J9,M]
  obtain⟨r,w⟩:=L;refine⟨Jv r m,Jv r k,λx=>?_⟩;have Q:=w x;rw[J9,f3]at Q;rw[Ji,Ji];grind
 have z:=h e E;have A:Dd e e:=z.of_dv ⟨d,λx=>by rw[f];grind⟩;obtain⟨r,w⟩:=A.unit (Dv.refl e);obtain⟨q,hq⟩:=l;refine⟨Jv r q,λx=>?_⟩;grind[Ji,ev]
def Nr{p:Ja}(tp:Jc p=p)(p0:p≠[]):Yun (Jy p) (DM p) (KM p):=Yun.start (Yz p) (Kz tp p0) (KI tp)
def ly{p:Ja}(tp:Jc p=p)(p0:p≠[]):Dv (Jy p) p/\Dv p (Jy p):=by
 obtain⟨c,b⟩:=QM tp p0;have a:Dv (Jy p) p:=⟨[cf p (p.length-1)],λx=>by
  conv=>lhs;rw[b]
  rw[J2,J9]⟩
 exact⟨a,⟨[1/cf p (p.length-1)],λx=>by rw[P9,J9]⟩⟩
def lz{p:Ja}(tp:Jc p=p)(p0:p≠[]):Dv (DM p) p:=(Nr tp p0).dv.trans (ly tp p0).1
def _root_.Go.Boxed.bel{W W':G}{B:Nat}{t:TypeId}{v:I}(h:Boxed W B t v)(a:Bl W W'):Boxed W' B t v:=(a.block B h.lt).trans h
section
variable{A:Nat}
def Cd.dvnG{K:Nat}{p q:Ja}(h:Cd K p)(i:Cd A q)(tq:Jc q=q)(q0:q≠[]):∃D E l:Int,Dvn D E l K A p q:=by
 obtain⟨D,d1,c,d⟩:=h;obtain⟨E,f,g,a⟩:=i;obtain⟨n,b,j⟩:=a (q.length-1);refine⟨D,E,n,d1,c,d,f,g,a,λe=>?_,j,b⟩;exact Jt tq q0 (by rw[b,e];simp)
def Cd.quoG{K:Nat}{p q:Ja}(h:Cd K p)(c:Cd A q)(tq:Jc q=q)(q0:q≠[]):Cd (K+p.length*(A+1)+1) (JA p q):=by
 obtain⟨D,E,l,b⟩:=h.dvnG c tq q0;obtain⟨m,e⟩:=ex (p.length-(q.length-1));have a:=b.den m;have d:=b.rem e;have f:m*(A+1)<=p.length*(A+1):=Ae _ O;exact⟨_,a.1,a.2.mono O,λi=>(d.2 i).mono O⟩
namespace M3
def mA(K A:Nat)(a b:I)(p q:Ja)(w:G)(d:Jh w a p)(f:Jh w b q)(hp:Cd K p)(hq:Cd A q)(tp:Jc p=p)(tq:Jc q=q)(q0:q≠[])(k:2*(K+p.length*(A+1)+1)+2*(2*A+1)<=1000000000):
 Calls F 139 #[a,b] w λe c=>∃u v,e=.returned (.tuple #[u,v,B true])/\Jh c u (JA p q)/\Jh c v (JI p q)/\Bl w c:=by
 obtain⟨D,E,l,g⟩:=hp.dvnG hq tq q0;obtain⟨m,i⟩:=ex (p.length-(q.length-1));have j:m*(A+1)<=p.length*(A+1):=Ae _ O;refine ySplit_n A a b p q w d f (hp.sqs O) hq.smq tp tq q0 ?_;rw[i];exact g.sizes O
end M3
end
section
variable{A:Nat}
def XV(b:Ja):Jc (JU b)=JU b:=JK _ _
def K6{b:Ja}(tb:Jc b=b)(b0:b≠[]):JU b≠[]/\(JU b).length=b.length:=by
 have a:=K4 tb b0;have lb:(JU b).length=b.length:=K5 DI tb;exact⟨λe=>b0 (Az.1 (by rw[<-lb,e];rfl)),lb⟩
def mB:Cd 1 [-1]:=⟨1,DK,Sm.one 1 O,λi=>⟨if i=0 then -1 else 0,by
 rcases i with _|i
 . rfl
 . rw[JZ DG,BD O];simp,by
 split
 . exact(Sm.one 1 O).neg
 . exact Sm.zero _⟩⟩
def Cd.negs{p:Ja}(h:Cd A p):Cd (A+1) (DQ (-1) p):=h.scale mB 0
theorem QR{b:Ja}(tb:Jc b=b)(h:Ln A b)(f:1<=A):Cd (A+1) (JU b):=by
 by_cases b0:b=[]
 . subst b0;exact P7 O
 . have c:Cd A (Jy b):=K0 tb h f;have d:=Jt tb b0;rcases Ni (cf b (b.length-1))with e|e
   . have a:JU b=Jy b:=by unfold JU Jy;rw[e]
     rw[a];exact c.mono O
   . have a:JU b=DQ (-1) (Jy b):=by
      unfold JU Jy;rw[Ky,e];congr 1;have g:cf b (b.length-1)*(1/cf b (b.length-1))=1:=by rw[Fa];exact AB d
      have i:-cf b (b.length-1)*(1 / -cf b (b.length-1))=1:=by rw[Fa];exact AB DI
      generalize cf b (b.length-1)=l at *;generalize 1/l=u at *;generalize 1 / -l=v at *;have j:(u*-1-v)*l=-2*0:=DI
      have k:u*-1-v=0:=by
       rcases Rat.mul_eq_zero.1 (show(u*-1-v)*l=0 by grind)with h|h
       . exact h
       . exact absurd h d
      grind
     rw[a];exact c.negs
def mC{b:Ja}{c:Rat}(a:c≠0)(tb:Jc b=b)(b0:b≠[]):∃d,d≠0/\JU (DQ c b)=DQ d b:=by
 have l1:=K5 a tb;have c0:DQ c b≠[]:=λe=>b0 (Az.1 (by rw[<-l1,e];rfl));have f:=K4 (JK c b) c0;refine⟨c*(1/Xa (cf (DQ c b) ((DQ c b).length-1))),IE a DI,?_⟩;unfold JU;rw[Ky]
structure Shn(f s:Ja)(A M:Nat)(a b:Ja):Prop where
 ta:Jc a=a
 tb:Jc b=b
 ca:Cd (A+1) a
 cb:Cd M b
 lb:Ln A b
 la:a.length<=f.length
 ll:b.length<=f.length
 eu:Eu f (JU s) a (JU b)
structure RwOk(J K:Nat)(p:Ja):Prop where
 fr:M3.FrOk J p
 p0:p≠[]
 cf:Cd K (DM p)
 cs:Cd K (Jb (DM p))
 ln:(DM p).length<=1000
 fit:4*(((DM p).length+3)*(DR K (DM p) (Jb (DM p))+2))<=1000000000
def RwOk.bd{J K:Nat}{p:Ja}(h:RwOk J K p){n:Nat}(a:n<=(DM p).length):DR K (DM p) (Jb (DM p))+1+n*(DR K (DM p) (Jb (DM p))+1+1)+1+(2*(DR K (DM p) (Jb (DM p))+1)+1)+100<=500000000:=by
 have b:=h.fit;have c:n*(DR K (DM p) (Jb (DM p))+2)<=(DM p).length*(DR K (DM p) (Jb (DM p))+2):=Ae _ a;have d:((DM p).length+3)*(DR K (DM p) (Jb (DM p))+2)=(DM p).length*(DR K (DM p) (Jb (DM p))+2)+3*(DR K (DM p) (Jb (DM p))+2):=AU _ _ _;have f:=Hn K (DM p) (Jb (DM p));have e:DR K (DM p) (Jb (DM p))+1+1=DR K (DM p) (Jb (DM p))+2:=rfl;rw[e];omega
def Ns(c:Rat)(q:Ja):(DQ c q).length<=q.length:=by
 unfold DQ;refine Af (JV _) ?_;unfold Yv;simp
def Cd.remG{K:Nat}{p q:Ja}(h:Cd K p)(c:Cd A q)(tq:Jc q=q)(q0:q≠[]):Cd (K+p.length*(A+1)+1) (JI p q):=by
 obtain⟨D,E,l,b⟩:=h.dvnG c tq q0;obtain⟨m,e⟩:=ex (p.length-(q.length-1));have a:=b.den m;have d:=b.rem e;have f:m*(A+1)<=p.length*(A+1):=Ae _ O;exact⟨_,a.1,a.2.mono O,λi=>(d.1 i).mono O⟩
section
variable {J K:Nat} {p a b:Ja}
def RwOk.tf(h:RwOk J K p):Jc (DM p)=DM p:=(Nr h.fr.ch.tp h.p0).tw
def RwOk.f0(h:RwOk J K p):DM p≠[]:=(Nr h.fr.ch.tp h.p0).w0
def RwOk.A1(_:RwOk J K p):K+1<=DR K (DM p) (Jb (DM p)):=Hn _ _ _
def RwOk.sl(_:RwOk J K p):(Jb (DM p)).length<=(DM p).length:=Af (JV _) (by simp[IM])
def RwOk.start(h:RwOk J K p):Shn (DM p) (Jb (DM p)) (DR K (DM p) (Jb (DM p))) 500000000 (DM p) (Jb (DM p)) where
 ta:=h.tf
 tb:=JO _
 ca:=h.cf.mono (by have:=h.A1;omega)
 cb:=h.cs.mono (by have:=h.A1;have:=h.bd (Ap _);omega)
 lb:=h.cs.ln.mono (by have:=h.A1;omega)
 la:=Aa _
 ll:=h.sl
 eu:=.base _ _
theorem RwOk.ln_rem(h:RwOk J K p)(d:Shn (DM p) (Jb (DM p)) (DR K (DM p) (Jb (DM p))) 500000000 a b)(b0:b≠[]):Ln (DR K (DM p) (Jb (DM p))) (JI a (JU b)):=by
 have l1:(JU (Jb (DM p))).length<=(Jb (DM p)).length:=Ns _ _;have e:Ln K (JU (Jb (DM p))):=by
  by_cases c:Jb (DM p)=[]
  . rw[c];have:=h.cs.ln;rwa[c]at this
  . exact h.cs.ln.sc (by have:=K4 (JO (DM p)) c;grind)
 have f:=h.sl;have g:=h.ln;refine(Pw h.tf (XV _) h.cf.ln e O d.eu (K6 d.tb b0).1).mono ?_;refine Af ?_ (P6 _ _ _);exact Aj _ O
def RwOk.next(h:RwOk J K p)(e:Shn (DM p) (Jb (DM p)) (DR K (DM p) (Jb (DM p))) 500000000 a b)(b0:b≠[]):Shn (DM p) (Jb (DM p)) (DR K (DM p) (Jb (DM p))) 500000000 (JU b) (DQ (-1) (JI a (JU b))):=by
 obtain⟨c0,cl⟩:=K6 e.tb b0;have j:=h.A1;have k:=h.bd e.la;have i:=h.ln_rem e b0;have f:=QR e.tb e.lb O;have l2:=(J8 a (JU b) (XV b) c0).2.1;have l:=Ns (-1) (JI a (JU b));have ll:=e.ll;refine⟨XV _,JK _ _,f,(e.ca.remG f (XV b) c0).negs.mono O,i.sc DK,O,O,?_⟩;by_cases r0:JI a (JU b)=[]
 . have:=e.eu.tail (c:=1) c0 DK;rw[r0]at this ⊢;exact this
 . obtain⟨d,d0,g⟩:=mC (c:=-1) DK (YO a (JU b)) r0;rw[g];exact e.eu.tail c0 d0
end
end
namespace M3
def mD(k:IntKind):It k≠29:=by cases k<;>decide
def mE(k:Bool):Dn k≠29:=by cases k<;>decide
def Ik(w wr:G)(c d vl:I)(a b:Ja)(H:List Ja):Prop:=
 RowK false wr c a/\RowK false wr d b/\(∃cs,Yn 29 w.heap.size wr vl cs/\Ee wr cs (H++[a]))/\Bl w wr
def Ik.below{w wr W':G}{d e vl:I}{a b:Ja}{H:List Ja}(h:Ik w wr d e vl a b H)(c:Bl wr W'):Ik w W' d e vl a b H:=by
 obtain⟨f,i,⟨cs,j,k⟩,l⟩:=h;exact⟨f.below c,i.below c,⟨cs,j.below c,k.keep λ_ _ g=>g.below c⟩,Bt l c⟩
def Ik.app{w W:G}{vl:I}{cs:List I}{L:List Ja}(g:Yn 29 w.heap.size W vl cs)(m:Ee W cs L)(i:Bl w W){a:nJ}{l c:Nat}{r:Ja}(n:RowK false W (C a l c) r)(hl:cs.length+1<=1099511627776):
 ∃x y z b,(Builtin.append_ #[83,83] 83 #[vl,C (some ⟨W.heap.size,0,none⟩) 1 1]).run F (W.alloc (.cells #[C a l c] 29))=.ok (C x y z) b/\(∃f,Yn 29 w.heap.size b (C x y z) f/\Ee b f (L++[r]))/\Bl w b/\∀v ps,RowK false W v ps->RowK false b v ps:=by
 obtain⟨p,b,e,j,far,bel,o,Kg⟩:=PP eA w.heap.size W vl cs g (x:=C a l c) rfl hl i.size;obtain⟨x,z,rfl,_⟩:=j.form;have k:=Yn.far g far;have d:∀v ps,RowK false W v ps->RowK false b v ps:=λv ps h=>k.rowK mD mE h;exact⟨x,_,z,b,e,⟨_,j,(m.keep d).snoc (d _ _ n)⟩,bel _ _ (Aa _) i,d⟩
end M3
def RwOk.frq{J K:Nat}{p:Ja}(h:RwOk J K p):Ij p=DM p:=by
 rw[lM h.fr.ch.tp h.p0];exact BD (II (Yz p) (JO (Jy p)) (An (Kz h.fr.ch.tp h.p0)))
namespace M3
def mF(n:Nat)(a:Ja):D0 n a []=[a]:=by
 cases n with
 |zero=>rfl
 |succ n=>rw[D0,BG rfl]
def VM:∀(n:Nat) (a b:Ja),(D0 n a b).length<=n+1:=by
 intro n;induction n with
 |zero=>intro a b;exact Aa _
 |succ n c=>
  intro a b;rw[D0];split
  . simp
  . have:=c (JU b) (DQ (-1) (JI a (JU b)));simp only[Ah];omega
def mG(w:G)(p:Ja)(K:Nat)(g i j:I)(wr:G):Prop:=∃(a b:Ja) (H:List Ja) (n:Nat) (c d e:nJ) (l1 c1 l2 c2 f c3:Nat),(g=C c l1 c1/\i=C d l2 c2/\j=C e f c3)/\Hid (Ik w wr (C c l1 c1) (C d l2 c2) (C e f c3) a b H)/\Hid (Shn (DM p) (Jb (DM p)) (DR K (DM p) (Jb (DM p))) 500000000 a b)/\Hid (b.length<=n/\Ym p=H++D0 n a b)
def QS(J K:Nat)(va:I)(p:Ja)(w:G)(ha:RowK false w va p)(d:RwOk J K p):
 Calls F 49 #[va] w λe g=>∃u,e=.returned u/\(∃cs,Yn 29 w.heap.size g u cs/\Ee g cs (Ym p))/\Bl w g:=by
 obtain⟨a0,l0,c0,rfl⟩:=ha.form;have Qh:=Y (kr J _ p w ha d.fr);rw[d.frq]at Qh;have Qe:=d.bd (Aa _);have Qv:=d.A1;have Qr:=d.cf.sqs (M:=K) O;obtain⟨Qn,Qt,Ql⟩:=DX (λ(V:G) (x:I) (s:RowK false V x (DM p))=>Tr x (DM p) V s Qr (by have:=d.ln;omega)) d.start λ(a b:Ja) (c:Shn (DM p) (Jb (DM p)) (DR K (DM p) (Jb (DM p))) 500000000 a b) (b0:b≠[])=>d.next c b0;have Qp:=Y (λ(a b:Ja) (c:Shn (DM p) (Jb (DM p)) (DR K (DM p) (Jb (DM p))) 500000000 a b) (b0:b≠[]) (V:G) (x:I) (s:RowK false V x b)=>lk x b V s c.tb (c.cb.sqs O) (λh0=>by
  have i:=(c.cb.smq (b.length-1));have f:DP 500000000 (Xa (cf b (b.length-1))):=by
   rcases Ni (cf b (b.length-1))with e|e
   . rw[e];exact i
   . rw[e];exact i.neg
  rw[Rat.div_def,Rat.one_mul];exact Sq.of (f.inv (P3 (Jt c.tb h0))) O) (by have:=c.ll;have:=d.ln;omega))
 have Qq:=Y (λ(a b:Ja) (c:Shn (DM p) (Jb (DM p)) (DR K (DM p) (Jb (DM p))) 500000000 a b) (b0:b≠[]) (V:G) (x y:I) (s:RowK false V x a) (hy:RowK false V y (JU b))=>show Calls F 110 #[x,y] V λe g=>∃u v,e=.returned (.tuple #[u,v])/\RowK false g u (JA a (JU b))/\RowK false g v (JI a (JU b))/\Bl V g by
  obtain⟨c0,cl⟩:=K6 c.tb b0;obtain⟨D,E,l,hd⟩:=c.ca.dvnG (QR c.tb c.lb O) (XV b) c0;have hf:=d.bd c.la;exact P2 _ _ x y a (JU b) V s hy (hd.divS a.length O) hd.start hd.sq c.ta (XV b) c0 (by have:=c.la;have:=d.ln;omega))
 have Qm:=Y (λ(a b:Ja) (c:Shn (DM p) (Jb (DM p)) (DR K (DM p) (Jb (DM p))) 500000000 a b) (b0:b≠[]) (V:G) (x y:I) (s:RowK false V x (JI a (JU b))) (hy:Jk V y ((-1:Int):Rat))=>show Calls F 111 #[x,y] V λe g=>∃u,e=.returned u/\RowK false g u (DQ (-1) (JI a (JU b)))/\Bl V g by
  obtain⟨c0,cl⟩:=K6 c.tb b0;have hf:=d.bd c.la;have i:=(c.ca.remG (QR c.tb c.lb O) (XV b) c0).sqs O;have l2:=(J8 a (JU b) (XV b) c0).2.1;exact NQ x y _ _ V s hy i (Sq.of (k:=1) ⟨(Sm.one 1 O).neg,Sm.one 1 O⟩ O) (by have:=c.ll;have:=d.ln;omega))
 obtain⟨Qx,ay,Qk⟩:=DX (show(Ym p).length<=1000+1 from Af (VM _ _ _) (by have:=d.sl;have:=d.ln;omega)) d.ln λ(V:G)=>YD (-1) O O V;clear ha d Qe Qv Qr;go_enter func49,ntmps49
 go_upto_region 3 with(first
  |(go_at_call 107;refine Qh.o.mono ?_;clear Qh;rintro e w1 ⟨u1,rfl,R,ah⟩;obtain⟨r,l1,c1,rfl⟩:=R.form)
  |(go_at_call 108;refine(Qn.o _ _ R).mono ?_;clear Qn;rintro e j ⟨u2,rfl,g2,ad⟩;obtain⟨a2,l2,c2,rfl⟩:=g2.form))
 have W:Bl j (j.alloc (.cells #[C r l1 c1] 29)):=Ba j _;have Qd:Bl w j:=Bt ah ad;have ST:Hid (Ik w (j.alloc (.cells #[C r l1 c1] 29)) (C r l1 c1) (C a2 l2 c2) (C (some ⟨j.heap.size,0,none⟩) 1 1) (DM p) (Jb (DM p)) []):=Y (by
  have ae:=(R.below ad).below W;exact⟨ae,g2.below W,⟨[C r l1 c1],Au ⟨_,1,_,rfl,Qd.size,BB j _,Aa _,by unfold maxLen;omega,rfl,rfl⟩,(GL.nil _).snoc ae⟩,Bt Qd W⟩)
 have Qj:Hid ((Jb (DM p)).length<=(Jb (DM p)).length/\Ym p=[]++D0 (Jb (DM p)).length (DM p) (Jb (DM p))):=Y ⟨Aa _,by unfold Ym;rw[Ar]⟩;clear W Qd R g2 ah ad;go_wp2;go_loopw [3,4,5] (λL z xl wr=>mG w p K L z xl wr) λ_ z _ _=>Ht z
 case atStart=>exact⟨DM p,Jb (DM p),[],(Jb (DM p)).length,r,a2,some ⟨j.heap.size,0,none⟩,l1,c1,l2,c2,1,1,⟨rfl,rfl,rfl⟩,ST,Qt,Qj⟩
 case round=>
  clear ST Qt Qj;obtain⟨a,b,H,n,r,a2,a3,l1,c1,l2,c2,l3,c3,⟨rfl,rfl,rfl⟩,o,q,P⟩:=hrel;have Qi:l2=b.length:=by obtain⟨_,_,e,_⟩:=o.o.2.1;cases e;rfl
  by_cases b0:b=[]
  . have az:(l2:Int)=0:=by rw[Qi,b0];rfl
    have HF:=Y (show(∃cs,Yn 29 w.heap.size wr (C a3 l3 c3) cs/\Ee wr cs (Ym p))/\Bl w wr from⟨by
     have e:Ym p=H++[a]:=by rw[P.o.2,b0];exact congrArg _ (mF n a)
     rw[e];exact o.o.2.2.1,o.o.2.2.2⟩)
    clear Qi b0 o q P;go_wp2;go_ret;exact⟨_,rfl,HF.o⟩
  . obtain⟨m2,rfl⟩:∃m,l2=m+1:=⟨l2-1,by have:=Ac.2 b0;omega⟩;obtain⟨Qc,Qb,Qa,Qf⟩:=Di (Qp.o a b q.o b0 wr _ o.o.2.1) (Qq.o a b q.o b0) (Qm.o a b q.o b0) (Ql.o a b q.o b0);have Qg:=Y (show(DQ (-1) (JI a (JU b))).length<m2+1 from by
     obtain⟨c0,cl⟩:=K6 q.o.tb b0;have bc:=(J8 a (JU b) (XV b) c0).2.1;have bf:=Ns (-1) (JI a (JU b));omega)
    have Qo:=Y (show ∃m,(DQ (-1) (JI a (JU b))).length<=m/\Ym p=(H++[a])++D0 m (JU b) (DQ (-1) (JI a (JU b)))/\(H++[a]).length<=1001 from by
     obtain⟨i,f⟩:=P.o;have h3:=Qg.o;have U:=Qx.o;cases n with
      |zero=>exact absurd (Az.1 O) b0
      |succ n=>
      rw[D0,BD b0]at f;refine⟨n,O,by rw[f];simp,?_⟩;rw[f]at U;simp only[Cc,Ah,AK]at U ⊢;omega)
    clear Qi b0 Qp Qq Qm Ql P q;go_upto_region 6 with(go_at_call 109;refine Qc.o.mono ?_;clear Qc;rintro e w5 ⟨u5,rfl,S,ai⟩;obtain⟨a5,l5,c5,rfl⟩:=S.form)
    obtain⟨i1,i2,⟨cs,i3,i4⟩,i5⟩:=o.o.below ai;obtain⟨L,z,xc,t,an,am,aj,kp⟩:=Ik.app i3 i4 i5 S (by
     have i:=i4.1;obtain⟨m,_,_,f⟩:=Qo.o;omega)
    have N:=Y (show RowK false t (C r l1 c1) a/\RowK false t (C a5 l5 c5) (JU b)/\(∃Q,Yn 29 w.heap.size t (C L z xc) Q/\Ee t Q ((H++[a])++[JU b]))/\Bl w t from⟨kp _ _ i1,kp _ _ S,am,aj⟩);clear i1 i2 i3 i4 i5 ai S am aj kp o;have hq:=BA t.heap.size t;go_wp2_with(first
     |(at_builtin;refine BS _ rfl _ _ 83 83 rfl _ _ rfl rfl _ _ an ?_;clear an)
     |(go_at_call 110;refine(Qb.o _ _ _ N.o.1 N.o.2.1).mono ?_;clear Qb;rintro e w7 ⟨u7,v7,rfl,g7,A,ap⟩;obtain⟨a7,l7,c7,rfl⟩:=g7.form;obtain⟨a8,l8,c8,rfl⟩:=A.form;have hq:=Bt hq ap;clear g7)
     |(go_at_call 41;refine(Qk.o _).mono ?_;clear Qk;rintro e w8 ⟨u8,rfl,g8,ak⟩;have hq:=Bt hq ak;have A:=A.below ak)
     |(go_at_call 111;refine(Qa.o _ _ _ A g8).mono ?_;clear Qa A g8;rintro e w9 ⟨u9,rfl,T,aq⟩;obtain⟨a9,X,c9,rfl⟩:=T.form;have hq:=Bt hq aq))
    have Qu:=Y (show Ik w w9 (C a5 l5 c5) (C a9 X c9) (C L z xc) (JU b) (DQ (-1) (JI a (JU b))) (H++[a])from by
     obtain⟨i,f,⟨Q,h3,h4⟩,U⟩:=N.o;exact⟨f.below hq,T,⟨Q,h3.below hq,h4.keep λ_ _ h=>h.below hq⟩,Bt U hq⟩)
    have Qs:X=(DQ (-1) (JI a (JU b))).length:=by obtain⟨_,_,e,_⟩:=T;cases e;rfl
    have Qw:=Y (show X<m2+1 from by rw[Qs];exact Qg.o);clear Qs T N hq Qg;go_roundw
    case rel=>
     obtain⟨m,i,f,_⟩:=Qo.o;exact⟨JU b,DQ (-1) (JI a (JU b)),H++[a],m,a5,a9,L,l5,c5,X,c9,z,xc,⟨rfl,rfl,rfl⟩,Qu,Qf,Y ⟨i,f⟩⟩
    case measure=>exact Qw.o
