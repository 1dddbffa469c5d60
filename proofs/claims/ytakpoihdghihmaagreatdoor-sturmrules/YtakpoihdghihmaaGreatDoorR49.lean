import Derived.Test.YtakpoihdghihmaaGreatDoorR48
import Derived.Test.YtakpoihdghihmaaGreatDoorR29
open Go.Value renaming slice->D,pointer->C
open Go renaming World->E,Boxed->F,Value->G
open Go.Obj renaming cells->B
set_option maxRecDepth 100000
set_option maxHeartbeats 16000000
namespace Go.Proofs.YtakpoihdghihmaaGreatDoor
section
def Dr:List Int->Int->Int
 |[],_=>0
 |c::t,x=>c+x*Dr t x
def cz(g:List Int)(i:Nat):Int:=g[i]?.getD 0
variable{P R a b g p q:List Rat}{K M n:Nat}
theorem Ru(i:Nat):cz [] i=0:=rfl
theorem MD(c:Int)(t:List Int):cz (c::t) 0=c:=rfl
theorem Ky(c:Int)(t:List Int)(i:Nat):cz (c::t) (i+1)=cz t i:=rfl
theorem OQ{g:List Int}{i:Nat}(h:g.length<=i):cz g i=0:=by unfold cz;rw[AQ h];rfl
def Yy:List Int->Int->List Int × Int
 |[],_=>([],0)
 |c::t,k=>((Yy t k).2::(Yy t k).1,c+k*(Yy t k).2)
theorem OR(k x:Int):∀g:List Int,Dr g x=(x-k)*Dr (Yy g k).1 x+(Yy g k).2:=by
 intro g;induction g with
 |nil=>simp[Dr,Yy]
 |cons c t a=>rw[Dr,Yy,a];simp only[Dr];grind
theorem Rv(k:Int)(g:List Int):(Yy g k).2=Dr g k:=by
 have h:=OR k k g;rw[Int.sub_self,Int.zero_mul,Int.zero_add]at h;exact h.symm
theorem OS(k:Int):∀(g:List Int),cz g 0=(Yy g k).2-k*cz (Yy g k).1 0/\∀i,cz g (i+1)=cz (Yy g k).1 i-k*cz (Yy g k).1 (i+1):=by
 intro g;induction g with
 |nil=>exact⟨by simp[Ru,Yy],λi=>by simp[Ru,Yy]⟩
 |cons c t a=>
  rw[Yy];refine⟨by rw[MD,MD];omega,λi=>?_⟩;cases i with
  |zero=>rw[Ky,MD,Ky];exact a.1
  |succ i=>rw[Ky,Ky,Ky];exact a.2 i
theorem Rw(k:Int)(g:List Int){m:Nat}(h:∀i,m+1<=i->cz g i=0):∀i,m<=i->cz (Yy g k).1 i=0:=by
 have b:∀d i,m<=i->(Yy g k).1.length<=i+d->cz (Yy g k).1 i=0:=λd=>by
  induction d with
  |zero=>intro i _ c;exact OQ Y
  |succ d j=>
   intro i a c;have e:=j (i+1) Y Y;have f:=(OS k g).2 i;rw[h (i+1) Y,e,Int.mul_zero]at f;omega
 intro i a;exact b (Yy g k).1.length i a Y
theorem dl:∀(m:Nat) (g:List Int),(∀i,m<=i->cz g i=0)->(∃i,cz g i≠0)->∀b:List Int,b.Nodup->(∀k∈b,Dr g k=0)->b.length<m:=by
 intro m;induction m with
 |zero=>intro g h ⟨i,s⟩;exact absurd (h i Y) s
 |succ m u=>
  intro g h ⟨t,c⟩ b e o;cases b with
  |nil=>simp
  |cons a b=>
   rw[List.nodup_cons]at e;have q:(Yy g a).2=0:=by rw[Rv];exact o a O
   have hq:∃i,cz (Yy g a).1 i≠0:=by
    by_cases f:∃i,cz (Yy g a).1 i≠0
    . exact f
    . exfalso
      have d:∀i,cz (Yy g a).1 i=0:=λi=>Classical.not_not.1 λr=>f ⟨i,r⟩;have j:=OS a g;cases t with
      |zero=>rw[j.1,q,d]at c;simp at c
      |succ i=>rw[j.2,d,d]at c;simp at c
   have v:=u (Yy g a).1 (Rw a g h) hq b e.2 (λk p=>by
    have l:=OR a k g;rw[o k (by simp[p]),q,Int.add_zero]at l;rcases Int.mul_eq_zero.1 l.symm with n|n
    . exact absurd (show k∈b from p) λw=>e.1 (by rwa[show a=k by omega])
    . exact n)
   simp only[Ah];omega
theorem dq(B:Nat):∀(m:Nat) (g:List Int) (M:Nat),(∀i,m<=i->cz g i=0)->∀b:List Int,b.Nodup->b.length=m->(∀k∈b,(Dr g k).natAbs<=M/\k.natAbs<=B)->∀i,(cz g i).natAbs<=M*(2*B+3)^m:=by
 intro m;induction m with
 |zero=>intro g M h b _ _ _ i;rw[h i Y];simp
 |succ m v=>
  intro g M h b f hl o i;cases b with
  |nil=>simp at hl
  |cons a b=>
   rw[List.nodup_cons]at f;obtain⟨p,q⟩:=o a O;have I:((Yy g a).2).natAbs<=M:=by rw[Rv];exact p
   have hq:=v (Yy g a).1 (2*M) (Rw a g h) b f.2 (by simpa using hl) (λk u=>by
    obtain⟨n,c⟩:=o k (by simp[u]);refine⟨?_,c⟩;have z:=OR a k g;have r:(k-a)*Dr (Yy g a).1 k=Dr g k-(Yy g a).2:=Y
    have s:(k-a).natAbs*(Dr (Yy g a).1 k).natAbs<=2*M:=by
     rw[<-CA,r];omega
    have t:0<(k-a).natAbs:=Int.natAbs_pos.2 λe=>f.1 (by rwa[show a=k by omega]);exact An (C3 _ t) s)
   obtain⟨X,d⟩:∃X,2*M*(2*B+3)^m=X:=⟨_,rfl⟩;rw[d]at hq;have A:2*M<=X:=by rw[<-d];exact Ce _ (CL Y)
   have H:X+B*X<=M*(2*B+3)^(m+1):=by
    have e:M*(2*B+3)^(m+1)*2=X*(2*B+3):=by rw[<-d,A4];grind
    have w:X*(2*B+3)=2*(B*X)+3*X:=by grind
    omega
   have j:∀y:Int,(a*y).natAbs<=B*y.natAbs:=λy=>by rw[CA];exact Ak _ q
   have l:=OS a g;cases i with
   |zero=>
    rw[l.1];have n:=j (cz (Yy g a).1 0);have c:B*(cz (Yy g a).1 0).natAbs<=B*X:=Aq _ (hq 0);omega
   |succ i=>
    rw[l.2];have n:=j (cz (Yy g a).1 (i+1));have c:B*(cz (Yy g a).1 (i+1)).natAbs<=B*X:=Aq _ (hq (i+1));have x:=hq i;omega
theorem dw{B:Nat}:∀(g:List Int) (k:Int),(∀i,(cz g i).natAbs<=M)->k.natAbs<=B->(Dr g k).natAbs<=M*(B+1)^g.length:=by
 intro g;induction g with
 |nil=>intro k _ _;simp[Dr]
 |cons c t l=>
  intro k h e;have b:=l k (λi=>h (i+1)) e;have j:=h 0;rw[MD]at j;rw[Dr,Ah,A4];obtain⟨a,d⟩:=ex ((B+1)^t.length);rw[d]at b ⊢;have f:1<=a:=by rw[<-d];exact CL Y
  have m:(k*Dr t k).natAbs<=B*(M*a):=by rw[CA];exact CE e b
  have n:M<=M*a:=Ce _ f;have o:M*(a*(B+1))=M*a+B*(M*a):=by grind
  have p:=FI c (k*Dr t k);omega
def Kz(g:List Int):List Rat:=g.map (λz:Int=>(z:Rat))
theorem OT(g:List Int)(i:Nat):cf (Kz g) i=(cz g i:Rat):=by
 unfold cf Kz cz;rw[Fa];cases g[i]? with
 |none=>rfl
 |some z=>rfl
theorem OU(k:Int):∀g:List Int,ev (Kz g) (k:Rat)=(Dr g k:Rat):=by
 intro g;induction g with
 |nil=>rfl
 |cons c t a=>
  show(c:Rat)+(k:Rat)*ev (Kz t) (k:Rat)=_;rw[a,Dr,FP,AB]
theorem OV(h:∀i,∃z:Int,cf p i=(z:Rat)):∃g:List Int,p=Kz g/\g.length=p.length:=by
 induction p with
 |nil=>exact⟨[],rfl,rfl⟩
 |cons c t e=>
  obtain⟨g,b,d⟩:=e (λi=>by have:=h (i+1);rwa[J3]at this);obtain⟨z,a⟩:=h 0;rw[YR]at a;exact⟨z::g,by rw[a,b];rfl,by simp[d]⟩
theorem nodup_range(n:Nat):((List.range n).map (λi:Nat=>(i:Int))).Nodup:=by
 refine List.Pairwise.map _ ?_ (List.nodup_range (n:=n));intro a b h e;exact h Y
theorem eA(x:Jd P=P)(f:P≠[])(hl:P.length<=n+1)(s:∀i,∃z:Int,z.natAbs<=M/\cf P i=(z:Rat))(y:Jd g=g)(h:Dv g P):
 ∀i,∃z:Int,z.natAbs<=M*(2*n+1)^(n+1)*(2*(2*n)+3)^(n+1)/\cf (JI g) i=(z:Rat):=by
 obtain⟨H,V,eP,W⟩:=dc x f (λi=>by obtain⟨z,_,c⟩:=s i;exact⟨z,c⟩) y h;have U:g≠[]:=λe=>f (by rw[eP,e];rfl);have t:H≠[]:=λe=>f (by rw[eP,e];exact YX _);obtain⟨a,m,lp⟩:=OV (p:=P) (λi=>by obtain⟨z,_,c⟩:=s i;exact⟨z,c⟩);obtain⟨j,w,lg⟩:=OV (OP y U);obtain⟨X,T,lh⟩:=OV W;have af:(JI g).length<=n+1:=by
  have b:=JA (Yk g) V (λe=>f (by rw[eP,e];rfl)) t;rw[<-eP]at b;have c:0<H.length:=Ag.2 t;omega
 have N:∀i,(cz a i).natAbs<=M:=λi=>by
  obtain⟨z,b,c⟩:=s i;rw[m,OT]at c;rwa[Rat.intCast_inj.1 c]
 have u:∀k:Int,Dr a k=Dr j k*Dr X k:=λk=>by
  have b:ev P (k:Rat)=ev (JI g) (k:Rat)*ev H (k:Rat):=by rw[<-Jg,<-eP]
  rw[m,w,T,OU,OU,OU,<-AB]at b;exact Rat.intCast_inj.1 b
 obtain⟨R,o⟩:=ex ((List.range (2*n+1)).map (λi:Nat=>(i:Int)));have v:R.Nodup:=by rw[<-o];exact nodup_range _
 have ad:R.length=2*n+1:=by rw[<-o];simp
 have K:∀k∈R,k.natAbs<=2*n:=λk d=>by
  rw[<-o]at d;obtain⟨i,r,rfl⟩:=C1.1 d;have:=List.mem_range.1 r;omega
 have ae:(R.filter λk=>Dr a k==0).length<n+1:=by
  refine dl (n+1) a (λi r=>OQ Y) ?_ _ (v.filter _) (λk d=>by
   have:=(Fp.1 d).2;simpa using this)
  refine⟨P.length-1,λe=>Jt x f ?_⟩;have b:=OT a (P.length-1);rw[<-m,e]at b;exact b
 have ah:(R.filter λk=>Dr a k==0).length+(R.filter λk=>!(Dr a k==0)).length=R.length:=by
  rw[<-List.countP_eq_length_filter,<-List.countP_eq_length_filter];have b:=List.length_eq_countP_add_countP (l:=R) λk=>Dr a k==0;have c:List.countP (λk=>!(Dr a k==0)) R=List.countP (λk=>decide ¬((Dr a k==0)=true)) R:=by congr 1;funext k;cases(Dr a k==0)<;>rfl
  omega
 obtain⟨S,q⟩:=ex ((R.filter λk=>!(Dr a k==0)).take (n+1));have I:S.length=n+1:=by rw[<-q,Al];omega
 have L:S.Nodup:=by rw[<-q];exact List.Sublist.nodup (List.take_sublist _ _) (v.filter _)
 have Q:∀k∈S,Dr a k≠0/\k.natAbs<=2*n:=λk d=>by
  rw[<-q]at d;have b:=Fp.1 (Fu d);refine⟨?_,K k b.1⟩;have:=b.2;simpa using this
 have A:=dq (2*n) (n+1) j (M*(2*n+1)^(n+1)) (λi r=>OQ Y) S L I (λk d=>by
  obtain⟨b,c⟩:=Q k d;refine⟨?_,c⟩;have h3:=dw a k N c;have h4:M*(2*n+1)^a.length<=M*(2*n+1)^(n+1):=Aq _ (AF Y Y);have h5:(Dr j k).natAbs<=(Dr a k).natAbs:=by
   rw[u k,CA];refine Ce _ (Int.natAbs_pos.2 λe=>b ?_);rw[u k,e,Int.mul_zero]
  omega)
 intro i;exact⟨cz j i,A i,by rw[w,OT]⟩
theorem Ln.mul{N:Nat}(hp:Ln K p)(hq:Ln N q)(hl:p.length<=1000000):Ln (K+N+1) (Js p q):=by
 obtain⟨c,l,b⟩:=hp;obtain⟨d,m,a⟩:=hq;obtain⟨z,b⟩:=Classical.axiomOfChoice b;obtain⟨y,a⟩:=Classical.axiomOfChoice a;refine⟨c*d,X2 l m,λk=>⟨Yl p.length λi=>if i<=k then z i*y (k-i)else 0,?_,?_⟩⟩
 . have e:(Yl p.length λi=>if i<=k then z i*y (k-i)else 0).natAbs<=p.length*(Z^K*Z^N):=Ly λi _=>by
    split
    . rw[CA];have g:=(b i).1;have j:=(a (k-i)).1;unfold Sm at g j;exact CE Y Y
    . simp
   unfold Sm;rw[A4,CO];have f:0<Z^K*Z^N:=FQ (CL Gx) (CL Gx);refine Ch e ?_;rw[At];exact(Nat.mul_lt_mul_left f).2 uo
 . rw[L1 p q (Aa _)];have e:∀n,Dj n (λi=>if i<=k then cf p i*cf q (k-i)else 0)*(c*d)=((Yl n (λi=>if i<=k then z i*y (k-i)else 0):Int):Rat):=λn=>by
    induction n with
    |zero=>simp[Dj,Yl,Rat.zero_mul]
    |succ n o=>
     rw[Dj,Yl,FP,<-o];split
     . rw[AB,<-(b n).2,<-(a (k-n)).2];grind
     . rw[show((0:Int):Rat)=0 from rfl];grind
   exact e _
theorem Ln.slope(h:Ln K p)(hl:p.length<=1000000):Ln (K+1) (Jb p):=by
 obtain⟨c,d,e⟩:=h;refine⟨c,d,λi=>?_⟩;obtain⟨z,a,b⟩:=e (i+1);rw[Xp];by_cases f:i+1<p.length
 . refine⟨z*((i+1:Nat):Int),a.mul (by unfold Sm Z;rw[AK];omega),?_⟩;rw[AB,<-b];grind
 . exact⟨0,Sm.zero _,by rw[Ye Y,A2,A2];rfl⟩
theorem Dv.lnN{e:Nat}(b:Jd P=P)(s:P≠[])(hl:P.length<=n+1)(Q:(2*n+1)^(n+1)*(2*(2*n)+3)^(n+1)<=Z^e)(R:Ln K P)(r:Jd g=g)(h:Dv g P):Ln (K+e) g:=by
 obtain⟨c,p,o⟩:=GF b;have v:c≠0:=λf=>by rw[f]at p;exact absurd p DF
 have I:JI P≠[]:=by rw[o];exact KF v b s
 have L:Dv g (JI P):=by rw[o];exact h.sc c
 have x:=KH b R;have y:=eA (n:=n) (M:=Z^K-1) (Yk P) I (by rw[J4 b];omega) (λi=>by
  obtain⟨z,j,k⟩:=x i;unfold Sm at j;exact⟨z,Y,k⟩) r L
 have A:EN (K+e) (JI g):=λi=>by
  obtain⟨z,j,k⟩:=y i;refine⟨z,?_,k⟩;unfold Sm;have T:0<Z^K:=CL Gx;have t:0<Z^e:=CL Gx;have a:(Z^K-1)*((2*n+1)^(n+1)*(2*(2*n)+3)^(n+1))<=(Z^K-1)*Z^e:=Aq _ Q;rw[<-AH]at a;have l:(Z^K-1)*Z^e<Z^K*Z^e:=(Nat.mul_lt_mul_right t).2 Y;rw[CO];exact Ch j (Ch a l)
 obtain⟨m,q,w⟩:=GF r;have u:m≠0:=λf=>by rw[f]at q;exact absurd q DF
 have a:=A.ln;rw[w]at a;obtain⟨d,N,S⟩:=a;refine⟨m*d,X2 u N,λi=>?_⟩;obtain⟨z,l,H⟩:=S i;exact⟨z,l,by rw[<-H,Yw];grind⟩
theorem ME:(2*24+1)^(24+1)*(2*(2*24)+3)^(24+1)<=Z^5:=by unfold Z;decide
theorem eB:(2*47+1)^(47+1)*(2*(2*47)+3)^(47+1)<=Z^11:=by unfold Z;decide
theorem Dv.len(g:Jd a=a)(i:Jd b=b)(b0:b≠[])(h:Dv a b):a.length<=b.length/\a≠[]:=by
 obtain⟨c,j,e⟩:=h.some i;have f:a≠[]:=λd=>b0 (by rw[e,d];rfl);have c0:c≠[]:=λd=>b0 (by rw[e,d];exact YX _);have l:=JA g j f c0;rw[<-e]at l;have:0<c.length:=Ag.2 c0;exact⟨Y,f⟩
theorem Rx(d:Jd a=a)(e:Jd b=b)(c:a≠[])(b0:b≠[]):cf (Js a b) ((Js a b).length-1)=cf a (a.length-1)*cf b (b.length-1):=by
 have l:=JA d e c b0;have f:0<a.length:=Ag.2 c;have g:0<b.length:=Ag.2 b0;rw[l,show a.length+b.length-1-1=(a.length-1)+(b.length-1)by omega];unfold Js;rw[Yf];exact Me a b (a.length-1) (b.length-1) Y Y
theorem X8(c:Jd R=R)(hl:1<R.length):(Jb R).length=R.length-1/\cf (Jb R) ((Jb R).length-1)=cf R (R.length-1)*(((R.length-1:Nat):Int):Rat):=by
 have R0:R≠[]:=λe=>by rw[e]at hl;simp at hl
 have d:=Y9 R0;have b:cf (Jb R) (R.length-2)≠0:=by
  rw[Xp,show R.length-2+1=R.length-1 by omega];exact X2 (Jt c R0) (by
   intro e;have:((R.length-1:Nat):Int)=0:=by exact_mod_cast e
   omega)
 have f:=RS b;have a:(Jb R).length=R.length-1:=Y
 refine⟨a,?_⟩;rw[a,Xp,show R.length-1-1+1=R.length-1 by omega]
theorem MF(tq:Jd q=q)(q0:q≠[])(a:Jq q=q):cf q (q.length-1)=1:=by
 have:=L3 tq q0;rwa[a]at this
theorem Ry{w y:List Rat}(tq:Jd q=q)(q0:q≠[])(lq:q.length<=25)(k:Ln K q)(tR:Jd R=R)(N:Jq R=R)(tw:Jd w=w)(mw:Jq w=w)(ty:Jd y=y)(dR:Dv R q)(g:Dv w q)
(I:∀x,ev y x*ev R x=ev w x*ev (Jb R) x):∃D:Int,D≠0/\Sm (2*K+24) D/\EC D (2*K+24) y:=by
 by_cases a:y=[]
 . subst a;exact Rf Y
 . obtain⟨T,R0⟩:=dR.len tR tq q0;obtain⟨V,w0⟩:=g.len tw tq q0;have c:Js y R=Js w (Jb R):=Xt (J2 _ _) (J2 _ _) λx=>by rw[Jg,Jg,I]
   have p0:Js w (Jb R)≠[]:=by rw[<-c];exact Rq ty tR a R0
   have f:Jb R≠[]:=λe=>p0 (by rw[e];exact YX _);have A:1<R.length:=by
    have P:0<(Jb R).length:=Ag.2 f;have:=Y9 R0;omega
   obtain⟨U,L⟩:=X8 tR A;have v:Ln (K+5) R:=dR.lnN (n:=24) tq q0 Y ME k tR;have t:Ln (K+5) w:=g.lnN (n:=24) tq q0 Y ME k tw;have s:=t.mul (v.slope Y) Y;have S:=JA tw (Jr R) w0 f;have u:Dv y (Js w (Jb R)):=⟨R,λx=>by rw[<-c,Jg]⟩;have z:=u.lnN (n:=47) (e:=11) (J2 _ _) p0 Y eB s ty;have b:=Rx ty tR a R0;have r:=Rx tw (Jr R) w0 f;rw[c]at b;rw[r,L,MF tw w0 mw,MF tR R0 N]at b;have p:cf y (y.length-1)=(((R.length-1:Nat):Int):Rat):=by
    rw[Co,Co,Rat.mul_one]at b;exact b.symm
   obtain⟨E,l,m,o⟩:=OE ty a z;refine⟨E,l,m.mono Y,λi=>?_⟩;have H:cf y i=cf (Jq y) i*(((R.length-1:Nat):Int):Rat):=by
    unfold Jq;rw[Yw,<-p];have Q:(1/cf y (y.length-1))*cf y (y.length-1)=1:=Ap (Jt ty a);grind
   rw[H];have j:=(o i).mul (E:=1) (M:=1) (d:=(((R.length-1:Nat):Int):Rat)) ⟨((R.length-1:Nat):Int),by rw[CB,show((1:Int):Rat)=1 from rfl];grind,by unfold Sm Z;rw[AK];omega⟩;rw[Int.mul_one]at j;exact j.mono Y
def EE(q w y:List Rat):Nat->List Rat
 |0=>q
 |n+1=>Jp (EE q w y n) (DI w y n).1
theorem GX(h:q≠[]):Dm p q=Jp p q:=BB h
section
variable {q w y:List Rat}
theorem X9(h:Yun q w y)(m:Jq q=q):∀n,Yun (EE q w y n) (DI w y n).1 (DI w y n).2/\Dv (EE q w y n) q/\Jq (EE q w y n)=EE q w y n/\Dv (DI w y n).1 q:=by
 intro n;induction n with
 |zero=>exact⟨h,Dv.refl _,m,h.dv⟩
 |succ n l=>
  obtain⟨a,g,i,j⟩:=l;obtain⟨_,_,o,p,_,s⟩:=a.step;have c:Jz (DI w y n).1 (JD (DI w y n).2 (Jb (DI w y n).1))≠[]:=Xo a.tw (Yi _ _) (Or.inl a.w0);have e:(DI w y (n+1)).1=Jp (DI w y n).1 (Jz (DI w y n).1 (JD (DI w y n).2 (Jb (DI w y n).1))):=by rw[DI];unfold Gr;exact GX c
  have f:(DI w y (n+1)).2=Jp (JD (DI w y n).2 (Jb (DI w y n).1)) (Jz (DI w y n).1 (JD (DI w y n).2 (Jb (DI w y n).1))):=by rw[DI];unfold Gr;exact GX c
  have k:Dv (Jp (EE q w y n) (DI w y n).1) (EE q w y n):=by
   refine⟨(DI w y n).1,λx=>?_⟩;have b:=Bw (λr=>ev r x) p;simp only[Jg]at b;rw[b];exact Ck _ _
  have d:Dv (Jp (DI w y n).1 (Jz (DI w y n).1 (JD (DI w y n).2 (Jb (DI w y n).1)))) (DI w y n).1:=by
   refine⟨Jz (DI w y n).1 (JD (DI w y n).2 (Jb (DI w y n).1)),λx=>?_⟩;have b:=Bw (λr=>ev r x) s;simp only[Jg]at b;exact b.trans (Ck _ _)
  rw[e,f];exact⟨o,k.trans g,(OM a.tR a.R0 i a.tw a.mw a.dv).1,d.trans j⟩
theorem OW(h:Yun q w y)(c:Jq q=q)(n:Nat)(f:1<(DI w y n).1.length):(EE q w y (n+1)).length<(EE q w y n).length:=by
 obtain⟨a,_,e,_⟩:=X9 h c n;obtain⟨_,_,b,d,_,_⟩:=a.step;have l:=JA a.tw (YW (EE q w y n) (DI w y n).1) a.w0 b.R0;rw[<-d]at l;rw[EE];have:0<(Jp (EE q w y n) (DI w y n).1).length:=Ag.2 b.R0;omega
theorem eC(h:Yun q w y)(f:Jq q=q):∃N,N<=q.length/\(DI w y N).1.length<=1/\∀n,n<N->1<(DI w y n).1.length:=by
 have l:∃N,(DI w y N).1.length<=1:=by
  by_cases b:∃N,(DI w y N).1.length<=1
  . exact b
  . exfalso
    have g:∀n,1<(DI w y n).1.length:=λn=>by
     by_cases i:1<(DI w y n).1.length
     . exact i
     . exact absurd ⟨n,Y⟩ b
    have a:∀n,(EE q w y n).length+n<=q.length:=λn=>by
     induction n with
     |zero=>exact Aa _
     |succ n e=>have:=OW h f n (g n);omega
    have j:=a (q.length+1);omega
 obtain⟨N,k,c⟩:=OO l;have a:∀n,n<=N->(EE q w y n).length+n<=q.length:=λn=>by
  induction n with
  |zero=>exact λ_=>Aa _
  |succ n e=>
   intro d;have j:=c n Y;have:=OW h f n Y;have:=e Y;omega
 exact⟨N,by have:=a N (Aa _);omega,k,λn d=>by have:=c n d;omega⟩
end
theorem eD{p:List Rat}(tp:Jd p=p)(hl:1<p.length)(af:p.length<=25)(cp:Cd 75 p):∃N,PtOk 174 8926 N p/\N<=25:=by
 obtain⟨q,hq⟩:=ex (Jq p);have tq:Jd q=q:=by rw[<-hq];exact YF _
 have k:Jq q=q:=by rw[<-hq];exact Hy tp
 have lq:q.length=p.length:=by rw[<-hq];exact YZ tp
 have q0:q≠[]:=λe=>by rw[e]at lq;simp at lq;omega
 have cq:Cd 75 q:=by rw[<-hq];exact cp.mon tp
 have ah:=Y9 q0;have cs:Cd 76 (Jb q):=by
  obtain⟨D,d1,o,r⟩:=cq;refine⟨D,d1,o.mono Y,λi=>?_⟩;rw[Xp];by_cases hi:i+1<q.length
  . have c:=(r (i+1)).mul (E:=1) (M:=1) (d:=(((i+1:Nat):Int):Rat)) ⟨((i+1:Nat):Int),by rw[CB,show((1:Int):Rat)=1 from rfl];grind,by unfold Sm Z;rw[AK];omega⟩;rwa[Int.mul_one]at c
  . rw[Ye Y,A2];exact CD.zero _ _
 have I:∀a b:List Rat,Jd a=a->Jd b=b->Cd 174 a->Cd 174 b->a.length<=25->b.length<=25->M3.ChOk 174 a b/\Da 174 a b<=8926:=λa b ta tb ca cb la lb=>by
  have c:Da 174 a b<=(174+1)*(25+25+1):=Aq _ Y;have s:(max a.length b.length+2)*(Da 174 a b+1)<=(25+2)*((174+1)*(25+25+1)+1):=CE Y Y;exact⟨⟨ta,tb,ca,cb,Y,Y⟩,Y⟩
 have v:∀n:Nat,n<=25->2*((n+3)*(8926+1))<=1000000:=λn T=>by
  have:(n+3)*(8926+1)<=(25+3)*(8926+1):=Ak _ Y;omega
 have K:=Xo tq (Jr q) (Or.inl q0);obtain⟨w,z⟩:=ex (Dm q (Jz q (Jb q)));obtain⟨y,A⟩:=ex (Dm (Jb q) (Jz q (Jb q)));have u:Yun q w y:=by
  rw[<-z,<-A,GX K,GX K];exact Yun.start tq q0 k
 obtain⟨N,hN,ad,ae⟩:=eC u k;refine⟨N,?_,Y⟩;have c0:=I q (Jb q) tq (Jr _) (cq.mono Y) (cs.mono Y) Y Y;refine⟨tp,cp.mono Y,by rw[hq];exact c0.1,by rw[hq];exact c0.2,v _ Y,hl,Y,?_,by rw[hq,z,A];exact ad⟩;rw[hq,z,A];intro n T;refine⟨ae n T,?_⟩;obtain⟨c,s,Q,g⟩:=X9 u k n;obtain⟨s1,s2,f,s4,H,s6⟩:=c.step;obtain⟨k1,U,V,k4⟩:=X9 u k (n+1);obtain⟨a,j⟩:=ex ((DI w y n).1);obtain⟨b,S⟩:=ex ((DI w y n).2);obtain⟨R,t⟩:=ex (EE q w y n);have Qf:EE q w y (n+1)=Jp R a:=by rw[EE,t,j]
 rw[Qf]at U V;rw[j,S,t]at c f H;rw[t]at s Q;rw[j]at g;rw[j,S];have la:=(g.len c.tw tq q0).1;have l:=cq.ln;have m:Cd 80 a:=by
  have h5:=g.lnN (n:=24) tq q0 Y ME l c.tw;have:=L6 c.tw (h5.mono (L:=80) Y) Y;rwa[c.mw]at this
 have Qe:=Ry tq q0 Y l c.tR Q c.tw c.mw c.ty s g c.eq;have cB:Cd 174 b:=(show Cd (2*75+24) b from Qe).mono Y;have X:=Ry tq q0 Y l f.tR V c.tw c.mw (Yi _ _) U g H;have P:Cd 174 (JD b (Jb a)):=(show Cd (2*75+24) (JD b (Jb a))from X).mono Y;have cS:Cd 81 (Jb a):=by
  obtain⟨D,d1,o,r⟩:=m;refine⟨D,d1,o.mono Y,λi=>?_⟩;rw[Xp];by_cases hi:i+1<a.length
  . have h6:=(r (i+1)).mul (E:=1) (M:=1) (d:=(((i+1:Nat):Int):Rat)) ⟨((i+1:Nat):Int),by rw[CB,show((1:Int):Rat)=1 from rfl];grind,by unfold Sm Z;rw[AK];omega⟩;rwa[Int.mul_one]at h6
  . rw[Ye Y,A2];exact CD.zero _ _
 have W:(JD b (Jb a)).length<=25:=by
  by_cases z0:JD b (Jb a)=[]
  . rw[z0];simp
  . have e1:Js (JD b (Jb a)) (Jp R a)=Js a (Jb (Jp R a)):=Xt (J2 _ _) (J2 _ _) λx=>by rw[Jg,Jg,H]
    have l1:=JA (Yi b (Jb a)) f.tR z0 f.R0;have l2:=bH a (Jb (Jp R a));have l3:=Y9 f.R0;rw[e1]at l1;have:0<(Jp R a).length:=Ag.2 f.R0;omega
 have c1:=I a (JD b (Jb a)) c.tw (Yi _ _) (m.mono Y) P Y W;exact⟨c1.1,c.ty,m.mono Y,cS.mono Y,cB.mono Y,P.mono Y,c1.2,v _ Y,v _ W⟩
end
def OX(p w y:List Rat):Nat->List Rat
 |0=>p
 |n+1=>Jp (OX p w y n) (DI w y n).1
section
variable {p q w y:List Rat}
theorem eE(h:Yun q w y)(c:Jq q=q)(n:Nat):(DI w y (n+1)).1=Jp (DI w y n).1 (yP (DI w y n)):=by
 obtain⟨a,_⟩:=X9 h c n;have b:Jz (DI w y n).1 (JD (DI w y n).2 (Jb (DI w y n).1))≠[]:=Xo a.tw (Yi _ _) (Or.inl a.w0);rw[DI];unfold Gr yP;exact GX b
end
theorem Im{p:List Rat}(tp:Jd p=p)(p0:p≠[]):cf p (p.length-1)≠0/\p=DP (cf p (p.length-1)) (Jq p):=by
 have h:=Jt tp p0;refine⟨h,?_⟩;unfold Jq;rw[Kq,show 1/cf p (p.length-1)*cf p (p.length-1)=1 by grind,Ii tp]
theorem eF{q g:List Rat}(tq:Jd q=q)(q0:q≠[])(lq:q.length<=25)(cq:Cd 75 q)(a:Jd g=g)(c:Jq g=g)(h:Dv g q):Cd 80 g:=by
 have b:=h.lnN (n:=24) tq q0 Y ME cq.ln a;have:=L6 a (b.mono (L:=80) Y) Y;rwa[c]at this
structure StR(K M:Nat)(r f:List Rat):Prop where
 tr:Jd r=r
 cr:Cd M r
 tf:Jd f=f
 f0:f≠[]
 mf:Jq f=f
 ca:Cd M f
 lr:(r.length+3)*(M+1)<=1000000
 lf:(f.length+3)*(M+1)<=1000000
 r1:r.length<=1000
 f1:f.length<=1000
 ch:M3.ChOk K f (Jp r f)
structure ReOk(K M N:Nat)(p w y:List Rat):Prop where
 fr:M3.FrOk K p
 w0:dH p=w
 nN:N<=1000000
 st:∀n,n<N->1<(DI w y n).1.length/\StR K M (OX p w y n) (DI w y n).1/\Cd M (DI w y (n+1)).1/\Jd (DI w y (n+1)).1=(DI w y (n+1)).1/\(DI w y (n+1)).1≠[]/\Jq (DI w y (n+1)).1=(DI w y (n+1)).1/\
  Jz (DI w y n).1 (OX p w y (n+1))=(DI w y (n+1)).1/\Jp (DI w y n).1 (DI w y (n+1)).1=yP (DI w y n)/\Jq (yP (DI w y n))=yP (DI w y n)/\
  Jd (yP (DI w y n))=yP (DI w y n)/\Cd M (yP (DI w y n))/\(yP (DI w y n)).length<=25
 en:(DI w y N).1.length<=1
section
variable {a b c d p q r w y R:List Rat}
theorem DW.shift(h:DW a b)(f:∀x,ev b x=ev c x+ev a x*ev d x):DW a c:=by
 obtain⟨u,v,e⟩:=h;refine⟨XM u (Js v d),v,λx=>?_⟩;rw[YL,Jg];have:=e x;rw[f]at this;grind
theorem DW.left(h:DW a (Js b c)):DW a b:=(h.symm.of_dv ((Dv.refl b).mul c)).symm
theorem DW.right(h:DW a (Js b c)):DW a c:=(h.symm.of_dv ((Dv.refl c).mul' b)).symm
theorem eG(a:List Rat):Dv [1] a:=⟨a,λx=>by simp[ev];grind⟩
theorem eH:Jq [1]=[1]:=Xt (YF _) DF λx=>by rw[MA];simp[cf,ev];grind
theorem Yun.part(h:Yun R w y):DW (Jz w (JD y (Jb w))) (Jb (Jz w (JD y (Jb w))))/\DW (Jz w (JD y (Jb w))) (Jp w (Jz w (JD y (Jb w)))):=by
 obtain⟨b,c,_⟩:=Y5 h.tw (Yi y (Jb w));have a:=h.step.2.2.2.2.2;obtain⟨P,f⟩:=ex (Jz w (JD y (Jb w)));rw[f]at b c a ⊢;obtain⟨e,i⟩:=ex (Jp w P);rw[i]at a ⊢;have c1:DW P y:=h.cop.of_dv b;obtain⟨t,g⟩:=c;have c2:DW P (Jb w):=c1.shift (d:=t) λx=>by
  have:=g x;rw[Xa]at this;grind
 have c3:DW P (Js (Jb P) e):=c2.shift (d:=Jb e) λx=>by
  have:=Bw (λr=>ev (Jb r) x) a;simp only[Yp]at this;rw[Jg];exact this
 exact⟨c3.left,c3.right⟩
end
def GY:List (List Rat × Nat)->Rat->Rat
 |[],_=>1
 |a::l,x=>ev a.1 x^a.2*GY l x
theorem eI(l m:List (List Rat × Nat))(x:Rat):GY (l++m) x=GY l x*GY m x:=by
 induction l with
 |nil=>simp[GY]
 |cons a l b=>simp only[Au,GY,b];grind
theorem eJ(a b:Rat)(n:Nat):(a*b)^n=a^n*b^n:=by
 induction n with
 |zero=>simp
 |succ n c=>rw[Rat.pow_succ,Rat.pow_succ,Rat.pow_succ,c];grind
theorem Rz(n:Nat):(1:Rat)^n=1:=by
 induction n with
 |zero=>simp
 |succ n a=>rw[Rat.pow_succ,a];grind
section
variable {q w y:List Rat}
theorem MG(h:Yun q w y)(b:Jq q=q)(n:Nat):Jd (yP (DI w y n))=yP (DI w y n)/\Jq (yP (DI w y n))=yP (DI w y n)/\(DI w y n).1=Js (yP (DI w y n)) (DI w y (n+1)).1/\
 DW (yP (DI w y n)) (Jb (yP (DI w y n)))/\DW (yP (DI w y n)) (DI w y (n+1)).1/\EE q w y n=Js (DI w y n).1 (EE q w y (n+1)):=by
 have a:=(X9 h b n).1;rw[eE h b n];obtain⟨_,_,_,c,_,d⟩:=a.step;obtain⟨c1,c2⟩:=a.part;exact⟨Yj _ _,X6 a.tw (Yi _ _),d,c1,c2,c⟩
theorem R1(h:Yun q w y)(o:Jq q=q):∀N,(∀x∈yL w y N,1<x.1.length/\1<=x.2/\x.2<=N/\DW x.1 (Jb x.1)/\Jd x.1=x.1/\Jq x.1=x.1/\Dv x.1 q/\DW x.1 (DI w y N).1)/\
 (yL w y N).Pairwise (λa b=>a.2<b.2/\DW a.1 b.1):=by
 intro N;induction N with
 |zero=>exact⟨λx c=>by simp[yL]at c,by simp[yL]⟩
 |succ N e=>
  obtain⟨s,t,i,u,v,_⟩:=MG h o N;have p:Dv (DI w y (N+1)).1 (DI w y N).1:=⟨yP (DI w y N),λx=>by
   have:=Bw (λr=>ev r x) i;simp only[Jg]at this;rw[this];exact Ck _ _⟩
  have g:Dv (yP (DI w y N)) (DI w y N).1:=⟨(DI w y (N+1)).1,λx=>by
   have:=Bw (λr=>ev r x) i;simp only[Jg]at this;exact this⟩
  rw[yL];refine⟨λx c=>?_,?_⟩
  . rcases Fd.1 c with c|c
    . obtain⟨j,k,A,l,m,n,H,f⟩:=e.1 x c;exact⟨j,k,Y,l,m,n,H,(f.symm.of_dv p).symm⟩
    . split at c
      . next hl=>
        simp at c;subst c;exact⟨hl,O,Aa _,u,s,t,g.trans (X9 h o N).2.2.2,v⟩
      . simp at c
  . refine List.pairwise_append.2 ⟨e.2,by split<;>simp,λx c z d=>?_⟩;split at d
    . simp at d;subst d;obtain⟨j,k,A,l,m,n,_,f⟩:=e.1 x c;exact⟨by simp only;omega,(f.symm.of_dv g).symm⟩
    . simp at d
theorem eK(h:Yun q w y)(b:Jq q=q)(x:Rat):∀N,ev q x=GY (yL w y N) x*(ev (DI w y N).1 x^N*ev (EE q w y N) x):=by
 intro N;induction N with
 |zero=>simp[yL,GY,EE]
 |succ N o=>
  obtain⟨i,j,k,_,_,l⟩:=MG h b N;have d:=Bw (λr=>ev r x) k;have f:=Bw (λr=>ev r x) l;simp only[Jg]at d f;rw[o,yL,eI];have e:GY (if 1<(yP (DI w y N)).length then [(yP (DI w y N),N+1)]else []) x=ev (yP (DI w y N)) x^(N+1):=by
   split
   . simp[GY]
   . next hl=>
     have n:yP (DI w y N)=[1]:=by
      have g:yP (DI w y N)≠[]:=Xo (X9 h b N).1.tw (Yi _ _) (Or.inl (X9 h b N).1.w0);have a:=MF i g j;have:=Ag.2 g;generalize yP (DI w y N)=P at *;match P,hl,this,a with
      |[c],_,_,a=>simp[cf]at a;rw[a]
      |_::_::_,hl,_,_=>exact absurd O hl
     rw[n];have m:ev [1] x=1:=by simp[ev];grind
     rw[m,Rz];rfl
  rw[e,f];have hp:(ev (DI w y N).1 x)^(N+1)=ev (yP (DI w y N)) x^(N+1)*ev (DI w y (N+1)).1 x^(N+1):=by rw[d,eJ]
  rw[Rat.pow_succ]at hp;grind
theorem eL{a:List Rat}(ta:Jd a=a)(ma:Jq a=a)(d:a≠[])(hl:a.length<=1):a=[1]:=by
 have b:=MF ta d ma;have:=Ag.2 d;match a,hl,this,b with
 |[c],_,_,b=>simp[cf]at b;rw[b]
 |_::_::_,hl,_,_=>simp at hl
theorem eM(h:Yun q w y)(c:Jq q=q):∀N,(∀n,n<N->1<(DI w y n).1.length)->(EE q w y N).length+N<=q.length:=by
 intro N;induction N with
 |zero=>intro _;exact Aa _
 |succ N b=>
  intro a;have d:=b λn f=>a n Y;have e:=OW h c N (a N Y);omega
theorem R3(h:Yun q w y)(c:Jq q=q){N:Nat}(j:∀n,n<N->1<(DI w y n).1.length)(g:(DI w y N).1.length<=1):N+1<=q.length/\∀x,ev q x=GY (yL w y N) x:=by
 obtain⟨a,_,i,_⟩:=X9 h c N;have e:=eL a.tw a.mw a.w0 g;have d:EE q w y N=[1]:=by
  have f:Dv (EE q w y N) (Jb (EE q w y N)):=⟨(DI w y N).2,λx=>by
   have:=a.eq x;rw[e]at this;have b:ev [1] x=1:=by simp[ev];grind
   rw[b]at this;grind⟩
  exact Dv.eq a.tR DF i eH (KK a.tR a.R0 f) (eG _)
 have hl:=eM h c N j;refine⟨by rw[d]at hl;simp at hl;omega,λx=>?_⟩;have b:ev [1] x=1:=by simp[ev];grind
 rw[eK h c x N,e,d,b,Rz];grind
end
section
variable{a b p:List Rat}{c:Rat}
theorem MH(h:c≠0):0<Xw c:=by
 unfold Xw;split<;>grind
theorem eN(h:0<c):∀n:Nat,0<c^n:=by
 intro n;induction n with
 |zero=>rw[Rat.pow_zero];decide
 |succ n a=>rw[Rat.pow_succ];exact Rat.mul_pos a h
theorem eO{q:List Rat}(hq:Jd q=q)(a:q≠[]):0<EM p q:=eN (MH (Jt hq a)) _
theorem R4(tb:Jd b=b)(b0:b≠[]):∃(q:List Rat) (c:Rat),0<c/\∀x,EM a b*ev a x=ev q x*ev b x-c*ev (YQ a b) x:=by
 obtain⟨k,f,e⟩:=GF (p:=JM (YP a b) b) (J5 _);refine⟨Jp (YP a b) b,1/k,YA DF f,λx=>?_⟩;have g:=(YU (YP a b) b tb b0).1 x;have i:ev (YP a b) x=ev a x*EM a b:=JJ _ _ _;have d:ev (YQ a b) x=-(ev (JM (YP a b) b) x*k):=by
  unfold YQ;rw[Xa,e,JJ];simp[ev];grind
 have j:1/k*k=1:=Ap (by grind);rw[d];grind
theorem chnL_head(a b:List Rat):∃t,Ec a b=a::t:=by
 unfold Ec;cases b.length with
 |zero=>exact⟨_,rfl⟩
 |succ n=>
  unfold ET;split
  . exact⟨_,rfl⟩
  . exact⟨_,rfl⟩
theorem R5(ta:Jd a=a)(b:a≠[])(x:Rat):ev (Jp a a) x=1:=by
 have h:=Yv (u:=Jp a a) (v:=[1]) ta b (λx=>by
  rw[<-(JO ta b (Dv.refl a)).2 x,Jo];grind) x
 rwa[Jo]at h
theorem OY:∀(n:Nat) (a b:List Rat),b.length<=n->Jd a=a->Jd b=b->a≠[]->∃g,(Ec a b).getLast?=some g/\Jd g=g/\g≠[]/\Dv g a/\Dv g b/\(∀d,Dv d a->Dv d b->Dv d g)/\StC ((Ec a b).map λp=>Jp p g):=by
 intro n;induction n with
 |zero=>
  intro a b N ta _ e;have:b=[]:=Az.1 Y;subst this;exact⟨a,rfl,ta,e,Dv.refl a,Dv.zero a,λ_ h _=>h,StC.one (c:=1) DF λx=>R5 ta e x⟩
 |succ n U=>
  intro a b N ta tb e;by_cases b0:b=[]
  . subst b0;exact⟨a,rfl,ta,e,Dv.refl a,Dv.zero a,λ_ h _=>h,StC.one (c:=1) DF λx=>R5 ta e x⟩
  . have hl:=Y0 (a:=a) tb b0;obtain⟨g,I,i,f,k,r,K,j⟩:=U b (YQ a b) Y tb (Hz _ _) b0;obtain⟨q,c,c0,l⟩:=R4 (a:=a) tb b0;have w0:=eO (p:=a) tb b0;have w:1/EM a b*EM a b=1:=Ap (by grind);have y:1/c*c=1:=Ap (by grind);have m:Dv g a:=k.comb r (Js [1/EM a b] q) [-(1/EM a b*c)] λx=>by
     rw[Jg,Jo,Jo];have:=l x;have:ev a x=1/EM a b*(EM a b*ev a x):=by rw[<-Rat.mul_assoc,w,Co]
     grind
    refine⟨g,?_,i,f,m,k,λd d1 o=>K d o (o.comb d1 (Js [1/c] q) [-(1/c*EM a b)] λx=>?_),?_⟩
    . rw[XG tb b0,List.getLast?_cons,I];rfl
    . rw[Jg,Jo,Jo];have:=l x;have:ev (YQ a b) x=1/c*(c*ev (YQ a b) x):=by rw[<-Rat.mul_assoc,y,Co]
      grind
    . rw[XG tb b0];by_cases s:YQ a b=[]
      . rw[s,KJ]at j ⊢;cases j with
        |one L M=>exact StC.two L M
      . obtain⟨t,P⟩:=chnL_head (YQ a b) (YQ b (YQ a b));rw[XG (Hz _ _) s,P]at j ⊢;have z:=(JO i f m).2;have A:=(JO i f k).2;have H:=(JO i f r).2;refine StC.more (q:=q) w0 c0 (λx=>?_) j;have:=Yv (u:=Js [EM a b] (Jp a g)) (v:=JD (Js q (Jp b g)) (Js [c] (Jp (YQ a b) g))) i f (λx=>by
         rw[Jg,Xa,Jg,Jg,Jo,Jo];have Q:=z x;have R:=A x;have S:=H x;have T:=l x;rw[Q,R,S]at T;grind) x
        rwa[Jg,Xa,Jg,Jg,Jo,Jo]at this
theorem MI:∀(n:Nat) (R w y:List Rat),R.length<=n->Yun R w y->DW w (Jb w):=by
 intro n;induction n with
 |zero=>intro R w y p h;exact absurd (Az.1 Y) h.R0
 |succ n r=>
  intro R w y p h;by_cases hl:w.length<=1
  . obtain⟨c,o⟩:=Il h.tw h.w0 hl;refine⟨c,[],λx=>?_⟩;have:=o x;rw[Jo]at this;simp[ev];grind
  . obtain⟨j,g⟩:=h.part;obtain⟨_,_,b,k,_,f⟩:=h.step;obtain⟨a,m⟩:=ex (Jz w (JD y (Jb w)));rw[m]at j g b f;obtain⟨e,q⟩:=ex (Jp w a);rw[q]at g b f;have s:(Jp R w).length<=n:=by
     have:=JA h.tw b.tR h.w0 b.R0;rw[<-k]at this;omega
    have l:=r _ _ _ s b;have i:∀x,ev (Jb w) x=ev (Jb a) x*ev e x+ev a x*ev (Jb e) x:=λx=>by
     have:=Yp a e x;rwa[<-f]at this
    have c1:DW a (Jb w):=(j.mul g).shift (d:=Js [-1] (Jb e)) λx=>by
     rw[Jg,Jg,Jo,i];grind
    have c2:DW e (Jb w):=(g.symm.mul l).shift (d:=Js [-1] (Jb a)) λx=>by
     rw[Jg,Jg,Jo,i];grind
    have c3:=(c1.symm.mul c2.symm).symm;rwa[<-f]at c3
theorem MJ(c:Rat)(p:List Rat)(x:Rat):ev (Jb (DP c p)) x=c*ev (Jb p) x:=by
 rw[Xk,Xk];unfold DP;rw[Ov (Yf _),Ox,Ck]
def Jy(p:List Rat):List (List Rat):=(X3 p (Jb p)).map λa=>Jp a ((X3 p (Jb p)).getLast?.getD [])
def DK(p:List Rat):List Rat:=Jp (Jq p) (Jz (Jq p) (Jb (Jq p)))
def Dg(p:List Rat):List Rat:=Jp (Jb (Jq p)) (Jz (Jq p) (Jb (Jq p)))
theorem eQ(tp:Jd p=p)(p0:p≠[]):StC (Jy p)/\∃f l k,Jy p=f::l/\k≠0/\(∀x,ev f x=k*ev (DK p) x)/\∀f1 l1,l=f1::l1->∃V,0<k*V/\∀x,ev f1 x=V*ev (Dg p) x:=by
 have ts:=Jr p;obtain⟨α,α0,hα⟩:=GF tp;obtain⟨β,β0,hβ⟩:=GF ts;obtain⟨y,s⟩:=Im tp p0;obtain⟨b,hl⟩:=ex (cf p (p.length-1));rw[hl]at y s;have tR:=YF p;have R0:=KG tp p0;obtain⟨R,T⟩:=ex (Jq p);rw[T]at s tR R0;have z:=Jr R;have a0:JI p≠[]:=λe=>p0 (Az.1 (by rw[<-J4 tp,e];rfl));have A:∀x,ev (JI p) x=α*b*ev R x:=λx=>by
  rw[hα,JJ];conv=>lhs;rw[s]
  rw[JJ];grind
 have H:∀x,ev (JI (Jb p)) x=β*b*ev (Jb R) x:=λx=>by
  rw[hβ,JJ];have:=MJ b R x;rw[<-s]at this;rw[this];grind
 obtain⟨g,h1,I,P,Q,S,h4,h5⟩:=OY _ (JI p) (JI (Jb p)) (Aa _) (Yk _) (Yk _) a0;obtain⟨K,L,_⟩:=Y5 tR z;have q:=Yj R (Jb R);have r:=Xo tR z (Or.inl R0);have fW:=(JO q r K).2;have fY:=(JO q r L).2;have W:Dv (Jz R (Jb R)) g:=h4 _ (by
  obtain⟨c,j⟩:=K;exact⟨DP (α*b) c,λx=>by rw[A,j,JJ];grind⟩) (by obtain⟨c,j⟩:=L;exact⟨DP (β*b) c,λx=>by rw[H,j,JJ];grind⟩)
 have U:∀ {k:Rat},0<k->1/(k*b)*(k*b)=1:=λhk=>Ap (by
  intro e;rcases AM.1 e with e|e
  . grind
  . exact y e)
 have X:Dv g (Jz R (Jb R)):=OK tR z (by
  obtain⟨c,j⟩:=Q;refine⟨DP (1/(α*b)) c,λx=>?_⟩;have i:=j x;rw[A]at i;have:ev R x=1/(α*b)*(α*b*ev R x):=by rw[<-Rat.mul_assoc,U α0,Co]
  rw[this,i,JJ];grind) (by
  obtain⟨c,j⟩:=S;refine⟨DP (1/(β*b)) c,λx=>?_⟩;have i:=j x;rw[H]at i;have:ev (Jb R) x=1/(β*b)*(β*b*ev (Jb R) x):=by rw[<-Rat.mul_assoc,U β0,Co]
  rw[this,i,JJ];grind)
 obtain⟨m,m0,hm⟩:=Dv.anti q I W X;have M:∀x,ev g x=m*ev (Jz R (Jb R)) x:=λx=>by rw[hm,JJ];grind
 have w:1/m*m=1:=Ap m0;have qa:=(JO I P Q).2;have qb:=(JO I P S).2;have N:Jy p=(Ec (JI p) (JI (Jb p))).map λa=>Jp a g:=by
  unfold Jy X3;rw[h1];rfl
 refine⟨by rw[N];exact h5,?_⟩;obtain⟨t,d⟩:=chnL_head (JI p) (JI (Jb p));unfold DK Dg;rw[T];refine⟨Jp (JI p) g,t.map λa=>Jp a g,1/m*(α*b),by rw[N,d];rfl,?_,λx=>?_,λf1 l1 n=>⟨1/m*(β*b),?_,λx=>?_⟩⟩
 . intro e;rcases AM.1 e with e|e
   . rw[e]at w;grind
   . rcases AM.1 e with e|e
     . grind
     . exact y e
 . have:=Yv (u:=Jp (JI p) g) (v:=DP (1/m*(α*b)) (Jp R (Jz R (Jb R)))) q r (λx=>by
    have o:=qa x;rw[M,A,fW]at o;rw[JJ];have:ev (Jz R (Jb R)) x*ev (Jp (JI p) g) x=1/m*(m*ev (Jz R (Jb R)) x*ev (Jp (JI p) g) x):=by
     rw[<-Rat.mul_assoc,<-Rat.mul_assoc,w,Co]
    rw[this,<-o];grind) x
   rw[this,JJ];grind
 . have i:1/m*(α*b)*(1/m*(β*b))=(1/m*b)*(1/m*b)*(α*β):=by grind
   rw[i];refine Rat.mul_pos ?_ (Rat.mul_pos α0 β0);have c0:1/m*b≠0:=λe=>by
    rcases AM.1 e with e|e
    . rw[e]at w;grind
    . exact y e
   have:=Ys (f:=[1/m*b]) c0 (λx=>Jo _ x) 0 0;unfold DU at this;rwa[Jo]at this
 . have hb:f1=Jp (JI (Jb p)) g:=by
    by_cases b0:JI (Jb p)=[]
    . rw[b0,KJ]at d;injection d with _ d
      rw[<-d]at n;cases n
    . rw[XG (Yk _) b0]at d;injection d with _ d
      obtain⟨t2,ad⟩:=chnL_head (JI (Jb p)) (YQ (JI p) (JI (Jb p)));rw[<-d,ad]at n;injection n with n _
      exact n.symm
   rw[hb];have:=Yv (u:=Jp (JI (Jb p)) g) (v:=DP (1/m*(β*b)) (Jp (Jb R) (Jz R (Jb R)))) q r (λx=>by
    have o:=qb x;rw[M,H,fY]at o;rw[JJ];have:ev (Jz R (Jb R)) x*ev (Jp (JI (Jb p)) g) x=1/m*(m*ev (Jz R (Jb R)) x*ev (Jp (JI (Jb p)) g) x):=by
     rw[<-Rat.mul_assoc,<-Rat.mul_assoc,w,Co]
    rw[this,<-o];grind) x
   rw[this,JJ];grind
def Yr(b:List Rat):List Rat:=DP (1/Xw (cf b (b.length-1))) b
def FS:Nat->List Rat->List Rat->List (List Rat)
 |0,a,_=>[a]
 |n+1,a,b=>if b=[]then [a]else a::FS n (Yr b) (DP (-1) (JM a (Yr b)))
theorem K0(n:Nat)(a b:List Rat):∃t,FS n a b=a::t:=by
 cases n with
 |zero=>exact⟨_,rfl⟩
 |succ n=>
  unfold FS;split
  . exact⟨_,rfl⟩
  . exact⟨_,rfl⟩
theorem OZ(tb:Jd b=b)(b0:b≠[]):0<1/Xw (cf b (b.length-1)):=YA DF (MH (Jt tb b0))
theorem Oa(g:c≠0)(tb:Jd b=b):(DP c b).length=b.length:=by
 have e:DP (1/c) (DP c b)=b:=by rw[Kq,Ck,Ap g,Ii tb]
 have a:∀(d:Rat) (q:List Rat),(DP d q).length<=q.length:=λd q=>by
  unfold DP;refine An (YS _) ?_;unfold Y1;simp
 have i:=a c b;have f:=a (1/c) (DP c b);rw[e]at f;omega
theorem R6(ta:Jd a=a)(h:DW a []):∃c,c≠0/\∀x,ev a x=c:=by
 obtain⟨u,v,b⟩:=h;have f:Dv a [1]:=⟨u,λx=>by rw[Jo,<-b x];simp[ev];grind⟩;have g:=(f.len ta DF DF).1;have d:a≠[]:=λe=>by
  have:=b 0;rw[e]at this;simp[ev]at this;grind
 match a,d,g with
 |[c],_,_=>
  refine⟨c,λe=>?_,λx=>Jo c x⟩;have:=b 0;rw[e]at this;simp[ev]at this;grind
theorem R7:∀(n:Nat) (a b:List Rat),b.length<=n->Jd a=a->Jd b=b->DW a b->StC (FS n a b):=by
 intro n;induction n with
 |zero=>
  intro a b p ta _ d;have:b=[]:=Az.1 Y;subst this;obtain⟨c,c0,f⟩:=R6 ta d;exact StC.one c0 f
 |succ n w=>
  intro a b p ta tb d;by_cases b0:b=[]
  . subst b0;obtain⟨c,c0,f⟩:=R6 ta d;rw[FS,BC rfl];exact StC.one c0 f
  . rw[FS,BB b0];have R:=OZ tb b0;have lb:(Yr b).length=b.length:=Oa (by grind) tb;have j:Jd (Yr b)=Yr b:=JP _ _;have l:Yr b≠[]:=λe=>b0 (Az.1 (by rw[<-lb,e];rfl));obtain⟨k,sl⟩:=YU a (Yr b) j l;have tr:Jd (JM a (Yr b))=JM a (Yr b):=J5 _;have o:∀x,ev (Yr b) x=ev b x*(1/Xw (cf b (b.length-1))):=λx=>JJ _ _ _;have m:DW (Yr b) (DP (-1) (JM a (Yr b))):=by
     obtain⟨u,v,s⟩:=d;have y:Xw (cf b (b.length-1))*(1/Xw (cf b (b.length-1)))=1:=by
      rw[Ck];exact Ap (by have:=MH (Jt tb b0);grind)
     refine⟨XM (Js u (Jp a (Yr b))) (Js [Xw (cf b (b.length-1))] v),Js [-1] u,λx=>?_⟩;rw[YL,Jg,Jg,Jg,Jo,Jo,JJ];have z:=s x;have i:=k x;have A:=o x;have H:ev b x=Xw (cf b (b.length-1))*ev (Yr b) x:=by
      rw[A,Ck,Rat.mul_assoc,Ck (1/_),y,Rat.mul_one]
     rw[H,i]at z;grind
    have g:=w (Yr b) (DP (-1) (JM a (Yr b))) (by rw[Oa DF tr];omega) j (JP _ _) m;by_cases r0:DP (-1) (JM a (Yr b))=[]
    . rw[r0]at g ⊢;have e:FS n (Yr b) []=[Yr b]:=by cases n<;>rfl
      rw[e]at g ⊢;cases g with
      |one d f=>exact StC.two d f
    . have Q:=JP (-1) (JM a (Yr b));cases n with
      |zero=>
       exact absurd (Az.1 (by have:=Oa (c:=-1) DF tr;omega)) r0
      |succ n=>
       obtain⟨t,r⟩:=K0 n (Yr (DP (-1) (JM a (Yr b)))) (DP (-1) (JM (Yr b) (Yr (DP (-1) (JM a (Yr b))))));rw[FS,BB r0,r]at g ⊢;have P:=MH (Jt Q r0);refine StC.more (q:=Jp a (Yr b)) (a:=1) (c:=Xw (cf (DP (-1) (JM a (Yr b))) ((DP (-1) (JM a (Yr b))).length-1))) DF P (λx=>?_) g;have i:=k x;have I:ev (Yr (DP (-1) (JM a (Yr b)))) x=ev (DP (-1) (JM a (Yr b))) x*(1/Xw (cf (DP (-1) (JM a (Yr b))) ((DP (-1) (JM a (Yr b))).length-1))):=JJ _ _ _;have L:ev (DP (-1) (JM a (Yr b))) x=ev (JM a (Yr b)) x*(-1):=JJ _ _ _;have M:1/Xw (cf (DP (-1) (JM a (Yr b))) ((DP (-1) (JM a (Yr b))).length-1))*Xw (cf (DP (-1) (JM a (Yr b))) ((DP (-1) (JM a (Yr b))).length-1))=1:=Ap (by grind);rw[I,L];generalize Xw (cf (DP (-1) (JM a (Yr b))) ((DP (-1) (JM a (Yr b))).length-1))=K at *;have N:K*(ev (JM a (Yr b)) x*(-1)*(1/K))=- ev (JM a (Yr b)) x:=by
        have:K*(ev (JM a (Yr b)) x*(-1)*(1/K))=(1/K*K)*(- ev (JM a (Yr b)) x):=by grind
        rw[this,M];grind
       rw[N,Co,i];grind
def GZ(p:List Rat):List (List Rat):=FS (Jb (DK p)).length (DK p) (Jb (DK p))
theorem eS(tp:Jd p=p)(p0:p≠[]){a b:Rat}(w:a<=b):DO (JQ (Jy p) a)+DO (JQ (GZ p) b)=DO (JQ (Jy p) b)+DO (JQ (GZ p) a):=by
 obtain⟨Q,f,l,k,I,T,H,s⟩:=eQ tp p0;have d:=Yun.start (YF p) (KG tp p0) (Hy tp);have d:Yun (Jq p) (DK p) (Dg p):=d;have S:=MI _ _ _ _ (Aa _) d;have P:=R7 _ (DK p) (Jb (DK p)) (Aa _) d.tw (Jr _) S;obtain⟨A,A0,u⟩:=IG a;obtain⟨C,C0,v⟩:=IG b;have g:0<=A+C:=by grind
 obtain⟨e,e0,sg⟩:=MC _ _ _ _ (Aa _) d g;refine glue (B:=A+C) (F:=λx=>DO (JQ (Jy p) x)) (G:=λx=>DO (JQ (GZ p) x)) ?_ (u.mono (by grind)) (v.mono (by grind)) w;refine(((Q.gd g).and (P.gd g)).and sg).mono λx y _ _ _ ⟨⟨d1,i⟩,r⟩=>?_;obtain⟨m,c⟩:=K0 (Jb (DK p)).length (DK p) (Jb (DK p));show DO (JQ (Jy p) x)+DO (JQ (GZ p) y)=DO (JQ (Jy p) y)+DO (JQ (GZ p) x);unfold GZ;rw[I]at d1 ⊢;rw[c]at i ⊢;refine d1.both i T H λM f1 l1 j m1 hl o=>?_;obtain⟨k1,U,K⟩:=s f1 l1 hl;obtain⟨V,W⟩:=r M;by_cases w0:Jb (DK p)=[]
 . exfalso
   rw[w0]at c;rw[o]at c;simp[FS]at c
 . obtain⟨n,N⟩:∃n,(Jb (DK p)).length=n+1:=⟨_,(Nat.succ_pred_eq_of_pos (Ag.2 w0)).symm⟩;rw[N,FS,BB w0]at c;injection c with _ c
   obtain⟨t,R⟩:=K0 n (Yr (Jb (DK p))) (DP (-1) (JM (DK p) (Yr (Jb (DK p)))));rw[R,o]at c;injection c with L _
   have X:=OZ (Jr (DK p)) w0;have q:∀z,ev j z=ev (Jb (DK p)) z*(1/Xw (cf (Jb (DK p)) ((Jb (DK p)).length-1))):=λz=>by rw[<-L];exact JJ _ _ _
   have fin:∀z,e<=ev (Dg p) z*ev (Jb (DK p)) z->0<k*ev f1 z*ev j z:=λz hz=>by
    rw[K,q];have:=Rat.mul_pos (Rat.mul_pos U X) (show 0<ev (Dg p) z*ev (Jb (DK p)) z by grind);grind
   exact⟨fin x V,fin y W⟩
def MK(l:List (List Rat)):Prop:=∀p∈l,Jd p=p/\p≠[]
def D4(l:List (List Rat)):List Rat:=l.map λp=>cf p (p.length-1)
def Eo(l:List (List Rat)):List Rat:=l.map λp=>(-1)^(p.length-1)*cf p (p.length-1)
theorem MN{l:List (List Rat)}(h:MK l):∃B,0<B/\(∀x,B<=x->DO (JQ l x)=DO (D4 l))/\∀x,x<=-B->DO (JQ l x)=DO (Eo l):=by
 have m:∃B,0<B/\(∀x,B<=x->∀p∈l,0<ev p x*cf p (p.length-1))/\∀x,x<=-B->∀p∈l,0<ev p x*((-1)^(p.length-1)*cf p (p.length-1)):=by
  induction l with
  |nil=>exact⟨1,DF,(λ_ _ _ hp=>absurd hp (List.not_mem_nil)),(λ_ _ _ hp=>absurd hp (List.not_mem_nil))⟩
  |cons p l g=>
   obtain⟨B,d,b,c⟩:=g λq hq=>h q (C9 _ hq);obtain⟨tp,p0⟩:=h p (Cc);obtain⟨C,n,e⟩:=TP tp p0;obtain⟨D,o,f⟩:=TQ tp p0;refine⟨B+C+D,by grind,λx a q hq=>?_,λx a q hq=>?_⟩
   . rcases FN.1 hq with rfl|hq
     . rw[Ck];exact e x (by grind)
     . exact b x (by grind) q hq
   . rcases FN.1 hq with rfl|hq
     . rw[Ck];exact f x (by grind)
     . exact c x (by grind) q hq
 obtain⟨B,d,b,c⟩:=m;refine⟨B,d,λx a=>?_,λx a=>?_⟩
 . refine O5 _ _ 0 0 (by simp[JQ,D4]) (λi j k=>?_) (Or.inr ⟨rfl,rfl⟩);simp only[JQ,D4,List.getElem_map];exact b x a _ (FA _)
 . refine O5 _ _ 0 0 (by simp[JQ,Eo]) (λi j k=>?_) (Or.inr ⟨rfl,rfl⟩);simp only[JQ,Eo,List.getElem_map];exact c x a _ (FA _)
theorem eT:∀(n:Nat) (a b g:List Rat),b.length<=n->Jd a=a->Jd b=b->a≠[]->Dv g a->Dv g b->Jd g=g->g≠[]->MK ((Ec a b).map λp=>Jp p g):=by
 intro n;induction n with
 |zero=>
  intro a b g s ta tb j f k i d;have:b=[]:=Az.1 Y;subst this;intro p hp;rw[KJ]at hp;rcases C1.1 hp with⟨q,hq,rfl⟩
  have:q=a:=by simpa using hq
  subst this;exact⟨YW _ _,λe=>j (Yx ta λx=>by rw[(JO i d f).2,e];simp[ev])⟩
 |succ n u=>
  intro a b g s ta tb j f k i d;have l:Jd (Jp a g)=Jp a g/\Jp a g≠[]:=⟨YW _ _,λe=>j (Yx ta λx=>by rw[(JO i d f).2,e];simp[ev])⟩;by_cases b0:b=[]
  . subst b0;intro p hp;rw[KJ]at hp;rcases C1.1 hp with⟨q,hq,rfl⟩
    have:q=a:=by simpa using hq
    subst this;exact l
  . have hl:=Y0 (a:=a) tb b0;obtain⟨q,c,c0,t⟩:=R4 (a:=a) tb b0;have m:1/c*c=1:=Ap (by grind);have o:Dv g (YQ a b):=k.comb f (Js [1/c] q) [-(1/c*EM a b)] λx=>by
     rw[Jg,Jo,Jo];have:=t x;have:ev (YQ a b) x=1/c*(c*ev (YQ a b) x):=by rw[<-Rat.mul_assoc,m,Co]
     grind
    have r:=u b (YQ a b) g Y tb (Hz _ _) b0 k o i d;rw[XG tb b0];intro p hp;rcases FN.1 hp with rfl|hp
    . exact l
    . exact r p hp
theorem K1(tp:Jd p=p)(p0:p≠[]):MK (Jy p):=by
 have b:JI p≠[]:=λe=>p0 (Az.1 (by rw[<-J4 tp,e];rfl));obtain⟨g,f,k,d,i,j,_,_⟩:=OY _ (JI p) (JI (Jb p)) (Aa _) (Yk _) (Yk _) b;have c:Jy p=(Ec (JI p) (JI (Jb p))).map λa=>Jp a g:=by
  unfold Jy X3;rw[f];rfl
 rw[c];exact eT _ _ _ g (Aa _) (Yk _) (Yk _) b i j k d
end
namespace M3
open Go.RowKit Go.Shelf
attribute [local go_sem] Oper.semAt_some
variable{p:List Rat}{K:Nat}{v:G}
theorem eU(r s:G)(p q:List Rat)(w:E)(m:Je w r p)(o:Je w s q):
 Calls Tryz.prog 87 #[r,s] w λe i=>∃k l a c b d g f,e=.returned (.func (.func 136) #[] #[C (some ⟨k,0,none⟩),C (some ⟨l,0,none⟩)])/\Dd i k a c b/\Dd i l d g f/\Je i (.agg #[D a c b]) p/\Je i (.agg #[D d g f]) q/\Bl w i:=by
 obtain⟨a,c,b,rfl⟩:=m.form;obtain⟨d,g,f,rfl⟩:=o.form;refine((BH (n:=1)).1 (Rn 1 a d c b g f w)).mono ?_;rintro e i ⟨rfl,rfl⟩;have j:Bl w ((w.alloc (B #[D a c b] 25)).alloc (B #[D d g f] 25)):=(Ba w _).alloc (by rw[Ax];omega) _;refine⟨_,_,a,c,b,d,g,f,rfl,(BG w 25 (D a c b)).alloc _,?_,m.below j,o.below j,j⟩;have:=BG (w.alloc (B #[D a c b] 25)) 25 (D d g f);rwa[Ax]at this
theorem eV(K:Nat)(a b:Nat)(f j:Option Addr)(i g l k:Nat)(p q:List Rat)(w:E)(u:ChOk K p q)(s:Dd w a f i g)(t:Dd w b j l k)(x:Je w (.agg #[D f i g]) p)(y:Je w (.agg #[D j l k]) q):
 Calls Tryz.prog 153 #[.func (.func 136) #[] #[C (some ⟨a,0,none⟩),C (some ⟨b,0,none⟩)]] w λe m=>∃v cs,e=.returned v/\XT 25 (w.heap.size+1) m v cs/\F0 m cs (X3 p q)/\Bl w m:=by
 have n:=Ja (dA K a b f j i g l k p q w u s t x y);clear u s t x y;go_enter Tryz.func153,Tryz.ntmps153
 go_wp2_with(go_at_call 186;refine n.o.mono ?_;clear n;rintro e M ⟨v,cs,rfl,d,o,r⟩;obtain⟨A,H,z,I,L⟩:=d.form;subst z;have c:=Ja (And.intro d (And.intro o r));clear d o r)
 go_ret;exact⟨_,cs,rfl,c.o.1,c.o.2.1,c.o.2.2⟩
theorem EH.setK{V:E}{g n:Nat}{f:Nat->List Rat}(h:EH V g n f){j:Nat}(d:j<n){x:G}(hp:Je V v p):Je (V.setCell ⟨g,j,none⟩ x) v p:=by
 obtain⟨cs,b,c⟩:=h;obtain⟨k,l,c0,a,_⟩:=c j d;obtain⟨u,e,i⟩:=hp;exact⟨u,e,Id b a rfl true DF _ _ _ i⟩
theorem F0.els{W:E}{cs:List G}{L:List (List Rat)}{base:Nat}(h:XT 25 base W v cs)(d:F0 W cs L)(s:L≠[]):∃g cap,v=D (some ⟨g,0,none⟩) L.length cap/\base<=g/\L.length<=cap/\cap<=maxLen/\EH W g L.length (λj=>L.getD j []):=by
 rcases h with⟨rfl,rfl⟩|⟨g,cap,k,rfl,n,o,p,q,t,r⟩
 . exact absurd (Az.1 (by rw[<-d.1];rfl)) s
 . refine⟨g,cap,by rw[d.1],n,by rw[<-d.1];exact p,q,k,o,λj i=>?_⟩;obtain⟨x,b,f⟩:=d.2 j L[j] (Am i);obtain⟨a,l,c,e⟩:=f.form;cases e;refine⟨a,l,c,?_,?_⟩
   . rw[<-r,C5]at b;split at b
     . rw[Cs]at b;exact b
     . cases b
   . have m:L.getD j []=L[j]:=by simp[List.getD,i]
     show RowK true W _ (L.getD j []);rw[m];exact f.row
structure SrOk(K:Nat)(p:List Rat):Prop where
 ch:ChOk K p (Jb p)
 p0:p≠[]
theorem eX{q:List Rat}(f:ChOk K p q):∀(n:Nat) (a b:List Rat),b.length<=n->Chn p q (Da K p q) a b->a≠[]->∀x∈Ec a b,Jd x=x/\Cd (Da K p q) x/\x.length<=max p.length q.length/\x≠[]:=by
 have one:∀a b,Chn p q (Da K p q) a b->a≠[]->Jd a=a/\Cd (Da K p q) a/\a.length<=max p.length q.length/\a≠[]:=λa b h e=>⟨h.ta,⟨1,DF,Sm.one _ f.bd.2.2.2,λi=>by
  obtain⟨z,g,j⟩:=h.wa i;exact⟨z,by rw[j,<-CX ((z:Int):Rat)];simp,g⟩⟩,h.la,e⟩
 intro n;induction n with
 |zero=>
  intro a b hl h e x c;have d:b=[]:=Kr Y;subst d;rw[KJ]at c;have:x=a:=by simpa using c
  subst this;exact one _ _ h e
 |succ n k=>
  intro a b hl h e x c;by_cases d:b=[]
  . subst d;rw[KJ]at c;have:x=a:=by simpa using c
    subst this;exact one _ _ h e
  . rw[XG h.tb d]at c;rcases FN.1 c with rfl|c
    . exact one _ _ h e
    . have g:=Y0 (a:=a) h.tb d;exact k b (YQ a b) Y (Chn.next f.tp f.tq f.lp f.lq f.bd.2.2.1 h d) d x c
theorem SrOk.mem(h:SrOk K p):∀x∈X3 p (Jb p),Jd x=x/\Cd (Da K p (Jb p)) x/\x.length<=max p.length (Jb p).length/\x≠[]:=by
 have a:=Chn.start h.ch.tp h.ch.tq h.ch.lp h.ch.lq h.ch.bd.2.2.1;refine eX h.ch _ (JI p) (JI (Jb p)) (Aa _) a λe=>h.p0 (Az.1 ?_);rw[<-J4 h.ch.tp,e];rfl
theorem SrOk.last(h:SrOk K p):∃g,(X3 p (Jb p)).getLast?=some g/\g∈X3 p (Jb p)/\Jy p=(X3 p (Jb p)).map λa=>Jp a g:=by
 have c:JI p≠[]:=λe=>h.p0 (Az.1 (by rw[<-J4 h.ch.tp,e];rfl));obtain⟨g,b,_⟩:=OY _ (JI p) (JI (Jb p)) (Aa _) (Yk _) (Yk _) c;have b:(X3 p (Jb p)).getLast?=some g:=b;refine⟨g,b,List.mem_of_getLast? b,?_⟩;unfold Jy;rw[b];rfl
theorem SrOk.fit{x:List Rat}(h:SrOk K p)(a:x.length<=max p.length (Jb p).length):2*(Da K p (Jb p)+x.length*(Da K p (Jb p)+1)+1)+2*(2*Da K p (Jb p)+1)<=1000000:=by
 have b:=h.ch.le;have c:x.length*(Da K p (Jb p)+1)<=max p.length (Jb p).length*(Da K p (Jb p)+1):=Ak _ a;have d:(max p.length (Jb p).length+2)*(Da K p (Jb p)+1)=max p.length (Jb p).length*(Da K p (Jb p)+1)+2*(Da K p (Jb p)+1):=AJ _ _ _;omega
theorem SrOk.sqs{K:Nat}{p:List Rat}(h:SrOk K p):DV p:=(show Cd K p from h.ch.cp).sqs h.ch.bd.2.1
def MO(w wr:E)(g n i B4:Nat)(la:Option Addr)(ll a:Nat)(C S:List (List Rat))(q:List Rat):Prop:=
 EH wr g n (λj=>if j<i then S.getD j []else C.getD j [])/\Dd wr B4 la ll a/\Je wr (.agg #[D la ll a]) q/\Bl w wr/\B4≠g/\w.heap.size<=g
theorem Zif{α:Type}(i j:Nat)(s c:Nat->α):(if j=i then s i else if j<i then s j else c j)=if j<i+1 then s j else c j:=by
 by_cases e:j=i
 . subst e;rw[if_pos rfl,if_pos (by omega)]
 . rw[if_neg e]
   by_cases e2:j<i
   . rw[if_pos e2,if_pos (by omega)]
   . rw[if_neg e2,if_neg (by omega)]
theorem eY(K:Nat)(v:G)(p:List Rat)(w:E)(h:Je w v p)(l:SrOk K p)(aj:∀i,Sq (Gn p i)):
 Calls Tryz.prog 105 #[v] w λe X=>∃g cap,e=.returned (D (some ⟨g,0,none⟩) (Jy p).length cap)/\(Jy p).length<=cap/\cap<=maxLen/\EH X g (Jy p).length (λj=>(Jy p).getD j [])/\Bl w X:=by
 obtain⟨r,la,s,rfl⟩:=h.form;have d:Bl w (w.alloc (B #[D r la s] 25)):=Ba w _;obtain⟨W0,U⟩:=ex (w.alloc (B #[D r la s] 25));have n0:F W0 w.heap.size 25 (D r la s):=by rw[<-U];exact BG w _ _
 rw[U]at d;have Ql:=Ja U;have Qe:=Ja n0;have u:=n0.cell;obtain⟨HA,Qk,Qp,Qh⟩:=Dt d (λ(V:E) (hB:Bl W0 V)=>Lx (.agg #[D r la s]) p V ((h.below d).below hB) l.sqs aj) (λ(V:E) (hB:Bl W0 V) (y:G) (hy:Je V y (Jb p))=>eU (.agg #[D r la s]) y p (Jb p) V ((h.below d).below hB) hy) λ(V:E) (Bp Bq:Nat) (r qa:Option Addr) (pl s ql qc:Nat) (c:Dd V Bp r pl s) (f:Dd V Bq qa ql qc) (k:Je V (.agg #[D r pl s]) p) (o:Je V (.agg #[D qa ql qc]) (Jb p))=>eV K Bp Bq r qa pl s ql qc p (Jb p) V l.ch c f k o;obtain⟨q,N,af,Q⟩:=l.last;obtain⟨tq,cq,lq,q0⟩:=l.mem q af;have Qn:=Ja λ(V:E) (a:List Rat) (x y:G) (ha:a∈X3 p (Jb p)) (hx:Je V x a) (hy:Je V y q)=>dK (Da K p (Jb p)) (Da K p (Jb p)) x y a q V hx hy (l.mem a ha).2.1 cq (l.mem a ha).1 tq q0 (l.fit (l.mem a ha).2.2.1);have R:X3 p (Jb p)≠[]:=λe=>by rw[e]at N;cases N
 have Qi:(X3 p (Jb p)).length<=1000000:=by
  have c:∀(n:Nat) (a b:List Rat),(ET n a b).length<=n+1:=λn=>by
   induction n with
   |zero=>intro a b;exact Aa _
   |succ n ih=>
    intro a b;rw[ET];split
    . simp
    . have:=ih b (YQ a b);simp only[Ah];omega
  have f:=c (JI (Jb p)).length (JI p) (JI (Jb p));have k:=J4 l.ch.tq;have o:=l.ch.ln;show(ET _ _ _).length<=_;omega
 obtain⟨C,hC⟩:=ex (X3 p (Jb p));obtain⟨S,hS⟩:=ex (Jy p);rw[hC]at N af Q R Qi Qh Qn;rw[hS]at Q ⊢;have Qj:S.length=C.length:=by rw[Q,CQ]
 obtain⟨Qs,Qu,Qm⟩:=Df (show ∀j (M:j<C.length),S.getD j []=Jp C[j] q from λj M=>by rw[Q];simp[List.getD,M]) R λj (M:j<C.length)=>(⟨by simp[List.getD,M],FA M⟩:C.getD j []=C[j]/\C[j]∈C);rw[Qj];have Qr:0<C.length:=Ag.2 R;have Qa:=Ja (show C.getD (C.length-1) []=q by
  rw[List.getLast?_eq_getElem?]at N;rw[List.getD,N];rfl)
 obtain⟨n,hn⟩:=ex (C.length);have Qq:=Ja hn;rw[hn]at Qi Qr Qa ⊢;obtain⟨m,hm⟩:=ex (n-1:Nat);have aq:(n:Int)-1=(m:Int):=Y
 have aw:IntKind.i64.wrap (m:Int)=(m:Int):=by rw[BO];omega
 have ax:(m:Int)<(n:Int):=Y
 have Qt:m<n:=Y
 have ay:(n:Int)<=1000000:=Y
 rw[hm]at Qa;clear h l aj d U n0 N af Q tq cq lq q0 R hC hS Qj hn Qi hm;go_enter Tryz.func105,Tryz.ntmps105
 go_upto_region 1 with fail
 rw[Ql.o];clear Ql;have hq:Bl W0 W0.drew:=(BF _ W0).drew;go_region_held3 (λX=>X.cell? ⟨w.heap.size,0,none⟩=some (D r la s)) (first|(with_reducible exact u)|(go_keep;done))
  (first
   |(go_at_call 38;refine(Qk.o _ hq).mono ?_;clear Qk;rintro e w5 ⟨v5,rfl,g5,ad⟩;have hq:=Bt hq ad;clear u;have u:=(boxed_below Qe.o hq).cell)
   |(go_at_call 87;refine(Qp.o _ hq _ g5).mono ?_;clear Qp;rintro e w6 ⟨Bp,Bq,xa,xl,xc,ya,yl,yc,rfl,k1,k2,k3,k4,ae⟩;clear g5;have hq:=Bt hq ae;clear u;have u:=(boxed_below Qe.o hq).cell)
   |(go_at_call 153;refine(Qh.o _ _ _ _ _ _ _ _ _ k1 k2 k3 k4).mono ?_;clear Qh k1 k2 k3 k4;rintro e t ⟨v7,cs,rfl,o7,p7,ah⟩;have hq:=Bt hq ah;clear u;have u:=(boxed_below Qe.o hq).cell;obtain⟨g,cap,rfl,hg,ai,ak,hE⟩:=F0.els o7 p7 Qu.o;clear o7 p7))
 rw[Qq.o]at hE ai ⊢;obtain⟨z,H,A,e8,r8⟩:=hE.cell Qt;rw[Qa.o]at r8;have T:Bl t (t.alloc (B #[D z H A] 25)):=Ba t _;have Qf:Bl w t:=Bt HA.o hq;have Qv:=hE.lt;have Qo:w.heap.size<=g:=by
  have c:=HA.o.size;have f:W0.heap.size<=w5.heap.size:=ad.size;have k:=ae.size;omega
 have SR:Hid (MO w (t.alloc (B #[D z H A] 25)) g n 0 t.heap.size z H A C S q):=Ja ⟨(hE.below T).cong λj _=>rfl,BG t _ _,⟨_,rfl,r8.below T⟩,Bt Qf T,Y,Qo⟩;clear hE r8 T Qf Qv Qo ad ae ah u;go_wp2;go_loopw [20] (λiv wr=>∃i:Nat,i<=n/\iv=.int .i64 (i:Int)/\Hid (MO w wr g n i t.heap.size z H A C S q)) λiv _=>n-(intOf iv).toNat
 case atStart=>exact⟨0,AO _,rfl,SR⟩
 case round=>
  obtain⟨i,hi,rfl,HR⟩:=hrel;clear SR;by_cases W:i<n
  . have ap:(i:Int)<(n:Int):=Y
    have Qg:i<C.length:=by have:=Qq.o;omega
    obtain⟨c,f,k,o,I,L⟩:=HR.o;obtain⟨ya,yl,yc,e1,r1⟩:=c.cell W;rw[BB Y,(Qm.o i Qg).1]at r1;have d:Bl wr (wr.alloc (B #[D ya yl yc] 25)):=Ba wr _;have HC:=Ja (Qn.o _ C[i] (.agg #[D ya yl yc]) (.agg #[D z H A]) (Qm.o i Qg).2 ⟨_,rfl,r1.below d⟩ (k.below d));rw[<-Qs.o i Qg]at HC;have HI:=Ja (show MO w (wr.alloc (B #[D ya yl yc] 25)) g n i t.heap.size z H A C S q from⟨c.below d,f.below d,k.below d,Bt o d,I,L⟩);have e2:=(f.below d).cell;clear c f k o I L r1 d HR;go_wp2_with(go_at_call 139;refine HC.o.mono ?_;clear HC;rintro e w9 ⟨u9,v9,rfl,g9,k9,P⟩;obtain⟨a9,l9,c9,rfl⟩:=g9.form;obtain⟨am,az,an,rfl⟩:=k9.form;obtain⟨c,f,k,o,I,L⟩:=HI.o;have c:=c.below P;obtain⟨xa,xl,xc,x0,_⟩:=c.cell W;have x1:=c.frozen i;have HE:=Ja (show MO w (w9.setCell ⟨g,i,none⟩ (D a9 l9 c9)) g n (i+1) t.heap.size z H A C S q from⟨(c.set W g9.row).cong (λj _=>Zif i j (S.getD · []) (C.getD · [])),Bx.far (cs:=#[D z H A]) (f.below P) (p:=⟨g,i,none⟩) I _,c.setK W (k.below P),(Bt o P).setCell (p:=⟨g,i,none⟩) L _,I,L⟩);clear c f k o I L g9 k9 P HI)
    go_roundw
    case rel=>exact⟨i+1,Y,by go_num,HE⟩
    case measure=>simp[intOf];omega
  . obtain rfl:i=n:=Y
    go_wp2;go_ret;obtain⟨c,f,k,o,I,L⟩:=HR.o;exact⟨g,cap,rfl,ai,ak,c.cong λj M=>BC M,o⟩
theorem take_snoc{α:Type}{L:List α}{k:Nat}(h:k<L.length):∃r,L[k]=r/\L.take k++[r] <+: L/\L.take k++[r]=L.take (k+1):=
 ⟨_,rfl,by rw[List.take_append_getElem h];exact List.take_prefix _ _,List.take_append_getElem h⟩
theorem eZ(w0:E)(L:List (List Rat))(f g cap:Nat)(N:F w0 f 120 (D (some ⟨g,0,none⟩) L.length cap))(hE:EH w0 g L.length λj=>L.getD j [])(hl:L.length<=1000000)(hc:L.length<=cap):
 Hv 152 #[C (some ⟨f,0,none⟩)] w0 L Lj:=by
 intro n l G W0 K z ad A M x;have c1:W0.cell? ⟨f,0,none⟩=some (D (some ⟨g,0,none⟩) L.length cap):=(boxed_below N K).cell;obtain⟨len,o⟩:=ex (L.length);obtain⟨m,R,W,S,V,U⟩:=Ix o hE z A M x;have ae:(len:Int)<=1000000:=Y
 rw[o]at c1 hc;clear K z ad A M x N hE hl o;refine Br Tryz.func152 rfl trivial ?_ rfl;simp only[Tryz.ntmps152,As,Ah,Ay,Nat.reduceAdd,Nat.reduceSub,Av,Aw,AG,AC,Ar,Au];gi_wp2;gi_loopw [7] (λq wr=>∃k:Nat,k<=len/\q=.int .i64 (k:Int)/\Hid (G (L.take k) wr/\W0.heap.size<=wr.heap.size)) λq _=>len-(intOf q).toNat
 case atStart=>exact⟨0,AO _,rfl,Ja ⟨U.o,Aa _⟩⟩
 case round=>
  obtain⟨k,hk,rfl,b⟩:=hrel;clear c1;by_cases af:k<len
  . have ah:(k:Int)<(len:Int):=Y
    obtain⟨a,l1,c,X,p⟩:=(R.o.below (S.o _ _ b.o.1)).cell (j:=k) (by have:=m.o;omega);have d:Bl wr (wr.alloc (B #[D a l1 c] 25)):=Ba wr _;have i:k<L.length:=by have:=m.o;omega
    have v:L.getD k []=L[k]:=by simp[List.getD,i]
    obtain⟨r,w,P,I⟩:=take_snoc i;rw[v,w]at p;obtain⟨fn,tmps,assign,body,hy,H⟩:=V.o (n-1) (L.take k) r (.agg #[D a l1 c]) _ (W.o _ _ _ b.o.1 d) ⟨_,rfl,p.below d⟩ P (An b.o.2 d.size);have t:=Ja I;have s:=Ja (An b.o.2 d.size);clear p d v w P I i b;gi_wp2;refine⟨λh=>by simp[Fence.wide]at h,H.mono ?_⟩;rintro e u ⟨rfl,y,Q,_⟩;have T:=Ja (show G (L.take (k+1)) u/\W0.heap.size<=u.heap.size from⟨by rw[<-t.o];exact y,An s.o Q⟩);clear y Q hy H t s X;gi_wp2;go_roundw
    case rel=>exact⟨k+1,Y,by go_num,T⟩
    case measure=>simp[intOf];omega
  . obtain rfl:k=len:=Y
    gi_wp2;go_end0;exact⟨⟨_,rfl⟩,by have h:=b.o.1;rw[<-m.o,List.take_length]at h;exact h⟩
theorem ec(w0:E)(p:List Rat)(j:Nat)(d:Option Addr)(i g:Nat)(v:F w0 j 25 (D d i g))(hp:Je w0 (.agg #[D d i g]) p)(hl:p.length<=1000000):
 Hv 117 #[C (some ⟨j,0,none⟩)] w0 p.reverse Np:=by
 intro n l G W0 t R ah S W P;have c1:W0.cell? ⟨j,0,none⟩=some (D d i g):=(boxed_below v t).cell;have q:=Ja (JX _ p W0 (hp.below t));obtain⟨len,w⟩:=ex (p.length);have aj:(len:Int)<=1000000:=Y
 have H:=Ja w;have Qk:=Ja λ(V:E) (h:Bl w0 V)=>(boxed_below v h).cell;have Qi:=Ja (λ(V:E) (h:Bl w0 V) (k:Nat) (hk:k<len) (r:Rat) (hr:p.reverse[k]?=some r)=>show Calls Tryz.prog 74 #[.agg #[D d i g],.int .i64 ((len:Int)-1-k)] V λe w'=>∃u,e=.returned u/\Jh w' u r/\Bl V w' by
  have N:=Hu _ p ((len:Int)-1-k) V (hp.below h);rw[BB Y]at N;have e1:r=cf p ((len:Int)-1-k).toNat:=by
   rw[List.getElem?_reverse Y]at hr;have h2:((len:Int)-1-k).toNat=p.length-1-k:=Y
   rw[h2,cf,hr];rfl
  rw[e1];exact N)
 rw[w]at q;obtain⟨K,Qh,Qm,A⟩:=Dt R S W P;clear t R ah S W P v hp hl w;refine Br Tryz.func117 rfl trivial ?_ rfl;simp only[Tryz.ntmps117,As,Ah,Ay,Nat.reduceAdd,Nat.reduceSub,Av,Aw,AG,AC,Ar,Au];gi_wp2_with(refine⟨trivial,λh=>by simp[Fence.wide]at h,?_⟩;gi_at_call 30;refine((BH (n:=_)).2 q.o).mono ?_;clear q;rintro e w4 ⟨rfl,a⟩)
 have I:=Ja (K.o _ _ _ A.o a);have z:=Ja a.size;clear a A c1;gi_loopw [3] (λx wr=>∃k:Nat,k<=len/\x=.int .i64 ((len:Int)-1-k)/\Hid (G (p.reverse.take k) wr/\W0.heap.size<=wr.heap.size)) λx _=>(intOf x+1).toNat
 case atStart=>exact⟨0,AO _,O,Ja ⟨I.o,z.o⟩⟩
 case round=>
  obtain⟨k,hk,rfl,b⟩:=hrel;clear I z;by_cases ai:k<len
  . have y:=Ja (Qh.o _ _ b.o.1);have e0:=Qk.o wr y.o;have s:k<p.reverse.length:=by rw[List.length_reverse];have:=H.o;omega
    obtain⟨r,M,ad,U⟩:=take_snoc s;have o:=Ja (Qi.o wr y.o k ai r (by rw[<-M];exact Am s));obtain⟨m,X⟩:=ex (len-1-k:Nat);have c:(len:Int)-1-k=(m:Int):=Y
    have HM:=Ja X;have ak:(m:Int)<=1000000:=Y
    rw[c]at o ⊢;have HT:=Ja U;have Ql:=Ja ad;clear X c U ad M s;gi_wp2_with(refine⟨trivial,λh=>by simp[Fence.wide]at h,?_⟩;gi_at_call 74;refine((BH (n:=_)).2 o.o).mono ?_;clear o;rintro e w4 ⟨u4,rfl,af,a⟩;obtain⟨fn,tmps,assign,body,hy,T⟩:=Qm.o (n-1) (p.reverse.take k) r u4 w4 (K.o _ _ _ b.o.1 a) af Ql.o (An b.o.2 a.size))
    refine⟨λh=>by simp[Fence.wide]at h,T.mono ?_⟩;rintro e L ⟨rfl,Q,ae,_⟩;have Qj:=Ja (show G (p.reverse.take (k+1)) L/\W0.heap.size<=L.heap.size from⟨by rw[<-HT.o];exact Q,An b.o.2 (An a.size ae)⟩);clear Q ae hy T af a b;gi_wp2;go_roundw
    case rel=>exact⟨k+1,Y,by(congr 1;have:=HM.o;omega),Qj⟩
    case measure=>simp[intOf]
  . obtain rfl:k=len:=Y
    have c:(k:Int)-1-k=-1:=Y
    rw[c];gi_wp2;refine⟨trivial,?_⟩;gi_wp2;all_goals(refine⟨λf h=>(by cases h),?_⟩;gi_wp2;go_end0;exact⟨⟨_,rfl⟩,by have h:=b.o.1;rw[Ad (by rw[List.length_reverse,H.o];exact Aa _)]at h;exact h⟩)
end M3
section
open Go.RowKit Go.Shelf
variable{A X:Nat}{x:Rat}
theorem R8(d:DT X x):∀l:List Rat,(∀i,DT A (cf l i))->DT (l.length*(A+X+1)+1) (ev l x):=by
 intro l;induction l with
 |nil=>intro _;exact DT.zero _ O
 |cons c t e=>
  intro h;have b:=e (λi=>by have:=h (i+1);rwa[J3]at this);have a:=h 0;rw[YR]at a;rw[ev,Ah,AJ];exact(a.add2 (d.mul2 b)).mono Y
theorem ef{ps:List Rat}(b:DT X x)(hp:∀i,DT A (cf ps i))(d:ps.length*(A+X+1)+1+X<=1000000):M3.Ki ps x:=λn=>by
 have a:=R8 b (ps.drop n) (λi=>by
  have e:cf (ps.drop n) i=cf ps (n+i):=by simp[cf]
  rw[e];exact hp _)
 have c:(ps.drop n).length*(A+X+1)<=ps.length*(A+X+1):=Ak _ (by rw[AU];omega);exact⟨Sq.of a Y,Sq.of (a.mul2 b) Y⟩
end
theorem eh(l:List (List Rat)):l.map Ej=(D4 l).map Dl:=by simp[D4,Ej,Function.comp_def]
theorem ej(n:Nat):((-1:Rat))^n=if n%2=0 then 1 else -1:=by
 induction n with
 |zero=>rfl
 |succ n a=>
  rw[Rat.pow_succ,a];by_cases h:n%2=0
  . rw[BC h,BB Y];grind
  . rw[BB h,BC Y];grind
theorem er(l:List (List Rat))(h:∀p∈l,p≠[]):l.map Hb=(Eo l).map Dl:=by
 unfold Eo;rw[List.map_map];refine List.map_congr_left λp hp=>?_;have b:=Ag.2 (h p hp);show Hb p=Dl ((-1)^(p.length-1)*cf p (p.length-1));unfold Hb Ej;rw[ej];by_cases a:p.length%2=0
 . rw[BC a,BB Y,<-Zi];congr 1;grind
 . rw[BB a,BC Y,Co]
namespace M3
open Go.RowKit Go.Shelf
attribute [local go_sem] Oper.semAt_some
variable{pb:Array G}{f:List Rat->Int}{pf:Nat}
theorem ey(a:Option Addr)(l c:Nat)(w:E):
 Calls Tryz.prog 104 #[D a l c] w λe b=>∃B,e=.returned (.func (.func 152) #[] #[C (some ⟨B,0,none⟩)])/\F b B 120 (D a l c)/\Bl w b:=by
 go_enter Tryz.func104,Tryz.ntmps104
 go_wp2_with fail
 go_ret;exact⟨_,rfl,BG w _ _,Ba w _⟩
theorem ez(g p:Nat)(lb pb:Array G)(w:E):
 Calls Tryz.prog 106 #[.func (.func g) #[] lb,.func (.func p) #[] pb] w λe b=>∃Bu c,e=.returned (.func (.func 154) #[] #[C (some ⟨Bu,0,none⟩),C (some ⟨c,0,none⟩)])/\F b Bu 125 (.func (.func g) #[] lb)/\F b c 39 (.func (.func p) #[] pb)/\Bl w b:=by
 have d:Bl w ((w.alloc (B #[.func (.func g) #[] lb] 125)).alloc (B #[.func (.func p) #[] pb] 39)):=(Ba w _).alloc (by rw[Ax];omega) _;have a:=BG (w.alloc (B #[.func (.func g) #[] lb] 125)) 39 (.func (.func p) #[] pb);rw[Ax]at a;have i:=Ja d;have f:=Ja a;clear d a;go_enter Tryz.func106,Tryz.ntmps106
 go_wp2_with fail
 go_ret;exact⟨_,_,rfl,(BG w _ _).alloc _,f.o,i.o⟩
theorem fA(g p:Nat)(lb pb:Array G)(w:E):
 Calls Tryz.prog 55 #[.func (.func g) #[] lb,.func (.func p) #[] pb] w λe b=>∃Bu c,e=.returned (.func (.func 116) #[] #[C (some ⟨Bu,0,none⟩),C (some ⟨c,0,none⟩)])/\F b Bu 96 (.func (.func g) #[] lb)/\F b c 61 (.func (.func p) #[] pb)/\Bl w b:=by
 have d:Bl w ((w.alloc (B #[.func (.func g) #[] lb] 96)).alloc (B #[.func (.func p) #[] pb] 61)):=(Ba w _).alloc (by rw[Ax];omega) _;have a:=BG (w.alloc (B #[.func (.func g) #[] lb] 96)) 61 (.func (.func p) #[] pb);rw[Ax]at a;have i:=Ja d;have f:=Ja a;clear d a;go_enter Tryz.func55,Tryz.ntmps55
 go_wp2_with fail
 go_ret;exact⟨_,_,rfl,(BG w _ _).alloc _,f.o,i.o⟩
structure Tells(pf:Nat)(pb:Array Value)(w:World)(xs:List (List Rat))(f:List Rat->Int):Prop where
 plc:I8 pf pb w xs Lj f
 ent:∀args w,(callFunc pf args).run Tryz.prog w=.ok (.enter pf args) w
 sg:∀x∈xs,-1<=f x/\f x<=1
theorem I8.later{α:Type}{w b:E}{xs:List α}{a:E->G->α->Prop}{f:α->Int}(h:I8 pf pb w xs a f)(d:Bl w b):I8 pf pb b xs a f:=
 λW v x c e g=>h W v x (Bt d c) e g
theorem R9(L:List (List Rat))(b g cap Bu a:Nat)(w:E)(i:F w b 120 (D (some ⟨g,0,none⟩) L.length cap))(hE:EH w g L.length λj=>L.getD j [])(hl:L.length<=1000000)(l:L.length<=cap)(c:Tells pf pb w L f)(k:F w Bu 125 (.func (.func 152) #[] #[C (some ⟨b,0,none⟩)]))(d:F w a 39 (.func (.func pf) #[] pb)):
 Calls Tryz.prog 54 #[.func (.func 154) #[] #[C (some ⟨Bu,0,none⟩),C (some ⟨a,0,none⟩)]] w λe o=>e=.returned (.int .i64 (GC (L.map f):Int))/\Bl w o:=
 QU w (L.map f) (Zk w L f Bu a (eZ w L b g cap i hE hl l) (Bg Tryz.func152 (by kernel_rfl) rfl) c.ent k d c.plc) (Bg Tryz.func154 (by kernel_rfl) rfl)
  (λs m=>by obtain⟨x,n,rfl⟩:=C1.1 m;exact c.sg x n) (by rw[CQ];exact hl)
theorem SrOk.len{K:Nat}{p:List Rat}(d:SrOk K p):(Jy p).length<=1000000/\0<(Jy p).length:=by
 obtain⟨g,e,_,c⟩:=d.last;rw[c,CQ];have e:∀(n:Nat) (a b:List Rat),(ET n a b).length<=n+1/\0<(ET n a b).length:=λn=>by
  induction n with
  |zero=>intro a b;exact⟨Aa _,Nat.one_pos⟩
  |succ n f=>
   intro a b;rw[ET];split
   . simp
   . have:=f b (YQ a b);simp only[Ah];omega
 have c:=e (JI (Jb p)).length (JI p) (JI (Jb p));have i:=J4 d.ch.tq;have j:=d.ch.ln;refine⟨?_,c.2⟩;show(ET _ _ _).length<=_;omega
theorem Ob(K:Nat)(v:G)(p:List Rat)(w:E)(h:Je w v p)(L:SrOk K p)(aj:∀i,Sq (Gn p i)){y:Nat}{u:Array G}{f2:List Rat->Int}(n:Tells pf pb w (Jy p) f)(o:Tells y u w (Jy p) f2):
 Calls Tryz.prog 46 #[v,.func (.func pf) #[] pb,.func (.func y) #[] u] w λe w'=>e=.returned (.int .i64 ((GC ((Jy p).map f):Int)-(GC ((Jy p).map f2):Int)))/\Bl w w':=by
 obtain⟨pa,la,pc,rfl⟩:=h.form;have d:Bl w (w.alloc (B #[D pa la pc] 25)):=Ba w _;obtain⟨W0,z⟩:=ex (w.alloc (B #[D pa la pc] 25));have n0:F W0 w.heap.size 25 (D pa la pc):=by rw[<-z];exact BG w _ _
 rw[z]at d;have Qh:=Ja z;have Qj:=Ja n0;have P:=n0.cell;have HA:=Ja d;obtain⟨m,hm⟩:=ex (p.length-1:Nat);have Qi:(p.length:Int)-1=(m:Int):=by have:=Ag.2 L.p0;omega
 have M:=Ja λ(V:E) (a:Bl W0 V)=>JX _ p V ((h.below d).below a);rw[Qi]at M;obtain⟨U,q,N,Q⟩:=Dt (λ(V:E) (a:Bl W0 V)=>eY K _ p V ((h.below d).below a) L aj) L.len (λ(V:E) (a:Bl W0 V)=>(⟨n.plc.later (Bt d a),n.ent,n.sg⟩:Tells pf pb V (Jy p) f)) λ(V:E) (a:Bl W0 V)=>(⟨o.plc.later (Bt d a),o.ent,o.sg⟩:Tells y u V (Jy p) f2);obtain⟨S,hS⟩:=ex (Jy p);rw[hS]at U q N Q ⊢;have R:∀(g:List Rat->Int),Tells pf pb w S g\/Tells y u w S g->GC (S.map g)<=1000000:=λg I=>by
  have r:∀x∈S,-1<=g x/\g x<=1:=by rcases I with I|I<;>exact I.sg
  have t:=(QS (S.map g) (0,0) (λs hs=>by obtain⟨x,hx,rfl⟩:=C1.1 hs;exact r x hx) DF).2;rw[CQ]at t;have:=q.o.1;show(List.foldl Du (0,0) (S.map g)).1<=_;omega
 rw[hS]at n o;have l1:=R f (Or.inl n);have l2:=R f2 (Or.inr o);obtain⟨n1,ae⟩:=ex (GC (S.map f));obtain⟨n2,af⟩:=ex (GC (S.map f2));rw[ae]at l1 ⊢;rw[af]at l2 ⊢;have W:=Ja λ(b g cap Bu l:Nat) (V:E) (a:Bl W0 V) (r:F V b 120 (D (some ⟨g,0,none⟩) S.length cap)) (t:EH V g S.length λj=>S.getD j []) (X:S.length<=cap) (h4:F V Bu 125 (.func (.func 152) #[] #[C (some ⟨b,0,none⟩)])) (h5:F V l 39 (.func (.func pf) #[] pb))=>R9 S b g cap Bu l V r t q.o.1 X (N.o V a) h4 h5;have T:=Ja λ(b g cap Bu l:Nat) (V:E) (a:Bl W0 V) (r:F V b 120 (D (some ⟨g,0,none⟩) S.length cap)) (t:EH V g S.length λj=>S.getD j []) (X:S.length<=cap) (h4:F V Bu 125 (.func (.func 152) #[] #[C (some ⟨b,0,none⟩)])) (h5:F V l 39 (.func (.func y) #[] u))=>R9 S b g cap Bu l V r t q.o.1 X (Q.o V a) h4 h5;rw[ae]at W;rw[af]at T;clear h L aj n o d z n0 hm Qi hS R ae af q N Q;go_enter Tryz.func46,Tryz.ntmps46
 go_upto_region 1 with fail
 rw[Qh.o];clear Qh;have hq:=BF W0.heap.size W0;go_upto_region 3 with(go_at_call 30;refine(M.o _ hq).mono ?_;clear M;rintro e w5 ⟨rfl,ak⟩;have hq:=Bt hq ak;clear P;have P:=(boxed_below Qj.o hq).cell)
 go_upto_region 4 with(first
  |(go_at_call 105;refine(U.o _ hq).mono ?_;clear U;rintro e w6 ⟨g,cap,rfl,ai,an,hE,am⟩;have hq:=Bt hq am;clear P)
  |(go_at_call 104;refine(ey _ _ _ _).mono ?_;rintro e w7 ⟨b,rfl,c,ah⟩;have hq:=Bt hq ah;have hE:=hE.below ah))
 go_wp2_with(first
  |(go_at_call 106;refine(ez _ _ _ _ _).mono ?_;rintro e w8 ⟨Bu,l,rfl,H,A,ad⟩;have hq:=Bt hq ad;have hE:=hE.below ad;have c:=boxed_below c ad)
  |(go_at_call 54;refine(W.o _ _ _ _ _ _ hq c hE ai H A).mono ?_;clear W H A;rintro e w9 ⟨rfl,k⟩;have hq:=Bt hq k;have hE:=hE.below k;have c:=boxed_below c k)
  |(go_at_call 54;refine(T.o _ _ _ _ _ _ hq c hE ai H A).mono ?_;clear T H A;rintro e w9 ⟨rfl,k⟩;have hq:=Bt hq k;have hE:=hE.below k;have c:=boxed_below c k))
 go_ret;exact⟨rfl,Bt HA.o hq⟩
