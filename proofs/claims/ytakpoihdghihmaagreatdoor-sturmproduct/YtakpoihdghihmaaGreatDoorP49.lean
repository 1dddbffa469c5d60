import Derived.Test.YtakpoihdghihmaaGreatDoorP48
import Derived.Test.YtakpoihdghihmaaGreatDoorP29
open Go.Value renaming slice->D,pointer->C
open Go renaming World->E,Boxed->F,Value->G
open Go.Obj renaming cells->B
set_option maxRecDepth 100000
set_option maxHeartbeats 16000000
namespace Go.Proofs.YtakpoihdghihmaaGreatDoor
section
def Do:List Int->Int->Int
 |[],_=>0
 |c::t,x=>c+x*Do t x
def cz(g:List Int)(i:Nat):Int:=g[i]?.getD 0
variable{P a b g p:List Rat}{M n:Nat}
theorem QY(i:Nat):cz [] i=0:=rfl
theorem Lf(c:Int)(t:List Int):cz (c::t) 0=c:=rfl
theorem Kd(c:Int)(t:List Int)(i:Nat):cz (c::t) (i+1)=cz t i:=rfl
theorem NZ{g:List Int}{i:Nat}(h:g.length<=i):cz g i=0:=by unfold cz;rw[AO h];rfl
def Yt:List Int->Int->List Int × Int
 |[],_=>([],0)
 |c::t,k=>((Yt t k).2::(Yt t k).1,c+k*(Yt t k).2)
theorem Na(k x:Int):∀g:List Int,Do g x=(x-k)*Do (Yt g k).1 x+(Yt g k).2:=by
 intro g;induction g with
 |nil=>simp[Do,Yt]
 |cons c t a=>rw[Do,Yt,a];simp only[Do];grind
theorem QZ(k:Int)(g:List Int):(Yt g k).2=Do g k:=by
 have h:=Na k k g;rw[Int.sub_self,Int.zero_mul,Int.zero_add]at h;exact h.symm
theorem Nb(k:Int):∀(g:List Int),cz g 0=(Yt g k).2-k*cz (Yt g k).1 0/\∀i,cz g (i+1)=cz (Yt g k).1 i-k*cz (Yt g k).1 (i+1):=by
 intro g;induction g with
 |nil=>exact⟨by simp[QY,Yt],λi=>by simp[QY,Yt]⟩
 |cons c t a=>
  rw[Yt];refine⟨by rw[Lf,Lf];omega,λi=>?_⟩;cases i with
  |zero=>rw[Kd,Lf,Kd];exact a.1
  |succ i=>rw[Kd,Kd,Kd];exact a.2 i
theorem Q3(k:Int)(g:List Int){m:Nat}(h:∀i,m+1<=i->cz g i=0):∀i,m<=i->cz (Yt g k).1 i=0:=by
 have b:∀d i,m<=i->(Yt g k).1.length<=i+d->cz (Yt g k).1 i=0:=λd=>by
  induction d with
  |zero=>intro i _ c;exact NZ Y
  |succ d j=>
   intro i a c;have e:=j (i+1) Y Y;have f:=(Nb k g).2 i;rw[h (i+1) Y,e,Int.mul_zero]at f;omega
 intro i a;exact b (Yt g k).1.length i a Y
theorem bO:∀(m:Nat) (g:List Int),(∀i,m<=i->cz g i=0)->(∃i,cz g i≠0)->∀b:List Int,b.Nodup->(∀k∈b,Do g k=0)->b.length<m:=by
 intro m;induction m with
 |zero=>intro g h ⟨i,s⟩;exact absurd (h i Y) s
 |succ m u=>
  intro g h ⟨t,c⟩ b e o;cases b with
  |nil=>simp
  |cons a b=>
   rw[List.nodup_cons]at e;have q:(Yt g a).2=0:=by rw[QZ];exact o a Z
   have hq:∃i,cz (Yt g a).1 i≠0:=by
    by_cases f:∃i,cz (Yt g a).1 i≠0
    . exact f
    . exfalso
      have d:∀i,cz (Yt g a).1 i=0:=λi=>Classical.not_not.1 λr=>f ⟨i,r⟩;have j:=Nb a g;cases t with
      |zero=>rw[j.1,q,d]at c;simp at c
      |succ i=>rw[j.2,d,d]at c;simp at c
   have v:=u (Yt g a).1 (Q3 a g h) hq b e.2 (λk p=>by
    have l:=Na a k g;rw[o k (by simp[p]),q,Int.add_zero]at l;rcases Int.mul_eq_zero.1 l.symm with n|n
    . exact absurd (show k∈b from p) λw=>e.1 (by rwa[show a=k by omega])
    . exact n)
   simp only[Af];omega
theorem bP(B:Nat):∀(m:Nat) (g:List Int) (M:Nat),(∀i,m<=i->cz g i=0)->∀b:List Int,b.Nodup->b.length=m->(∀k∈b,(Do g k).natAbs<=M/\k.natAbs<=B)->∀i,(cz g i).natAbs<=M*(2*B+3)^m:=by
 intro m;induction m with
 |zero=>intro g M h b _ _ _ i;rw[h i Y];simp
 |succ m v=>
  intro g M h b f hl o i;cases b with
  |nil=>simp at hl
  |cons a b=>
   rw[List.nodup_cons]at f;obtain⟨p,q⟩:=o a Z;have I:((Yt g a).2).natAbs<=M:=by rw[QZ];exact p
   have hq:=v (Yt g a).1 (2*M) (Q3 a g h) b f.2 (by simpa using hl) (λk u=>by
    obtain⟨n,c⟩:=o k (by simp[u]);refine⟨?_,c⟩;have z:=Na a k g;have r:(k-a)*Do (Yt g a).1 k=Do g k-(Yt g a).2:=Y
    have s:(k-a).natAbs*(Do (Yt g a).1 k).natAbs<=2*M:=by
     rw[<-CF,r];omega
    have t:0<(k-a).natAbs:=Int.natAbs_pos.2 λe=>f.1 (by rwa[show a=k by omega]);exact An (C4 _ t) s)
   obtain⟨X,d⟩:∃X,2*M*(2*B+3)^m=X:=⟨_,rfl⟩;rw[d]at hq;have A:2*M<=X:=by rw[<-d];exact Cf _ (CU Y)
   have H:X+B*X<=M*(2*B+3)^(m+1):=by
    have e:M*(2*B+3)^(m+1)*2=X*(2*B+3):=by rw[<-d,A4];grind
    have w:X*(2*B+3)=2*(B*X)+3*X:=by grind
    omega
   have j:∀y:Int,(a*y).natAbs<=B*y.natAbs:=λy=>by rw[CF];exact Aj _ q
   have l:=Nb a g;cases i with
   |zero=>
    rw[l.1];have n:=j (cz (Yt g a).1 0);have c:B*(cz (Yt g a).1 0).natAbs<=B*X:=Ao _ (hq 0);omega
   |succ i=>
    rw[l.2];have n:=j (cz (Yt g a).1 (i+1));have c:B*(cz (Yt g a).1 (i+1)).natAbs<=B*X:=Ao _ (hq (i+1));have x:=hq i;omega
theorem bQ{B:Nat}:∀(g:List Int) (k:Int),(∀i,(cz g i).natAbs<=M)->k.natAbs<=B->(Do g k).natAbs<=M*(B+1)^g.length:=by
 intro g;induction g with
 |nil=>intro k _ _;simp[Do]
 |cons c t l=>
  intro k h e;have b:=l k (λi=>h (i+1)) e;have j:=h 0;rw[Lf]at j;rw[Do,Af,A4];obtain⟨a,d⟩:=ex ((B+1)^t.length);rw[d]at b ⊢;have f:1<=a:=by rw[<-d];exact CU Y
  have m:(k*Do t k).natAbs<=B*(M*a):=by rw[CF];exact Cr e b
  have n:M<=M*a:=Cf _ f;have o:M*(a*(B+1))=M*a+B*(M*a):=by grind
  have p:=FK c (k*Do t k);omega
def Ke(g:List Int):List Rat:=g.map (λz:Int=>(z:Rat))
theorem Nc(g:List Int)(i:Nat):cf (Ke g) i=(cz g i:Rat):=by
 unfold cf Ke cz;rw[Fa];cases g[i]? with
 |none=>rfl
 |some z=>rfl
theorem Nd(k:Int):∀g:List Int,ev (Ke g) (k:Rat)=(Do g k:Rat):=by
 intro g;induction g with
 |nil=>rfl
 |cons c t a=>
  show(c:Rat)+(k:Rat)*ev (Ke t) (k:Rat)=_;rw[a,Do,Rat.intCast_add,AC]
theorem Nf(h:∀i,∃z:Int,cf p i=(z:Rat)):∃g:List Int,p=Ke g/\g.length=p.length:=by
 induction p with
 |nil=>exact⟨[],rfl,rfl⟩
 |cons c t e=>
  obtain⟨g,b,d⟩:=e (λi=>by have:=h (i+1);rwa[J1]at this);obtain⟨z,a⟩:=h 0;rw[YM]at a;exact⟨z::g,by rw[a,b];rfl,by simp[d]⟩
theorem nodup_range(n:Nat):((List.range n).map (λi:Nat=>(i:Int))).Nodup:=by
 refine List.Pairwise.map _ ?_ (List.nodup_range (n:=n));intro a b h e;exact h Y
theorem bS(x:Jd P=P)(f:P≠[])(hl:P.length<=n+1)(s:∀i,∃z:Int,z.natAbs<=M/\cf P i=(z:Rat))(y:Jd g=g)(h:Dv g P):
 ∀i,∃z:Int,z.natAbs<=M*(2*n+1)^(n+1)*(2*(2*n)+3)^(n+1)/\cf (JE g) i=(z:Rat):=by
 obtain⟨H,V,eP,W⟩:=bN x f (λi=>by obtain⟨z,_,c⟩:=s i;exact⟨z,c⟩) y h;have U:g≠[]:=λe=>f (by rw[eP,e];rfl);have t:H≠[]:=λe=>f (by rw[eP,e];exact Xc _);obtain⟨a,m,lp⟩:=Nf (p:=P) (λi=>by obtain⟨z,_,c⟩:=s i;exact⟨z,c⟩);obtain⟨j,w,lg⟩:=Nf (NY y U);obtain⟨X,T,lh⟩:=Nf W;have af:(JE g).length<=n+1:=by
  have b:=JG (Yf g) V (λe=>f (by rw[eP,e];rfl)) t;rw[<-eP]at b;have c:0<H.length:=Ah.2 t;omega
 have N:∀i,(cz a i).natAbs<=M:=λi=>by
  obtain⟨z,b,c⟩:=s i;rw[m,Nc]at c;rwa[Rat.intCast_inj.1 c]
 have u:∀k:Int,Do a k=Do j k*Do X k:=λk=>by
  have b:ev P (k:Rat)=ev (JE g) (k:Rat)*ev H (k:Rat):=by rw[<-Jh,<-eP]
  rw[m,w,T,Nd,Nd,Nd,<-AC]at b;exact Rat.intCast_inj.1 b
 obtain⟨R,o⟩:=ex ((List.range (2*n+1)).map (λi:Nat=>(i:Int)));have v:R.Nodup:=by rw[<-o];exact nodup_range _
 have ad:R.length=2*n+1:=by rw[<-o];simp
 have K:∀k∈R,k.natAbs<=2*n:=λk d=>by
  rw[<-o]at d;obtain⟨i,r,rfl⟩:=C3.1 d;have:=List.mem_range.1 r;omega
 have ae:(R.filter λk=>Do a k==0).length<n+1:=by
  refine bO (n+1) a (λi r=>NZ Y) ?_ _ (v.filter _) (λk d=>by
   have:=(Ft.1 d).2;simpa using this)
  refine⟨P.length-1,λe=>Jt x f ?_⟩;have b:=Nc a (P.length-1);rw[<-m,e]at b;exact b
 have ah:(R.filter λk=>Do a k==0).length+(R.filter λk=>!(Do a k==0)).length=R.length:=by
  rw[<-List.countP_eq_length_filter,<-List.countP_eq_length_filter];have b:=List.length_eq_countP_add_countP (l:=R) λk=>Do a k==0;have c:List.countP (λk=>!(Do a k==0)) R=List.countP (λk=>decide ¬((Do a k==0)=true)) R:=by congr 1;funext k;cases(Do a k==0)<;>rfl
  omega
 obtain⟨S,q⟩:=ex ((R.filter λk=>!(Do a k==0)).take (n+1));have I:S.length=n+1:=by rw[<-q,Al];omega
 have L:S.Nodup:=by rw[<-q];exact List.Sublist.nodup (List.take_sublist _ _) (v.filter _)
 have Q:∀k∈S,Do a k≠0/\k.natAbs<=2*n:=λk d=>by
  rw[<-q]at d;have b:=Ft.1 (FN d);refine⟨?_,K k b.1⟩;have:=b.2;simpa using this
 have A:=bP (2*n) (n+1) j (M*(2*n+1)^(n+1)) (λi r=>NZ Y) S L I (λk d=>by
  obtain⟨b,c⟩:=Q k d;refine⟨?_,c⟩;have h3:=bQ a k N c;have h4:M*(2*n+1)^a.length<=M*(2*n+1)^(n+1):=Ao _ (AE Y Y);have h5:(Do j k).natAbs<=(Do a k).natAbs:=by
   rw[u k,CF];refine Cf _ (Int.natAbs_pos.2 λe=>b ?_);rw[u k,e,Int.mul_zero]
  omega)
 intro i;exact⟨cz j i,A i,by rw[w,Nc]⟩
theorem Dv.lnN{K e:Nat}(b:Jd P=P)(s:P≠[])(hl:P.length<=n+1)(Q:(2*n+1)^(n+1)*(2*(2*n)+3)^(n+1)<=O^e)(R:Ln K P)(r:Jd g=g)(h:Dv g P):Ln (K+e) g:=by
 obtain⟨c,p,o⟩:=F6 b;have v:c≠0:=λf=>by rw[f]at p;exact absurd p DI
 have I:JE P≠[]:=by rw[o];exact Ih v b s
 have L:Dv g (JE P):=by rw[o];exact h.sc c
 have x:=Il b R;have y:=bS (n:=n) (M:=O^K-1) (Yf P) I (by rw[J0 b];omega) (λi=>by
  obtain⟨z,j,k⟩:=x i;unfold Sm at j;exact⟨z,Y,k⟩) r L
 have A:EM (K+e) (JE g):=λi=>by
  obtain⟨z,j,k⟩:=y i;refine⟨z,?_,k⟩;unfold Sm;have T:0<O^K:=CU Hm;have t:0<O^e:=CU Hm;have a:(O^K-1)*((2*n+1)^(n+1)*(2*(2*n)+3)^(n+1))<=(O^K-1)*O^e:=Ao _ Q;rw[<-AJ]at a;have l:(O^K-1)*O^e<O^K*O^e:=(Nat.mul_lt_mul_right t).2 Y;rw[CQ];exact Cl j (Cl a l)
 obtain⟨m,q,w⟩:=F6 r;have u:m≠0:=λf=>by rw[f]at q;exact absurd q DI
 have a:=A.ln;rw[w]at a;obtain⟨d,N,S⟩:=a;refine⟨m*d,GJ u N,λi=>?_⟩;obtain⟨z,l,H⟩:=S i;exact⟨z,l,by rw[<-H,Yl];grind⟩
theorem bT:(2*24+1)^(24+1)*(2*(2*24)+3)^(24+1)<=O^5:=by unfold O;decide
theorem Dv.len(g:Jd a=a)(i:Jd b=b)(b0:b≠[])(h:Dv a b):a.length<=b.length/\a≠[]:=by
 obtain⟨c,j,e⟩:=h.some i;have f:a≠[]:=λd=>b0 (by rw[e,d];rfl);have c0:c≠[]:=λd=>b0 (by rw[e,d];exact Xc _);have l:=JG g j f c0;rw[<-e]at l;have:0<c.length:=Ah.2 c0;exact⟨Y,f⟩
theorem Q4(d:Jd a=a)(e:Jd b=b)(c:a≠[])(b0:b≠[]):cf (Jm a b) ((Jm a b).length-1)=cf a (a.length-1)*cf b (b.length-1):=by
 have l:=JG d e c b0;have f:0<a.length:=Ah.2 c;have g:0<b.length:=Ah.2 b0;rw[l,show a.length+b.length-1-1=(a.length-1)+(b.length-1)by omega];unfold Jm;rw[Ye];exact Lu a b (a.length-1) (b.length-1) Y Y
theorem Q5{q:List Rat}(h:q≠[]):EG p q=Js p q:=BB h
section
variable {q w y:List Rat}
end
end
section
theorem bU(c:Rat)(p:List Rat){q:List Rat}(hq:Jd q=q)(q0:q≠[]):Js (DR c p) q=DR c (Js p q):=by
 have h:=(KS (c:=c) (d:=1) DI p q hq q0).1;rw[Ha hq,show c/1=c by grind]at h;exact h
def Ng(p w y:List Rat):Nat->List Rat
 |0=>p
 |n+1=>Js (Ng p w y n) (D5 w y n).1
section
variable {p q w y:List Rat}
end
variable{p:List Rat}
theorem Nh(tp:Jd p=p)(p0:p≠[]):cf p (p.length-1)≠0/\p=DR (cf p (p.length-1)) (Jz p):=by
 have h:=Jt tp p0;refine⟨h,?_⟩;unfold Jz;rw[KQ,show 1/cf p (p.length-1)*cf p (p.length-1)=1 by grind,Ha tp]
theorem bV(k:Rat)(p:List Rat):Jc (DR k p)=DR k (Jc p):=by
 rw[<-JF (DR k p),<-JI k (Jc p)];refine X3 λi=>?_;rw[KZ,Yl,Yl,KZ];grind
theorem bW(tp:Jd p=p)(p0:p≠[]):Gj p=EG (Jz p) (Jr (Jz p) (Jc (Jz p))):=by
 obtain⟨g,_⟩:=Nh tp p0;obtain⟨k,d⟩:∃k,1/cf p (p.length-1)=k:=⟨_,rfl⟩;have b:k≠0:=by rw[<-d];exact Ii g
 have c:Jz p=DR k p:=by unfold Jz;rw[d]
 have tq:Jd (Jz p)=Jz p:=Xg _;have q0:Jz p≠[]:=Ij tp p0;have f:Jr (Jz p) (Jc (Jz p))=Jr p (Jc p):=by
  rw[c,bV];exact NO b b tp (JF _)
 have a:Jr p (Jc p)≠[]:=YN tp (JF _) (Or.inl p0);have i:=(YB tq (JF (Jz p))).1;have e:=(Kb tq q0 (Ik tp) (JO _ _) (XU tq (JF (Jz p))) i).1;rw[f]at e ⊢;rw[Q5 a];unfold Gj;rw[Q5 a,<-e,c,bU k p (JO _ _) a];exact(KT b (Ys _ _)).symm
theorem Q6{q g:List Rat}(tq:Jd q=q)(q0:q≠[])(lq:q.length<=25)(cq:Cd 75 q)(a:Jd g=g)(c:Jz g=g)(h:Dv g q):Cd 80 g:=by
 have b:=h.lnN (n:=24) tq q0 Y bT cq.ln a;have:=QI a (b.mono (L:=80) Y) Y;rwa[c]at this
structure StR(K M:Nat)(r f:List Rat):Prop where
 tr:Jd r=r
 cr:Cd M r
 tf:Jd f=f
 f0:f≠[]
 mf:Jz f=f
 ca:Cd M f
 lr:(r.length+3)*(M+1)<=1000000
 lf:(f.length+3)*(M+1)<=1000000
 r1:r.length<=1000
 f1:f.length<=1000
 ch:M3.ChOk K f (Js r f)
structure ReOk(K M N:Nat)(p w y:List Rat):Prop where
 fr:M3.FrOk K p
 w0:Gj p=w
 nN:N<=1000000
 st:∀n,n<N->1<(D5 w y n).1.length/\StR K M (Ng p w y n) (D5 w y n).1/\Cd M (D5 w y (n+1)).1/\Jd (D5 w y (n+1)).1=(D5 w y (n+1)).1/\(D5 w y (n+1)).1≠[]/\Jz (D5 w y (n+1)).1=(D5 w y (n+1)).1/\
  Jr (D5 w y n).1 (Ng p w y (n+1))=(D5 w y (n+1)).1/\Js (D5 w y n).1 (D5 w y (n+1)).1=yP (D5 w y n)/\Jz (yP (D5 w y n))=yP (D5 w y n)/\
  Jd (yP (D5 w y n))=yP (D5 w y n)/\Cd M (yP (D5 w y n))/\(yP (D5 w y n)).length<=25
 en:(D5 w y N).1.length<=1
end
section
variable {a b c d p q r w y R:List Rat}
theorem DV.shift(h:DV a b)(f:∀x,ev b x=ev c x+ev a x*ev d x):DV a c:=by
 obtain⟨u,v,e⟩:=h;refine⟨XA u (Jm v d),v,λx=>?_⟩;rw[YA,Jh];have:=e x;rw[f]at this;grind
theorem DV.left(h:DV a (Jm b c)):DV a b:=(h.symm.of_dv ((Dv.refl b).mul c)).symm
theorem DV.right(h:DV a (Jm b c)):DV a c:=(h.symm.of_dv ((Dv.refl c).mul' b)).symm
theorem Yun.part(h:Yun R w y):DV (Jr w (Ym y (Jc w))) (Jc (Jr w (Ym y (Jc w))))/\DV (Jr w (Ym y (Jc w))) (Js w (Jr w (Ym y (Jc w)))):=by
 obtain⟨b,c,_⟩:=YB h.tw (Xu y (Jc w));have a:=h.step.2.2.2.2.2;obtain⟨P,f⟩:=ex (Jr w (Ym y (Jc w)));rw[f]at b c a ⊢;obtain⟨e,i⟩:=ex (Js w P);rw[i]at a ⊢;have c1:DV P y:=h.cop.of_dv b;obtain⟨t,g⟩:=c;have c2:DV P (Jc w):=c1.shift (d:=t) λx=>by
  have:=g x;rw[Y1]at this;grind
 have c3:DV P (Jm (Jc P) e):=c2.shift (d:=Jc e) λx=>by
  have:=congrArg (λr=>ev (Jc r) x) a;simp only[Yd]at this;rw[Jh];exact this
 exact⟨c3.left,c3.right⟩
end
section
variable {q w y:List Rat}
end
section
variable{a b p:List Rat}{c:Rat}
theorem Lg(h:c≠0):0<Xk c:=by
 unfold Xk;split<;>grind
theorem bY(h:0<c):∀n:Nat,0<c^n:=by
 intro n;induction n with
 |zero=>rw[Rat.pow_zero];decide
 |succ n a=>rw[Rat.pow_succ];exact Rat.mul_pos a h
theorem bZ{q:List Rat}(hq:Jd q=q)(a:q≠[]):0<EK p q:=bY (Lg (Jt hq a)) _
theorem Q7(tb:Jd b=b)(b0:b≠[]):∃(q:List Rat) (c:Rat),0<c/\∀x,EK a b*ev a x=ev q x*ev b x-c*ev (YL a b) x:=by
 obtain⟨k,f,e⟩:=F6 (p:=JH (YK a b) b) (J3 _);refine⟨Js (YK a b) b,1/k,YF DI f,λx=>?_⟩;have g:=(YP (YK a b) b tb b0).1 x;have i:ev (YK a b) x=ev a x*EK a b:=JJ _ _ _;have d:ev (YL a b) x=-(ev (JH (YK a b) b) x*k):=by
  unfold YL;rw[Y1,e,JJ];simp[ev];grind
 have j:1/k*k=1:=Ap (by grind);rw[d];grind
theorem chnL_head(a b:List Rat):∃t,Eb a b=a::t:=by
 unfold Eb;cases b.length with
 |zero=>exact⟨_,rfl⟩
 |succ n=>
  unfold EQ;split
  . exact⟨_,rfl⟩
  . exact⟨_,rfl⟩
theorem Q8(ta:Jd a=a)(b:a≠[])(x:Rat):ev (Js a a) x=1:=by
 have h:=YD (u:=Js a a) (v:=[1]) ta b (λx=>by
  rw[<-(JP ta b (Dv.refl a)).2 x,Jy];grind) x
 rwa[Jy]at h
theorem Ni:∀(n:Nat) (a b:List Rat),b.length<=n->Jd a=a->Jd b=b->a≠[]->∃g,(Eb a b).getLast?=some g/\Jd g=g/\g≠[]/\Dv g a/\Dv g b/\(∀d,Dv d a->Dv d b->Dv d g)/\StC ((Eb a b).map λp=>Js p g):=by
 intro n;induction n with
 |zero=>
  intro a b N ta _ e;have:b=[]:=AM.1 Y;subst this;exact⟨a,rfl,ta,e,Dv.refl a,Dv.zero a,λ_ h _=>h,StC.one (c:=1) DI λx=>Q8 ta e x⟩
 |succ n U=>
  intro a b N ta tb e;by_cases b0:b=[]
  . subst b0;exact⟨a,rfl,ta,e,Dv.refl a,Dv.zero a,λ_ h _=>h,StC.one (c:=1) DI λx=>Q8 ta e x⟩
  . have hl:=YT (a:=a) tb b0;obtain⟨g,I,i,f,k,r,K,j⟩:=U b (YL a b) Y tb (X9 _ _) b0;obtain⟨q,c,c0,l⟩:=Q7 (a:=a) tb b0;have w0:=bZ (p:=a) tb b0;have w:1/EK a b*EK a b=1:=Ap (by grind);have y:1/c*c=1:=Ap (by grind);have m:Dv g a:=k.comb r (Jm [1/EK a b] q) [-(1/EK a b*c)] λx=>by
     rw[Jh,Jy,Jy];have:=l x;have:ev a x=1/EK a b*(EK a b*ev a x):=by rw[<-Rat.mul_assoc,w,CG]
     grind
    refine⟨g,?_,i,f,m,k,λd d1 o=>K d o (o.comb d1 (Jm [1/c] q) [-(1/c*EK a b)] λx=>?_),?_⟩
    . rw[Xy tb b0,List.getLast?_cons,I];rfl
    . rw[Jh,Jy,Jy];have:=l x;have:ev (YL a b) x=1/c*(c*ev (YL a b) x):=by rw[<-Rat.mul_assoc,y,CG]
      grind
    . rw[Xy tb b0];by_cases s:YL a b=[]
      . rw[s,Ip]at j ⊢;cases j with
        |one L M=>exact StC.two L M
      . obtain⟨t,P⟩:=chnL_head (YL a b) (YL b (YL a b));rw[Xy (X9 _ _) s,P]at j ⊢;have z:=(JP i f m).2;have A:=(JP i f k).2;have H:=(JP i f r).2;refine StC.more (q:=q) w0 c0 (λx=>?_) j;have:=YD (u:=Jm [EK a b] (Js a g)) (v:=Ym (Jm q (Js b g)) (Jm [c] (Js (YL a b) g))) i f (λx=>by
         rw[Jh,Y1,Jh,Jh,Jy,Jy];have Q:=z x;have R:=A x;have S:=H x;have T:=l x;rw[Q,R,S]at T;grind) x
        rwa[Jh,Y1,Jh,Jh,Jy,Jy]at this
theorem Nj:∀(n:Nat) (R w y:List Rat),R.length<=n->Yun R w y->DV w (Jc w):=by
 intro n;induction n with
 |zero=>intro R w y p h;exact absurd (AM.1 Y) h.R0
 |succ n r=>
  intro R w y p h;by_cases hl:w.length<=1
  . obtain⟨c,o⟩:=Ka h.tw h.w0 hl;refine⟨c,[],λx=>?_⟩;have:=o x;rw[Jy]at this;simp[ev];grind
  . obtain⟨j,g⟩:=h.part;obtain⟨_,_,b,k,_,f⟩:=h.step;obtain⟨a,m⟩:=ex (Jr w (Ym y (Jc w)));rw[m]at j g b f;obtain⟨e,q⟩:=ex (Js w a);rw[q]at g b f;have s:(Js R w).length<=n:=by
     have:=JG h.tw b.tR h.w0 b.R0;rw[<-k]at this;omega
    have l:=r _ _ _ s b;have i:∀x,ev (Jc w) x=ev (Jc a) x*ev e x+ev a x*ev (Jc e) x:=λx=>by
     have:=Yd a e x;rwa[<-f]at this
    have c1:DV a (Jc w):=(j.mul g).shift (d:=Jm [-1] (Jc e)) λx=>by
     rw[Jh,Jh,Jy,i];grind
    have c2:DV e (Jc w):=(g.symm.mul l).shift (d:=Jm [-1] (Jc a)) λx=>by
     rw[Jh,Jh,Jy,i];grind
    have c3:=(c1.symm.mul c2.symm).symm;rwa[<-f]at c3
theorem bp(c:Rat)(p:List Rat)(x:Rat):ev (Jc (DR c p)) x=c*ev (Jc p) x:=by
 rw[Xv,Xv];unfold DR;rw[Nw (Ye _),Ny,CI]
def Ju(p:List Rat):List (List Rat):=(XT p (Jc p)).map λa=>Js a ((XT p (Jc p)).getLast?.getD [])
def DL(p:List Rat):List Rat:=Js (Jz p) (Jr (Jz p) (Jc (Jz p)))
def IB(p:List Rat):List Rat:=Js (Jc (Jz p)) (Jr (Jz p) (Jc (Jz p)))
theorem br(tp:Jd p=p)(p0:p≠[]):StC (Ju p)/\∃f l k,Ju p=f::l/\k≠0/\(∀x,ev f x=k*ev (DL p) x)/\∀f1 l1,l=f1::l1->∃V,0<k*V/\∀x,ev f1 x=V*ev (IB p) x:=by
 have ts:=JF p;obtain⟨α,α0,hα⟩:=F6 tp;obtain⟨β,β0,hβ⟩:=F6 ts;obtain⟨y,s⟩:=Nh tp p0;obtain⟨b,hl⟩:=ex (cf p (p.length-1));rw[hl]at y s;have tR:=Xg p;have R0:=Ij tp p0;obtain⟨R,T⟩:=ex (Jz p);rw[T]at s tR R0;have z:=JF R;have a0:JE p≠[]:=λe=>p0 (AM.1 (by rw[<-J0 tp,e];rfl));have A:∀x,ev (JE p) x=α*b*ev R x:=λx=>by
  rw[hα,JJ];conv=>lhs;rw[s]
  rw[JJ];grind
 have H:∀x,ev (JE (Jc p)) x=β*b*ev (Jc R) x:=λx=>by
  rw[hβ,JJ];have:=bp b R x;rw[<-s]at this;rw[this];grind
 obtain⟨g,h1,I,P,Q,S,h4,h5⟩:=Ni _ (JE p) (JE (Jc p)) (Aa _) (Yf _) (Yf _) a0;obtain⟨K,L,_⟩:=YB tR z;have q:=JO R (Jc R);have r:=YN tR z (Or.inl R0);have fW:=(JP q r K).2;have fY:=(JP q r L).2;have W:Dv (Jr R (Jc R)) g:=h4 _ (by
  obtain⟨c,j⟩:=K;exact⟨DR (α*b) c,λx=>by rw[A,j,JJ];grind⟩) (by obtain⟨c,j⟩:=L;exact⟨DR (β*b) c,λx=>by rw[H,j,JJ];grind⟩)
 have U:∀ {k:Rat},0<k->1/(k*b)*(k*b)=1:=λhk=>Ap (by
  intro e;rcases Cj.1 e with e|e
  . grind
  . exact y e)
 have X:Dv g (Jr R (Jc R)):=KY tR z (by
  obtain⟨c,j⟩:=Q;refine⟨DR (1/(α*b)) c,λx=>?_⟩;have i:=j x;rw[A]at i;have:ev R x=1/(α*b)*(α*b*ev R x):=by rw[<-Rat.mul_assoc,U α0,CG]
  rw[this,i,JJ];grind) (by
  obtain⟨c,j⟩:=S;refine⟨DR (1/(β*b)) c,λx=>?_⟩;have i:=j x;rw[H]at i;have:ev (Jc R) x=1/(β*b)*(β*b*ev (Jc R) x):=by rw[<-Rat.mul_assoc,U β0,CG]
  rw[this,i,JJ];grind)
 obtain⟨m,m0,hm⟩:=Dv.anti q I W X;have M:∀x,ev g x=m*ev (Jr R (Jc R)) x:=λx=>by rw[hm,JJ];grind
 have w:1/m*m=1:=Ap m0;have qa:=(JP I P Q).2;have qb:=(JP I P S).2;have N:Ju p=(Eb (JE p) (JE (Jc p))).map λa=>Js a g:=by
  unfold Ju XT;rw[h1];rfl
 refine⟨by rw[N];exact h5,?_⟩;obtain⟨t,d⟩:=chnL_head (JE p) (JE (Jc p));unfold DL IB;rw[T];refine⟨Js (JE p) g,t.map λa=>Js a g,1/m*(α*b),by rw[N,d];rfl,?_,λx=>?_,λf1 l1 n=>⟨1/m*(β*b),?_,λx=>?_⟩⟩
 . intro e;rcases Cj.1 e with e|e
   . rw[e]at w;grind
   . rcases Cj.1 e with e|e
     . grind
     . exact y e
 . have:=YD (u:=Js (JE p) g) (v:=DR (1/m*(α*b)) (Js R (Jr R (Jc R)))) q r (λx=>by
    have o:=qa x;rw[M,A,fW]at o;rw[JJ];have:ev (Jr R (Jc R)) x*ev (Js (JE p) g) x=1/m*(m*ev (Jr R (Jc R)) x*ev (Js (JE p) g) x):=by
     rw[<-Rat.mul_assoc,<-Rat.mul_assoc,w,CG]
    rw[this,<-o];grind) x
   rw[this,JJ];grind
 . have i:1/m*(α*b)*(1/m*(β*b))=(1/m*b)*(1/m*b)*(α*β):=by grind
   rw[i];refine Rat.mul_pos ?_ (Rat.mul_pos α0 β0);have c0:1/m*b≠0:=λe=>by
    rcases Cj.1 e with e|e
    . rw[e]at w;grind
    . exact y e
   have:=Iz (f:=[1/m*b]) c0 (λx=>Jy _ x) 0 0;unfold Dl at this;rwa[Jy]at this
 . have hb:f1=Js (JE (Jc p)) g:=by
    by_cases b0:JE (Jc p)=[]
    . rw[b0,Ip]at d;injection d with _ d
      rw[<-d]at n;cases n
    . rw[Xy (Yf _) b0]at d;injection d with _ d
      obtain⟨t2,ad⟩:=chnL_head (JE (Jc p)) (YL (JE p) (JE (Jc p)));rw[<-d,ad]at n;injection n with n _
      exact n.symm
   rw[hb];have:=YD (u:=Js (JE (Jc p)) g) (v:=DR (1/m*(β*b)) (Js (Jc R) (Jr R (Jc R)))) q r (λx=>by
    have o:=qb x;rw[M,H,fY]at o;rw[JJ];have:ev (Jr R (Jc R)) x*ev (Js (JE (Jc p)) g) x=1/m*(m*ev (Jr R (Jc R)) x*ev (Js (JE (Jc p)) g) x):=by
     rw[<-Rat.mul_assoc,<-Rat.mul_assoc,w,CG]
    rw[this,<-o];grind) x
   rw[this,JJ];grind
def Yn(b:List Rat):List Rat:=DR (1/Xk (cf b (b.length-1))) b
def E0:Nat->List Rat->List Rat->List (List Rat)
 |0,a,_=>[a]
 |n+1,a,b=>if b=[]then [a]else a::E0 n (Yn b) (DR (-1) (JH a (Yn b)))
theorem Kf(n:Nat)(a b:List Rat):∃t,E0 n a b=a::t:=by
 cases n with
 |zero=>exact⟨_,rfl⟩
 |succ n=>
  unfold E0;split
  . exact⟨_,rfl⟩
  . exact⟨_,rfl⟩
theorem Nk(tb:Jd b=b)(b0:b≠[]):0<1/Xk (cf b (b.length-1)):=YF DI (Lg (Jt tb b0))
theorem Nl(g:c≠0)(tb:Jd b=b):(DR c b).length=b.length:=by
 have e:DR (1/c) (DR c b)=b:=by rw[KQ,CI,Ap g,Ha tb]
 have a:∀(d:Rat) (q:List Rat),(DR d q).length<=q.length:=λd q=>by
  unfold DR;refine An (Y3 _) ?_;unfold YU;simp
 have i:=a c b;have f:=a (1/c) (DR c b);rw[e]at f;omega
theorem Q9(ta:Jd a=a)(h:DV a []):∃c,c≠0/\∀x,ev a x=c:=by
 obtain⟨u,v,b⟩:=h;have f:Dv a [1]:=⟨u,λx=>by rw[Jy,<-b x];simp[ev];grind⟩;have g:=(f.len ta DI DI).1;have d:a≠[]:=λe=>by
  have:=b 0;rw[e]at this;simp[ev]at this;grind
 match a,d,g with
 |[c],_,_=>
  refine⟨c,λe=>?_,λx=>Jy c x⟩;have:=b 0;rw[e]at this;simp[ev]at this;grind
theorem RA:∀(n:Nat) (a b:List Rat),b.length<=n->Jd a=a->Jd b=b->DV a b->StC (E0 n a b):=by
 intro n;induction n with
 |zero=>
  intro a b p ta _ d;have:b=[]:=AM.1 Y;subst this;obtain⟨c,c0,f⟩:=Q9 ta d;exact StC.one c0 f
 |succ n w=>
  intro a b p ta tb d;by_cases b0:b=[]
  . subst b0;obtain⟨c,c0,f⟩:=Q9 ta d;rw[E0,BH rfl];exact StC.one c0 f
  . rw[E0,BB b0];have R:=Nk tb b0;have lb:(Yn b).length=b.length:=Nl (by grind) tb;have j:Jd (Yn b)=Yn b:=JI _ _;have l:Yn b≠[]:=λe=>b0 (AM.1 (by rw[<-lb,e];rfl));obtain⟨k,sl⟩:=YP a (Yn b) j l;have tr:Jd (JH a (Yn b))=JH a (Yn b):=J3 _;have o:∀x,ev (Yn b) x=ev b x*(1/Xk (cf b (b.length-1))):=λx=>JJ _ _ _;have m:DV (Yn b) (DR (-1) (JH a (Yn b))):=by
     obtain⟨u,v,s⟩:=d;have y:Xk (cf b (b.length-1))*(1/Xk (cf b (b.length-1)))=1:=by
      rw[CI];exact Ap (by have:=Lg (Jt tb b0);grind)
     refine⟨XA (Jm u (Js a (Yn b))) (Jm [Xk (cf b (b.length-1))] v),Jm [-1] u,λx=>?_⟩;rw[YA,Jh,Jh,Jh,Jy,Jy,JJ];have z:=s x;have i:=k x;have A:=o x;have H:ev b x=Xk (cf b (b.length-1))*ev (Yn b) x:=by
      rw[A,CI,Rat.mul_assoc,CI (1/_),y,Rat.mul_one]
     rw[H,i]at z;grind
    have g:=w (Yn b) (DR (-1) (JH a (Yn b))) (by rw[Nl DI tr];omega) j (JI _ _) m;by_cases r0:DR (-1) (JH a (Yn b))=[]
    . rw[r0]at g ⊢;have e:E0 n (Yn b) []=[Yn b]:=by cases n<;>rfl
      rw[e]at g ⊢;cases g with
      |one d f=>exact StC.two d f
    . have Q:=JI (-1) (JH a (Yn b));cases n with
      |zero=>
       exact absurd (AM.1 (by have:=Nl (c:=-1) DI tr;omega)) r0
      |succ n=>
       obtain⟨t,r⟩:=Kf n (Yn (DR (-1) (JH a (Yn b)))) (DR (-1) (JH (Yn b) (Yn (DR (-1) (JH a (Yn b))))));rw[E0,BB r0,r]at g ⊢;have P:=Lg (Jt Q r0);refine StC.more (q:=Js a (Yn b)) (a:=1) (c:=Xk (cf (DR (-1) (JH a (Yn b))) ((DR (-1) (JH a (Yn b))).length-1))) DI P (λx=>?_) g;have i:=k x;have I:ev (Yn (DR (-1) (JH a (Yn b)))) x=ev (DR (-1) (JH a (Yn b))) x*(1/Xk (cf (DR (-1) (JH a (Yn b))) ((DR (-1) (JH a (Yn b))).length-1))):=JJ _ _ _;have L:ev (DR (-1) (JH a (Yn b))) x=ev (JH a (Yn b)) x*(-1):=JJ _ _ _;have M:1/Xk (cf (DR (-1) (JH a (Yn b))) ((DR (-1) (JH a (Yn b))).length-1))*Xk (cf (DR (-1) (JH a (Yn b))) ((DR (-1) (JH a (Yn b))).length-1))=1:=Ap (by grind);rw[I,L];generalize Xk (cf (DR (-1) (JH a (Yn b))) ((DR (-1) (JH a (Yn b))).length-1))=K at *;have N:K*(ev (JH a (Yn b)) x*(-1)*(1/K))=- ev (JH a (Yn b)) x:=by
        have:K*(ev (JH a (Yn b)) x*(-1)*(1/K))=(1/K*K)*(- ev (JH a (Yn b)) x):=by grind
        rw[this,M];grind
       rw[N,CG,i];grind
def YR(p:List Rat):List (List Rat):=E0 (Jc (DL p)).length (DL p) (Jc (DL p))
theorem XV(tp:Jd p=p)(p0:p≠[]){a b:Rat}(w:a<=b):DP (JM (Ju p) a)+DP (JM (YR p) b)=DP (JM (Ju p) b)+DP (JM (YR p) a):=by
 obtain⟨Q,f,l,k,I,T,H,s⟩:=br tp p0;have d:=Yun.start (Xg p) (Ij tp p0) (Ik tp);have d:Yun (Jz p) (DL p) (IB p):=d;have S:=Nj _ _ _ _ (Aa _) d;have P:=RA _ (DL p) (Jc (DL p)) (Aa _) d.tw (JF _) S;obtain⟨A,A0,u⟩:=XY a;obtain⟨C,C0,v⟩:=XY b;have g:0<=A+C:=by grind
 obtain⟨e,e0,sg⟩:=QU _ _ _ _ (Aa _) d g;refine glue (B:=A+C) (F:=λx=>DP (JM (Ju p) x)) (G:=λx=>DP (JM (YR p) x)) ?_ (u.mono (by grind)) (v.mono (by grind)) w;refine(((Q.gd g).and (P.gd g)).and sg).mono λx y _ _ _ ⟨⟨d1,i⟩,r⟩=>?_;obtain⟨m,c⟩:=Kf (Jc (DL p)).length (DL p) (Jc (DL p));show DP (JM (Ju p) x)+DP (JM (YR p) y)=DP (JM (Ju p) y)+DP (JM (YR p) x);unfold YR;rw[I]at d1 ⊢;rw[c]at i ⊢;refine d1.both i T H λM f1 l1 j m1 hl o=>?_;obtain⟨k1,U,K⟩:=s f1 l1 hl;obtain⟨V,W⟩:=r M;by_cases w0:Jc (DL p)=[]
 . exfalso
   rw[w0]at c;rw[o]at c;simp[E0]at c
 . obtain⟨n,N⟩:∃n,(Jc (DL p)).length=n+1:=⟨_,(Nat.succ_pred_eq_of_pos (Ah.2 w0)).symm⟩;rw[N,E0,BB w0]at c;injection c with _ c
   obtain⟨t,R⟩:=Kf n (Yn (Jc (DL p))) (DR (-1) (JH (DL p) (Yn (Jc (DL p)))));rw[R,o]at c;injection c with L _
   have X:=Nk (JF (DL p)) w0;have q:∀z,ev j z=ev (Jc (DL p)) z*(1/Xk (cf (Jc (DL p)) ((Jc (DL p)).length-1))):=λz=>by rw[<-L];exact JJ _ _ _
   have fin:∀z,e<=ev (IB p) z*ev (Jc (DL p)) z->0<k*ev f1 z*ev j z:=λz hz=>by
    rw[K,q];have:=Rat.mul_pos (Rat.mul_pos U X) (show 0<ev (IB p) z*ev (Jc (DL p)) z by grind);grind
   exact⟨fin x V,fin y W⟩
def Nm(l:List (List Rat)):Prop:=∀p∈l,Jd p=p/\p≠[]
def Eh(l:List (List Rat)):List Rat:=l.map λp=>cf p (p.length-1)
def D6(l:List (List Rat)):List Rat:=l.map λp=>(-1)^(p.length-1)*cf p (p.length-1)
theorem Xl{l:List (List Rat)}(h:Nm l):∃B,0<B/\(∀x,B<=x->DP (JM l x)=DP (Eh l))/\∀x,x<=-B->DP (JM l x)=DP (D6 l):=by
 have m:∃B,0<B/\(∀x,B<=x->∀p∈l,0<ev p x*cf p (p.length-1))/\∀x,x<=-B->∀p∈l,0<ev p x*((-1)^(p.length-1)*cf p (p.length-1)):=by
  induction l with
  |nil=>exact⟨1,DI,(λ_ _ _ hp=>absurd hp (List.not_mem_nil)),(λ_ _ _ hp=>absurd hp (List.not_mem_nil))⟩
  |cons p l g=>
   obtain⟨B,d,b,c⟩:=g λq hq=>h q (List.mem_cons_of_mem _ hq);obtain⟨tp,p0⟩:=h p (CH);obtain⟨C,n,e⟩:=R7 tp p0;obtain⟨D,o,f⟩:=R8 tp p0;refine⟨B+C+D,by grind,λx a q hq=>?_,λx a q hq=>?_⟩
   . rcases List.mem_cons.1 hq with rfl|hq
     . rw[CI];exact e x (by grind)
     . exact b x (by grind) q hq
   . rcases List.mem_cons.1 hq with rfl|hq
     . rw[CI];exact f x (by grind)
     . exact c x (by grind) q hq
 obtain⟨B,d,b,c⟩:=m;refine⟨B,d,λx a=>?_,λx a=>?_⟩
 . refine OA _ _ 0 0 (by simp[JM,Eh]) (λi j k=>?_) (Or.inr ⟨rfl,rfl⟩);simp only[JM,Eh,List.getElem_map];exact b x a _ (FA _)
 . refine OA _ _ 0 0 (by simp[JM,D6]) (λi j k=>?_) (Or.inr ⟨rfl,rfl⟩);simp only[JM,D6,List.getElem_map];exact c x a _ (FA _)
theorem bv:∀(n:Nat) (a b g:List Rat),b.length<=n->Jd a=a->Jd b=b->a≠[]->Dv g a->Dv g b->Jd g=g->g≠[]->Nm ((Eb a b).map λp=>Js p g):=by
 intro n;induction n with
 |zero=>
  intro a b g s ta tb j f k i d;have:b=[]:=AM.1 Y;subst this;intro p hp;rw[Ip]at hp;rcases C3.1 hp with⟨q,hq,rfl⟩
  have:q=a:=by simpa using hq
  subst this;exact⟨Ys _ _,λe=>j (YX ta λx=>by rw[(JP i d f).2,e];simp[ev])⟩
 |succ n u=>
  intro a b g s ta tb j f k i d;have l:Jd (Js a g)=Js a g/\Js a g≠[]:=⟨Ys _ _,λe=>j (YX ta λx=>by rw[(JP i d f).2,e];simp[ev])⟩;by_cases b0:b=[]
  . subst b0;intro p hp;rw[Ip]at hp;rcases C3.1 hp with⟨q,hq,rfl⟩
    have:q=a:=by simpa using hq
    subst this;exact l
  . have hl:=YT (a:=a) tb b0;obtain⟨q,c,c0,t⟩:=Q7 (a:=a) tb b0;have m:1/c*c=1:=Ap (by grind);have o:Dv g (YL a b):=k.comb f (Jm [1/c] q) [-(1/c*EK a b)] λx=>by
     rw[Jh,Jy,Jy];have:=t x;have:ev (YL a b) x=1/c*(c*ev (YL a b) x):=by rw[<-Rat.mul_assoc,m,CG]
     grind
    have r:=u b (YL a b) g Y tb (X9 _ _) b0 k o i d;rw[Xy tb b0];intro p hp;rcases List.mem_cons.1 hp with rfl|hp
    . exact l
    . exact r p hp
theorem Yq(tp:Jd p=p)(p0:p≠[]):Nm (Ju p):=by
 have b:JE p≠[]:=λe=>p0 (AM.1 (by rw[<-J0 tp,e];rfl));obtain⟨g,f,k,d,i,j,_,_⟩:=Ni _ (JE p) (JE (Jc p)) (Aa _) (Yf _) (Yf _) b;have c:Ju p=(Eb (JE p) (JE (Jc p))).map λa=>Js a g:=by
  unfold Ju XT;rw[f];rfl
 rw[c];exact bv _ _ _ g (Aa _) (Yf _) (Yf _) b i j k d
end
namespace M3
open Go.RowKit Go.Shelf
attribute [local go_sem] Oper.semAt_some
variable{p:List Rat}{K:Nat}{v:G}
theorem bw(r s:G)(p q:List Rat)(w:E)(m:Je w r p)(o:Je w s q):
 Calls Tryz.prog 87 #[r,s] w λe i=>∃k l a c b d g f,e=.returned (.func (.func 136) #[] #[C (some ⟨k,0,none⟩),C (some ⟨l,0,none⟩)])/\Dd i k a c b/\Dd i l d g f/\Je i (.agg #[D a c b]) p/\Je i (.agg #[D d g f]) q/\Bl w i:=by
 obtain⟨a,c,b,rfl⟩:=m.form;obtain⟨d,g,f,rfl⟩:=o.form;refine((BJ (n:=1)).1 (QQ 1 a d c b g f w)).mono ?_;rintro e i ⟨rfl,rfl⟩;have j:Bl w ((w.alloc (B #[D a c b] 25)).alloc (B #[D d g f] 25)):=(Ba w _).alloc (by rw[Ax];omega) _;refine⟨_,_,a,c,b,d,g,f,rfl,(BI w 25 (D a c b)).alloc _,?_,m.below j,o.below j,j⟩;have:=BI (w.alloc (B #[D a c b] 25)) 25 (D d g f);rwa[Ax]at this
theorem cA(K:Nat)(a b:Nat)(f j:Option Addr)(i g l k:Nat)(p q:List Rat)(w:E)(u:ChOk K p q)(s:Dd w a f i g)(t:Dd w b j l k)(x:Je w (.agg #[D f i g]) p)(y:Je w (.agg #[D j l k]) q):
 Calls Tryz.prog 153 #[.func (.func 136) #[] #[C (some ⟨a,0,none⟩),C (some ⟨b,0,none⟩)]] w λe m=>∃v cs,e=.returned v/\XL 25 (w.heap.size+1) m v cs/\FS m cs (XT p q)/\Bl w m:=by
 have n:=Ja (aU K a b f j i g l k p q w u s t x y);clear u s t x y;go_enter Tryz.func153,Tryz.ntmps153
 go_wp2_with(go_at_call 186;refine n.o.mono ?_;clear n;rintro e M ⟨v,cs,rfl,d,o,r⟩;obtain⟨A,H,z,I,L⟩:=d.form;subst z;have c:=Ja (And.intro d (And.intro o r));clear d o r)
 go_ret;exact⟨_,cs,rfl,c.o.1,c.o.2.1,c.o.2.2⟩
theorem EF.setK{V:E}{g n:Nat}{f:Nat->List Rat}(h:EF V g n f){j:Nat}(d:j<n){x:G}(hp:Je V v p):Je (V.setCell ⟨g,j,none⟩ x) v p:=by
 obtain⟨cs,b,c⟩:=h;obtain⟨k,l,c0,a,_⟩:=c j d;obtain⟨u,e,i⟩:=hp;exact⟨u,e,Hw b a rfl true DI _ _ _ i⟩
theorem FS.els{W:E}{cs:List G}{L:List (List Rat)}{base:Nat}(h:XL 25 base W v cs)(d:FS W cs L)(s:L≠[]):∃g cap,v=D (some ⟨g,0,none⟩) L.length cap/\base<=g/\L.length<=cap/\cap<=maxLen/\EF W g L.length (λj=>L.getD j []):=by
 rcases h with⟨rfl,rfl⟩|⟨g,cap,k,rfl,n,o,p,q,t,r⟩
 . exact absurd (AM.1 (by rw[<-d.1];rfl)) s
 . refine⟨g,cap,by rw[d.1],n,by rw[<-d.1];exact p,q,k,o,λj i=>?_⟩;obtain⟨x,b,f⟩:=d.2 j L[j] (Am i);obtain⟨a,l,c,e⟩:=f.form;cases e;refine⟨a,l,c,?_,?_⟩
   . rw[<-r,Fm]at b;split at b
     . rw[CB]at b;exact b
     . cases b
   . have m:L.getD j []=L[j]:=by simp[List.getD,i]
     show RowK true W _ (L.getD j []);rw[m];exact f.row
structure SrOk(K:Nat)(p:List Rat):Prop where
 ch:ChOk K p (Jc p)
 p0:p≠[]
theorem cB{q:List Rat}(f:ChOk K p q):∀(n:Nat) (a b:List Rat),b.length<=n->Chn p q (DZ K p q) a b->a≠[]->∀x∈Eb a b,Jd x=x/\Cd (DZ K p q) x/\x.length<=max p.length q.length/\x≠[]:=by
 have one:∀a b,Chn p q (DZ K p q) a b->a≠[]->Jd a=a/\Cd (DZ K p q) a/\a.length<=max p.length q.length/\a≠[]:=λa b h e=>⟨h.ta,⟨1,DI,Sm.one _ f.bd.2.2.2,λi=>by
  obtain⟨z,g,j⟩:=h.wa i;exact⟨z,by rw[j,<-CZ ((z:Int):Rat)];simp,g⟩⟩,h.la,e⟩
 intro n;induction n with
 |zero=>
  intro a b hl h e x c;have d:b=[]:=KR Y;subst d;rw[Ip]at c;have:x=a:=by simpa using c
  subst this;exact one _ _ h e
 |succ n k=>
  intro a b hl h e x c;by_cases d:b=[]
  . subst d;rw[Ip]at c;have:x=a:=by simpa using c
    subst this;exact one _ _ h e
  . rw[Xy h.tb d]at c;rcases List.mem_cons.1 c with rfl|c
    . exact one _ _ h e
    . have g:=YT (a:=a) h.tb d;exact k b (YL a b) Y (Chn.next f.tp f.tq f.lp f.lq f.bd.2.2.1 h d) d x c
theorem SrOk.mem(h:SrOk K p):∀x∈XT p (Jc p),Jd x=x/\Cd (DZ K p (Jc p)) x/\x.length<=max p.length (Jc p).length/\x≠[]:=by
 have a:=Chn.start h.ch.tp h.ch.tq h.ch.lp h.ch.lq h.ch.bd.2.2.1;refine cB h.ch _ (JE p) (JE (Jc p)) (Aa _) a λe=>h.p0 (AM.1 ?_);rw[<-J0 h.ch.tp,e];rfl
theorem SrOk.last(h:SrOk K p):∃g,(XT p (Jc p)).getLast?=some g/\g∈XT p (Jc p)/\Ju p=(XT p (Jc p)).map λa=>Js a g:=by
 have c:JE p≠[]:=λe=>h.p0 (AM.1 (by rw[<-J0 h.ch.tp,e];rfl));obtain⟨g,b,_⟩:=Ni _ (JE p) (JE (Jc p)) (Aa _) (Yf _) (Yf _) c;have b:(XT p (Jc p)).getLast?=some g:=b;refine⟨g,b,List.mem_of_getLast? b,?_⟩;unfold Ju;rw[b];rfl
theorem SrOk.fit{x:List Rat}(h:SrOk K p)(a:x.length<=max p.length (Jc p).length):2*(DZ K p (Jc p)+x.length*(DZ K p (Jc p)+1)+1)+2*(2*DZ K p (Jc p)+1)<=1000000:=by
 have b:=h.ch.le;have c:x.length*(DZ K p (Jc p)+1)<=max p.length (Jc p).length*(DZ K p (Jc p)+1):=Aj _ a;have d:(max p.length (Jc p).length+2)*(DZ K p (Jc p)+1)=max p.length (Jc p).length*(DZ K p (Jc p)+1)+2*(DZ K p (Jc p)+1):=AD _ _ _;omega
theorem SrOk.sqs{K:Nat}{p:List Rat}(h:SrOk K p):DX p:=(show Cd K p from h.ch.cp).sqs h.ch.bd.2.1
def Lh(w wr:E)(g n i B4:Nat)(la:Option Addr)(ll a:Nat)(C S:List (List Rat))(q:List Rat):Prop:=
 EF wr g n (λj=>if j<i then S.getD j []else C.getD j [])/\Dd wr B4 la ll a/\Je wr (.agg #[D la ll a]) q/\Bl w wr/\B4≠g/\w.heap.size<=g
theorem Zif{α:Type}(i j:Nat)(s c:Nat->α):(if j=i then s i else if j<i then s j else c j)=if j<i+1 then s j else c j:=by
 by_cases e:j=i
 . subst e;rw[if_pos rfl,if_pos (by omega)]
 . rw[if_neg e]
   by_cases e2:j<i
   . rw[if_pos e2,if_pos (by omega)]
   . rw[if_neg e2,if_neg (by omega)]
theorem cC(K:Nat)(v:G)(p:List Rat)(w:E)(h:Je w v p)(l:SrOk K p)(aj:∀i,Sq (GS p i)):
 Calls Tryz.prog 105 #[v] w λe X=>∃g cap,e=.returned (D (some ⟨g,0,none⟩) (Ju p).length cap)/\(Ju p).length<=cap/\cap<=maxLen/\EF X g (Ju p).length (λj=>(Ju p).getD j [])/\Bl w X:=by
 obtain⟨r,la,s,rfl⟩:=h.form;have d:Bl w (w.alloc (B #[D r la s] 25)):=Ba w _;obtain⟨W0,U⟩:=ex (w.alloc (B #[D r la s] 25));have n0:F W0 w.heap.size 25 (D r la s):=by rw[<-U];exact BI w _ _
 rw[U]at d;have Ql:=Ja U;have Qe:=Ja n0;have u:=n0.cell;obtain⟨HA,Qk,Qp,Qh⟩:=Dx d (λ(V:E) (hB:Bl W0 V)=>P1 (.agg #[D r la s]) p V ((h.below d).below hB) l.sqs aj) (λ(V:E) (hB:Bl W0 V) (y:G) (hy:Je V y (Jc p))=>bw (.agg #[D r la s]) y p (Jc p) V ((h.below d).below hB) hy) λ(V:E) (Bp Bq:Nat) (r qa:Option Addr) (pl s ql qc:Nat) (c:Dd V Bp r pl s) (f:Dd V Bq qa ql qc) (k:Je V (.agg #[D r pl s]) p) (o:Je V (.agg #[D qa ql qc]) (Jc p))=>cA K Bp Bq r qa pl s ql qc p (Jc p) V l.ch c f k o;obtain⟨q,N,af,Q⟩:=l.last;obtain⟨tq,cq,lq,q0⟩:=l.mem q af;have Qn:=Ja λ(V:E) (a:List Rat) (x y:G) (ha:a∈XT p (Jc p)) (hx:Je V x a) (hy:Je V y q)=>bG (DZ K p (Jc p)) (DZ K p (Jc p)) x y a q V hx hy (l.mem a ha).2.1 cq (l.mem a ha).1 tq q0 (l.fit (l.mem a ha).2.2.1);have R:XT p (Jc p)≠[]:=λe=>by rw[e]at N;cases N
 have Qi:(XT p (Jc p)).length<=1000000:=by
  have c:∀(n:Nat) (a b:List Rat),(EQ n a b).length<=n+1:=λn=>by
   induction n with
   |zero=>intro a b;exact Aa _
   |succ n ih=>
    intro a b;rw[EQ];split
    . simp
    . have:=ih b (YL a b);simp only[Af];omega
  have f:=c (JE (Jc p)).length (JE p) (JE (Jc p));have k:=J0 l.ch.tq;have o:=l.ch.ln;show(EQ _ _ _).length<=_;omega
 obtain⟨C,hC⟩:=ex (XT p (Jc p));obtain⟨S,hS⟩:=ex (Ju p);rw[hC]at N af Q R Qi Qh Qn;rw[hS]at Q ⊢;have Qj:S.length=C.length:=by rw[Q,C5]
 obtain⟨Qs,Qu,Qm⟩:=Dh (show ∀j (M:j<C.length),S.getD j []=Js C[j] q from λj M=>by rw[Q];simp[List.getD,M]) R λj (M:j<C.length)=>(⟨by simp[List.getD,M],FA M⟩:C.getD j []=C[j]/\C[j]∈C);rw[Qj];have Qr:0<C.length:=Ah.2 R;have Qa:=Ja (show C.getD (C.length-1) []=q by
  rw[List.getLast?_eq_getElem?]at N;rw[List.getD,N];rfl)
 obtain⟨n,hn⟩:=ex (C.length);have Qq:=Ja hn;rw[hn]at Qi Qr Qa ⊢;obtain⟨m,hm⟩:=ex (n-1:Nat);have aq:(n:Int)-1=(m:Int):=Y
 have aw:IntKind.i64.wrap (m:Int)=(m:Int):=by rw[BU];omega
 have ax:(m:Int)<(n:Int):=Y
 have Qt:m<n:=Y
 have ay:(n:Int)<=1000000:=Y
 rw[hm]at Qa;clear h l aj d U n0 N af Q tq cq lq q0 R hC hS Qj hn Qi hm;go_enter Tryz.func105,Tryz.ntmps105
 go_upto_region 1 with fail
 rw[Ql.o];clear Ql;have hq:Bl W0 W0.drew:=(BE _ W0).drew;go_region_held3 (λX=>X.cell? ⟨w.heap.size,0,none⟩=some (D r la s)) (first|(with_reducible exact u)|(go_keep;done))
  (first
   |(go_at_call 38;refine(Qk.o _ hq).mono ?_;clear Qk;rintro e w5 ⟨v5,rfl,g5,ad⟩;have hq:=Bt hq ad;clear u;have u:=(boxed_below Qe.o hq).cell)
   |(go_at_call 87;refine(Qp.o _ hq _ g5).mono ?_;clear Qp;rintro e w6 ⟨Bp,Bq,xa,xl,xc,ya,yl,yc,rfl,k1,k2,k3,k4,ae⟩;clear g5;have hq:=Bt hq ae;clear u;have u:=(boxed_below Qe.o hq).cell)
   |(go_at_call 153;refine(Qh.o _ _ _ _ _ _ _ _ _ k1 k2 k3 k4).mono ?_;clear Qh k1 k2 k3 k4;rintro e t ⟨v7,cs,rfl,o7,p7,ah⟩;have hq:=Bt hq ah;clear u;have u:=(boxed_below Qe.o hq).cell;obtain⟨g,cap,rfl,hg,ai,ak,hE⟩:=FS.els o7 p7 Qu.o;clear o7 p7))
 rw[Qq.o]at hE ai ⊢;obtain⟨z,H,A,e8,r8⟩:=hE.cell Qt;rw[Qa.o]at r8;have T:Bl t (t.alloc (B #[D z H A] 25)):=Ba t _;have Qf:Bl w t:=Bt HA.o hq;have Qv:=hE.lt;have Qo:w.heap.size<=g:=by
  have c:=HA.o.size;have f:W0.heap.size<=w5.heap.size:=ad.size;have k:=ae.size;omega
 have SR:Hid (Lh w (t.alloc (B #[D z H A] 25)) g n 0 t.heap.size z H A C S q):=Ja ⟨(hE.below T).cong λj _=>rfl,BI t _ _,⟨_,rfl,r8.below T⟩,Bt Qf T,Y,Qo⟩;clear hE r8 T Qf Qv Qo ad ae ah u;go_wp2;go_loopw [20] (λiv wr=>∃i:Nat,i<=n/\iv=.int .i64 (i:Int)/\Hid (Lh w wr g n i t.heap.size z H A C S q)) λiv _=>n-(intOf iv).toNat
 case atStart=>exact⟨0,AV _,rfl,SR⟩
 case round=>
  obtain⟨i,hi,rfl,HR⟩:=hrel;clear SR;by_cases W:i<n
  . have ap:(i:Int)<(n:Int):=Y
    have Qg:i<C.length:=by have:=Qq.o;omega
    obtain⟨c,f,k,o,I,L⟩:=HR.o;obtain⟨ya,yl,yc,e1,r1⟩:=c.cell W;rw[BB Y,(Qm.o i Qg).1]at r1;have d:Bl wr (wr.alloc (B #[D ya yl yc] 25)):=Ba wr _;have HC:=Ja (Qn.o _ C[i] (.agg #[D ya yl yc]) (.agg #[D z H A]) (Qm.o i Qg).2 ⟨_,rfl,r1.below d⟩ (k.below d));rw[<-Qs.o i Qg]at HC;have HI:=Ja (show Lh w (wr.alloc (B #[D ya yl yc] 25)) g n i t.heap.size z H A C S q from⟨c.below d,f.below d,k.below d,Bt o d,I,L⟩);have e2:=(f.below d).cell;clear c f k o I L r1 d HR;go_wp2_with(go_at_call 139;refine HC.o.mono ?_;clear HC;rintro e w9 ⟨u9,v9,rfl,g9,k9,P⟩;obtain⟨a9,l9,c9,rfl⟩:=g9.form;obtain⟨am,az,an,rfl⟩:=k9.form;obtain⟨c,f,k,o,I,L⟩:=HI.o;have c:=c.below P;obtain⟨xa,xl,xc,x0,_⟩:=c.cell W;have x1:=c.frozen i;have HE:=Ja (show Lh w (w9.setCell ⟨g,i,none⟩ (D a9 l9 c9)) g n (i+1) t.heap.size z H A C S q from⟨(c.set W g9.row).cong (λj _=>Zif i j (S.getD · []) (C.getD · [])),Bx.far (cs:=#[D z H A]) (f.below P) (p:=⟨g,i,none⟩) I _,c.setK W (k.below P),(Bt o P).setCell (p:=⟨g,i,none⟩) L _,I,L⟩);clear c f k o I L g9 k9 P HI)
    go_roundw
    case rel=>exact⟨i+1,Y,by go_num,HE⟩
    case measure=>simp[intOf];omega
  . obtain rfl:i=n:=Y
    go_wp2;go_ret;obtain⟨c,f,k,o,I,L⟩:=HR.o;exact⟨g,cap,rfl,ai,ak,c.cong λj M=>BH M,o⟩
theorem take_snoc{α:Type}{L:List α}{k:Nat}(h:k<L.length):∃r,L[k]=r/\L.take k++[r] <+: L/\L.take k++[r]=L.take (k+1):=
 ⟨_,rfl,by rw[List.take_append_getElem h];exact List.take_prefix _ _,List.take_append_getElem h⟩
theorem cD(w0:E)(L:List (List Rat))(f g cap:Nat)(N:F w0 f 120 (D (some ⟨g,0,none⟩) L.length cap))(hE:EF w0 g L.length λj=>L.getD j [])(hl:L.length<=1000000)(hc:L.length<=cap):
 Gx 152 #[C (some ⟨f,0,none⟩)] w0 L LJ:=by
 intro n l G W0 K z ad A M x;have c1:W0.cell? ⟨f,0,none⟩=some (D (some ⟨g,0,none⟩) L.length cap):=(boxed_below N K).cell;obtain⟨len,o⟩:=ex (L.length);obtain⟨m,R,W,S,V,U⟩:=I7 o hE z A M x;have ae:(len:Int)<=1000000:=Y
 rw[o]at c1 hc;clear K z ad A M x N hE hl o;refine Bu Tryz.func152 rfl trivial ?_ rfl;simp only[Tryz.ntmps152,Ar,Af,Az,Nat.reduceAdd,Nat.reduceSub,At,Au,AH,Ay,Aq,AA];gi_wp2;gi_loopw [7] (λq wr=>∃k:Nat,k<=len/\q=.int .i64 (k:Int)/\Hid (G (L.take k) wr/\W0.heap.size<=wr.heap.size)) λq _=>len-(intOf q).toNat
 case atStart=>exact⟨0,AV _,rfl,Ja ⟨U.o,Aa _⟩⟩
 case round=>
  obtain⟨k,hk,rfl,b⟩:=hrel;clear c1;by_cases af:k<len
  . have ah:(k:Int)<(len:Int):=Y
    obtain⟨a,l1,c,X,p⟩:=(R.o.below (S.o _ _ b.o.1)).cell (j:=k) (by have:=m.o;omega);have d:Bl wr (wr.alloc (B #[D a l1 c] 25)):=Ba wr _;have i:k<L.length:=by have:=m.o;omega
    have v:L.getD k []=L[k]:=by simp[List.getD,i]
    obtain⟨r,w,P,I⟩:=take_snoc i;rw[v,w]at p;obtain⟨fn,tmps,assign,body,hy,H⟩:=V.o (n-1) (L.take k) r (.agg #[D a l1 c]) _ (W.o _ _ _ b.o.1 d) ⟨_,rfl,p.below d⟩ P (An b.o.2 d.size);have t:=Ja I;have s:=Ja (An b.o.2 d.size);clear p d v w P I i b;gi_wp2;refine⟨λh=>by simp[Fence.wide]at h,H.mono ?_⟩;rintro e u ⟨rfl,y,Q,_⟩;have T:=Ja (show G (L.take (k+1)) u/\W0.heap.size<=u.heap.size from⟨by rw[<-t.o];exact y,An s.o Q⟩);clear y Q hy H t s X;gi_wp2;go_roundw
    case rel=>exact⟨k+1,Y,by go_num,T⟩
    case measure=>simp[intOf];omega
  . obtain rfl:k=len:=Y
    gi_wp2;go_end0;exact⟨⟨_,rfl⟩,by have h:=b.o.1;rw[<-m.o,List.take_length]at h;exact h⟩
theorem cE(w0:E)(p:List Rat)(j:Nat)(d:Option Addr)(i g:Nat)(v:F w0 j 25 (D d i g))(hp:Je w0 (.agg #[D d i g]) p)(hl:p.length<=1000000):
 Gx 117 #[C (some ⟨j,0,none⟩)] w0 p.reverse My:=by
 intro n l G W0 t R ah S W P;have c1:W0.cell? ⟨j,0,none⟩=some (D d i g):=(boxed_below v t).cell;have q:=Ja (J2 _ p W0 (hp.below t));obtain⟨len,w⟩:=ex (p.length);have aj:(len:Int)<=1000000:=Y
 have H:=Ja w;have Qk:=Ja λ(V:E) (h:Bl w0 V)=>(boxed_below v h).cell;have Qi:=Ja (λ(V:E) (h:Bl w0 V) (k:Nat) (hk:k<len) (r:Rat) (hr:p.reverse[k]?=some r)=>show Calls Tryz.prog 74 #[.agg #[D d i g],.int .i64 ((len:Int)-1-k)] V λe w'=>∃u,e=.returned u/\Jg w' u r/\Bl V w' by
  have N:=Gw _ p ((len:Int)-1-k) V (hp.below h);rw[BB Y]at N;have e1:r=cf p ((len:Int)-1-k).toNat:=by
   rw[List.getElem?_reverse Y]at hr;have h2:((len:Int)-1-k).toNat=p.length-1-k:=Y
   rw[h2,cf,hr];rfl
  rw[e1];exact N)
 rw[w]at q;obtain⟨K,Qh,Qm,A⟩:=Dx R S W P;clear t R ah S W P v hp hl w;refine Bu Tryz.func117 rfl trivial ?_ rfl;simp only[Tryz.ntmps117,Ar,Af,Az,Nat.reduceAdd,Nat.reduceSub,At,Au,AH,Ay,Aq,AA];gi_wp2_with(refine⟨trivial,λh=>by simp[Fence.wide]at h,?_⟩;gi_at_call 30;refine((BJ (n:=_)).2 q.o).mono ?_;clear q;rintro e w4 ⟨rfl,a⟩)
 have I:=Ja (K.o _ _ _ A.o a);have z:=Ja a.size;clear a A c1;gi_loopw [3] (λx wr=>∃k:Nat,k<=len/\x=.int .i64 ((len:Int)-1-k)/\Hid (G (p.reverse.take k) wr/\W0.heap.size<=wr.heap.size)) λx _=>(intOf x+1).toNat
 case atStart=>exact⟨0,AV _,Z,Ja ⟨I.o,z.o⟩⟩
 case round=>
  obtain⟨k,hk,rfl,b⟩:=hrel;clear I z;by_cases ai:k<len
  . have y:=Ja (Qh.o _ _ b.o.1);have e0:=Qk.o wr y.o;have s:k<p.reverse.length:=by rw[List.length_reverse];have:=H.o;omega
    obtain⟨r,M,ad,U⟩:=take_snoc s;have o:=Ja (Qi.o wr y.o k ai r (by rw[<-M];exact Am s));obtain⟨m,X⟩:=ex (len-1-k:Nat);have c:(len:Int)-1-k=(m:Int):=Y
    have HM:=Ja X;have ak:(m:Int)<=1000000:=Y
    rw[c]at o ⊢;have HT:=Ja U;have Ql:=Ja ad;clear X c U ad M s;gi_wp2_with(refine⟨trivial,λh=>by simp[Fence.wide]at h,?_⟩;gi_at_call 74;refine((BJ (n:=_)).2 o.o).mono ?_;clear o;rintro e w4 ⟨u4,rfl,af,a⟩;obtain⟨fn,tmps,assign,body,hy,T⟩:=Qm.o (n-1) (p.reverse.take k) r u4 w4 (K.o _ _ _ b.o.1 a) af Ql.o (An b.o.2 a.size))
    refine⟨λh=>by simp[Fence.wide]at h,T.mono ?_⟩;rintro e L ⟨rfl,Q,ae,_⟩;have Qj:=Ja (show G (p.reverse.take (k+1)) L/\W0.heap.size<=L.heap.size from⟨by rw[<-HT.o];exact Q,An b.o.2 (An a.size ae)⟩);clear Q ae hy T af a b;gi_wp2;go_roundw
    case rel=>exact⟨k+1,Y,by(congr 1;have:=HM.o;omega),Qj⟩
    case measure=>simp[intOf]
  . obtain rfl:k=len:=Y
    have c:(k:Int)-1-k=-1:=Y
    rw[c];gi_wp2;refine⟨trivial,?_⟩;gi_wp2;all_goals(refine⟨λf h=>(by cases h),?_⟩;gi_wp2;go_end0;exact⟨⟨_,rfl⟩,by have h:=b.o.1;rw[Ad (by rw[List.length_reverse,H.o];exact Aa _)]at h;exact h⟩)
end M3
section
open Go.RowKit Go.Shelf
variable{A X:Nat}{x:Rat}
theorem RB(d:DW X x):∀l:List Rat,(∀i,DW A (cf l i))->DW (l.length*(A+X+1)+1) (ev l x):=by
 intro l;induction l with
 |nil=>intro _;exact DW.zero _ Z
 |cons c t e=>
  intro h;have b:=e (λi=>by have:=h (i+1);rwa[J1]at this);have a:=h 0;rw[YM]at a;rw[ev,Af,AD];exact(a.add2 (d.mul2 b)).mono Y
theorem cH{ps:List Rat}(b:DW X x)(hp:∀i,DW A (cf ps i))(d:ps.length*(A+X+1)+1+X<=1000000):M3.KI ps x:=λn=>by
 have a:=RB b (ps.drop n) (λi=>by
  have e:cf (ps.drop n) i=cf ps (n+i):=by simp[cf]
  rw[e];exact hp _)
 have c:(ps.drop n).length*(A+X+1)<=ps.length*(A+X+1):=Aj _ (by rw[AX];omega);exact⟨Sq.of a Y,Sq.of (a.mul2 b) Y⟩
end
theorem cI(l:List (List Rat)):l.map Ee=(Eh l).map Dk:=by simp[Eh,Ee,Function.comp_def]
theorem cJ(n:Nat):((-1:Rat))^n=if n%2=0 then 1 else -1:=by
 induction n with
 |zero=>rfl
 |succ n a=>
  rw[Rat.pow_succ,a];by_cases h:n%2=0
  . rw[BH h,BB Y];grind
  . rw[BB h,BH Y];grind
theorem cK(l:List (List Rat))(h:∀p∈l,p≠[]):l.map Gb=(D6 l).map Dk:=by
 unfold D6;rw[List.map_map];refine List.map_congr_left λp hp=>?_;have b:=Ah.2 (h p hp);show Gb p=Dk ((-1)^(p.length-1)*cf p (p.length-1));unfold Gb Ee;rw[cJ];by_cases a:p.length%2=0
 . rw[BH a,BB Y,<-WF];congr 1;grind
 . rw[BB a,BH Y,CG]
namespace M3
open Go.RowKit Go.Shelf
attribute [local go_sem] Oper.semAt_some
variable{pb:Array G}{f:List Rat->Int}{pf:Nat}
theorem cL(a:Option Addr)(l c:Nat)(w:E):
 Calls Tryz.prog 104 #[D a l c] w λe b=>∃B,e=.returned (.func (.func 152) #[] #[C (some ⟨B,0,none⟩)])/\F b B 120 (D a l c)/\Bl w b:=by
 go_enter Tryz.func104,Tryz.ntmps104
 go_wp2_with fail
 go_ret;exact⟨_,rfl,BI w _ _,Ba w _⟩
theorem cM(g p:Nat)(lb pb:Array G)(w:E):
 Calls Tryz.prog 106 #[.func (.func g) #[] lb,.func (.func p) #[] pb] w λe b=>∃Bu c,e=.returned (.func (.func 154) #[] #[C (some ⟨Bu,0,none⟩),C (some ⟨c,0,none⟩)])/\F b Bu 125 (.func (.func g) #[] lb)/\F b c 39 (.func (.func p) #[] pb)/\Bl w b:=by
 have d:Bl w ((w.alloc (B #[.func (.func g) #[] lb] 125)).alloc (B #[.func (.func p) #[] pb] 39)):=(Ba w _).alloc (by rw[Ax];omega) _;have a:=BI (w.alloc (B #[.func (.func g) #[] lb] 125)) 39 (.func (.func p) #[] pb);rw[Ax]at a;have i:=Ja d;have f:=Ja a;clear d a;go_enter Tryz.func106,Tryz.ntmps106
 go_wp2_with fail
 go_ret;exact⟨_,_,rfl,(BI w _ _).alloc _,f.o,i.o⟩
theorem cN(g p:Nat)(lb pb:Array G)(w:E):
 Calls Tryz.prog 55 #[.func (.func g) #[] lb,.func (.func p) #[] pb] w λe b=>∃Bu c,e=.returned (.func (.func 116) #[] #[C (some ⟨Bu,0,none⟩),C (some ⟨c,0,none⟩)])/\F b Bu 96 (.func (.func g) #[] lb)/\F b c 61 (.func (.func p) #[] pb)/\Bl w b:=by
 have d:Bl w ((w.alloc (B #[.func (.func g) #[] lb] 96)).alloc (B #[.func (.func p) #[] pb] 61)):=(Ba w _).alloc (by rw[Ax];omega) _;have a:=BI (w.alloc (B #[.func (.func g) #[] lb] 96)) 61 (.func (.func p) #[] pb);rw[Ax]at a;have i:=Ja d;have f:=Ja a;clear d a;go_enter Tryz.func55,Tryz.ntmps55
 go_wp2_with fail
 go_ret;exact⟨_,_,rfl,(BI w _ _).alloc _,f.o,i.o⟩
structure Tells(pf:Nat)(pb:Array Value)(w:World)(xs:List (List Rat))(f:List Rat->Int):Prop where
 plc:IY pf pb w xs LJ f
 ent:∀args w,(callFunc pf args).run Tryz.prog w=.ok (.enter pf args) w
 sg:∀x∈xs,-1<=f x/\f x<=1
theorem IY.later{α:Type}{w b:E}{xs:List α}{a:E->G->α->Prop}{f:α->Int}(h:IY pf pb w xs a f)(d:Bl w b):IY pf pb b xs a f:=
 λW v x c e g=>h W v x (Bt d c) e g
theorem RC(L:List (List Rat))(b g cap Bu a:Nat)(w:E)(i:F w b 120 (D (some ⟨g,0,none⟩) L.length cap))(hE:EF w g L.length λj=>L.getD j [])(hl:L.length<=1000000)(l:L.length<=cap)(c:Tells pf pb w L f)(k:F w Bu 125 (.func (.func 152) #[] #[C (some ⟨b,0,none⟩)]))(d:F w a 39 (.func (.func pf) #[] pb)):
 Calls Tryz.prog 54 #[.func (.func 154) #[] #[C (some ⟨Bu,0,none⟩),C (some ⟨a,0,none⟩)]] w λe o=>e=.returned (.int .i64 (F3 (L.map f):Int))/\Bl w o:=
 Pc w (L.map f) (WH w L f Bu a (cD w L b g cap i hE hl l) (Bj Tryz.func152 (by kernel_rfl) rfl) c.ent k d c.plc) (Bj Tryz.func154 (by kernel_rfl) rfl)
  (λs m=>by obtain⟨x,n,rfl⟩:=C3.1 m;exact c.sg x n) (by rw[C5];exact hl)
theorem SrOk.len{K:Nat}{p:List Rat}(d:SrOk K p):(Ju p).length<=1000000/\0<(Ju p).length:=by
 obtain⟨g,e,_,c⟩:=d.last;rw[c,C5];have e:∀(n:Nat) (a b:List Rat),(EQ n a b).length<=n+1/\0<(EQ n a b).length:=λn=>by
  induction n with
  |zero=>intro a b;exact⟨Aa _,Nat.one_pos⟩
  |succ n f=>
   intro a b;rw[EQ];split
   . simp
   . have:=f b (YL a b);simp only[Af];omega
 have c:=e (JE (Jc p)).length (JE p) (JE (Jc p));have i:=J0 d.ch.tq;have j:=d.ch.ln;refine⟨?_,c.2⟩;show(EQ _ _ _).length<=_;omega
theorem RD(K:Nat)(v:G)(p:List Rat)(w:E)(h:Je w v p)(L:SrOk K p)(aj:∀i,Sq (GS p i)){y:Nat}{u:Array G}{f2:List Rat->Int}(n:Tells pf pb w (Ju p) f)(o:Tells y u w (Ju p) f2):
 Calls Tryz.prog 46 #[v,.func (.func pf) #[] pb,.func (.func y) #[] u] w λe w'=>e=.returned (.int .i64 ((F3 ((Ju p).map f):Int)-(F3 ((Ju p).map f2):Int)))/\Bl w w':=by
 obtain⟨pa,la,pc,rfl⟩:=h.form;have d:Bl w (w.alloc (B #[D pa la pc] 25)):=Ba w _;obtain⟨W0,z⟩:=ex (w.alloc (B #[D pa la pc] 25));have n0:F W0 w.heap.size 25 (D pa la pc):=by rw[<-z];exact BI w _ _
 rw[z]at d;have Qh:=Ja z;have Qj:=Ja n0;have P:=n0.cell;have HA:=Ja d;obtain⟨m,hm⟩:=ex (p.length-1:Nat);have Qi:(p.length:Int)-1=(m:Int):=by have:=Ah.2 L.p0;omega
 have M:=Ja λ(V:E) (a:Bl W0 V)=>J2 _ p V ((h.below d).below a);rw[Qi]at M;obtain⟨U,q,N,Q⟩:=Dx (λ(V:E) (a:Bl W0 V)=>cC K _ p V ((h.below d).below a) L aj) L.len (λ(V:E) (a:Bl W0 V)=>(⟨n.plc.later (Bt d a),n.ent,n.sg⟩:Tells pf pb V (Ju p) f)) λ(V:E) (a:Bl W0 V)=>(⟨o.plc.later (Bt d a),o.ent,o.sg⟩:Tells y u V (Ju p) f2);obtain⟨S,hS⟩:=ex (Ju p);rw[hS]at U q N Q ⊢;have R:∀(g:List Rat->Int),Tells pf pb w S g\/Tells y u w S g->F3 (S.map g)<=1000000:=λg I=>by
  have r:∀x∈S,-1<=g x/\g x<=1:=by rcases I with I|I<;>exact I.sg
  have t:=(Pa (S.map g) (0,0) (λs hs=>by obtain⟨x,hx,rfl⟩:=C3.1 hs;exact r x hx) DI).2;rw[C5]at t;have:=q.o.1;show(List.foldl Dt (0,0) (S.map g)).1<=_;omega
 rw[hS]at n o;have l1:=R f (Or.inl n);have l2:=R f2 (Or.inr o);obtain⟨n1,ae⟩:=ex (F3 (S.map f));obtain⟨n2,af⟩:=ex (F3 (S.map f2));rw[ae]at l1 ⊢;rw[af]at l2 ⊢;have W:=Ja λ(b g cap Bu l:Nat) (V:E) (a:Bl W0 V) (r:F V b 120 (D (some ⟨g,0,none⟩) S.length cap)) (t:EF V g S.length λj=>S.getD j []) (X:S.length<=cap) (h4:F V Bu 125 (.func (.func 152) #[] #[C (some ⟨b,0,none⟩)])) (h5:F V l 39 (.func (.func pf) #[] pb))=>RC S b g cap Bu l V r t q.o.1 X (N.o V a) h4 h5;have T:=Ja λ(b g cap Bu l:Nat) (V:E) (a:Bl W0 V) (r:F V b 120 (D (some ⟨g,0,none⟩) S.length cap)) (t:EF V g S.length λj=>S.getD j []) (X:S.length<=cap) (h4:F V Bu 125 (.func (.func 152) #[] #[C (some ⟨b,0,none⟩)])) (h5:F V l 39 (.func (.func y) #[] u))=>RC S b g cap Bu l V r t q.o.1 X (Q.o V a) h4 h5;rw[ae]at W;rw[af]at T;clear h L aj n o d z n0 hm Qi hS R ae af q N Q;go_enter Tryz.func46,Tryz.ntmps46
 go_upto_region 1 with fail
 rw[Qh.o];clear Qh;have hq:=BE W0.heap.size W0;go_upto_region 3 with(go_at_call 30;refine(M.o _ hq).mono ?_;clear M;rintro e w5 ⟨rfl,ak⟩;have hq:=Bt hq ak;clear P;have P:=(boxed_below Qj.o hq).cell)
 go_upto_region 4 with(first
  |(go_at_call 105;refine(U.o _ hq).mono ?_;clear U;rintro e w6 ⟨g,cap,rfl,ai,an,hE,am⟩;have hq:=Bt hq am;clear P)
  |(go_at_call 104;refine(cL _ _ _ _).mono ?_;rintro e w7 ⟨b,rfl,c,ah⟩;have hq:=Bt hq ah;have hE:=hE.below ah))
 go_wp2_with(first
  |(go_at_call 106;refine(cM _ _ _ _ _).mono ?_;rintro e w8 ⟨Bu,l,rfl,H,A,ad⟩;have hq:=Bt hq ad;have hE:=hE.below ad;have c:=boxed_below c ad)
  |(go_at_call 54;refine(W.o _ _ _ _ _ _ hq c hE ai H A).mono ?_;clear W H A;rintro e w9 ⟨rfl,k⟩;have hq:=Bt hq k;have hE:=hE.below k;have c:=boxed_below c k)
  |(go_at_call 54;refine(T.o _ _ _ _ _ _ hq c hE ai H A).mono ?_;clear T H A;rintro e w9 ⟨rfl,k⟩;have hq:=Bt hq k;have hE:=hE.below k;have c:=boxed_below c k))
 go_ret;exact⟨rfl,Bt HA.o hq⟩
