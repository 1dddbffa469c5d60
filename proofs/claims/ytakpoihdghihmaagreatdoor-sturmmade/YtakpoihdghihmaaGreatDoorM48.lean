import Derived.Test.YtakpoihdghihmaaGreatDoorM47
set_option maxRecDepth 100000
set_option maxHeartbeats 16000000
namespace Go.Proofs.YtakpoihdghihmaaGreatDoor
section
variable{p q:List Rat}{B a b:Rat}
theorem bH(tp:Jd p=p)(p0:p≠[])(tq:Jd q=q)(q0:q≠[])(d:a<=b):
 (DL (JV (Jv (Jm p q)) a)+DL (JV (Jv (JA p q)) a))+(DL (JV (Jv p) b)+DL (JV (Jv q) b))=(DL (JV (Jv (Jm p q)) b)+DL (JV (Jv (JA p q)) b))+(DL (JV (Jv p) a)+DL (JV (Jv q) a)):=by
 have e:=JS p q;have f:Jm p q≠[]:=YO tp tq p0 q0;have i:=JY p q;have g:=Xg tp tq (Or.inl p0);obtain⟨A,l,j⟩:=Xf a;obtain⟨C,m,k⟩:=Xf b;have c:0<=A+C:=by grind
 have h:=glue (B:=A+C) (F:=λx=>DL (JV (Xl (Jm p q)) x)+DL (JV (Xl (JA p q)) x)) (G:=λx=>DL (JV (Xl p) x)+DL (JV (Xl q) x)) (((((KA e f c).and (KA i g c)).and ((KA tp p0 c).and (KA tq q0 c))).and (bG tp p0 tq q0 c)).mono λx z _ _ _ ⟨⟨⟨n,o⟩,r,s⟩,t⟩=>by
  show(DL (JV (Xl (Jm p q)) x)+DL (JV (Xl (JA p q)) x))+(DL (JV (Xl p) z)+DL (JV (Xl q) z))=(DL (JV (Xl (Jm p q)) z)+DL (JV (Xl (JA p q)) z))+(DL (JV (Xl p) x)+DL (JV (Xl q) x));omega) (j.mono (by grind)) (k.mono (by grind)) d
 have h:(DL (JV (Xl (Jm p q)) a)+DL (JV (Xl (JA p q)) a))+(DL (JV (Xl p) b)+DL (JV (Xl q) b))=(DL (JV (Xl (Jm p q)) b)+DL (JV (Xl (JA p q)) b))+(DL (JV (Xl p) a)+DL (JV (Xl q) a)):=h;have u:=Jx e f d;have v:=Jx i g d;have w:=Jx tp p0 d;have y:=Jx tq q0 d;omega
theorem QP(tp:Jd p=p)(p0:p≠[])(tq:Jd q=q)(q0:q≠[])(x:Rat):
 (DL (EO (Jv (Jm p q)))+DL (EO (Jv (JA p q))))+(DL (JV (Jv p) x)+DL (JV (Jv q) x))=(DL (JV (Jv (Jm p q)) x)+DL (JV (Jv (JA p q)) x))+(DL (EO (Jv p))+DL (EO (Jv q))):=by
 have g:=JS p q;have i:Jm p q≠[]:=YO tp tq p0 q0;have l:=JY p q;have j:=Xg tp tq (Or.inl p0);obtain⟨d,n,_,f1⟩:=GD (YI g i);obtain⟨e,o,_,f2⟩:=GD (YI l j);obtain⟨f,r,_,f3⟩:=GD (YI tp p0);obtain⟨B4,s,_,c⟩:=GD (YI tq q0);obtain⟨X,m,k⟩:=Xf x;obtain⟨y,t⟩:∃y,-(d+e+f+B4+X)=y:=⟨_,rfl⟩;have h:=bH tp p0 tq q0 (a:=y) (b:=x) (by have:=k.1;clear f1 f2 f3 c;grind);rw[f1 y (by clear f1 f2 f3 c;grind),f2 y (by clear f1 f2 f3 c;grind),f3 y (by clear f1 f2 f3 c;grind),c y (by clear f1 f2 f3 c;grind)]at h;exact h
theorem bI(tp:Jd p=p)(p0:p≠[])(tq:Jd q=q)(q0:q≠[]):
 (DL (EO (Jv (Jm p q)))+DL (EO (Jv (JA p q))))+(DL (FH (Jv p))+DL (FH (Jv q)))=(DL (FH (Jv (Jm p q)))+DL (FH (Jv (JA p q))))+(DL (EO (Jv p))+DL (EO (Jv q))):=by
 have e:=JS p q;have f:Jm p q≠[]:=YO tp tq p0 q0;have i:=JY p q;have g:=Xg tp tq (Or.inl p0);obtain⟨b,j,f1,_⟩:=GD (YI e f);obtain⟨c,k,f2,_⟩:=GD (YI i g);obtain⟨d,l,f3,_⟩:=GD (YI tp p0);obtain⟨B4,m,a,_⟩:=GD (YI tq q0);obtain⟨y,n⟩:=ex (b+c+d+B4);have h:=QP tp p0 tq q0 y;rw[f1 y (by clear f1 f2 f3 a;grind),f2 y (by clear f1 f2 f3 a;grind),f3 y (by clear f1 f2 f3 a;grind),a y (by clear f1 f2 f3 a;grind)]at h;exact h
theorem bJ{w:List Rat}(tw:Jd w=w)(w0:w≠[])(mw:JJ w=w)(h:Dk w):DJ w=w:=by
 have y:=Xh tw w0;have d1:Dv (DJ w) w:=GW tw w0;have a:Dv w (DJ w):=Dk.dv y.tw tw w0 h λc b=>(XW tw w0 c).1 b;exact Dv.eq y.tw tw y.mw mw d1 a
theorem bK(r x z:Rat):Yl [-r,1] x z=if x<r/\r<=z\/r<x/\z<=r then 1 else 0:=by
 have e:∀y,ev [-r,1] y=y-r:=λy=>by simp[ev];grind
 unfold Yl;rw[e,e];by_cases h:x<r/\r<=z\/r<x/\z<=r
 . rw[BE h,BE];rcases h with⟨c,d⟩|⟨c,d⟩
   . refine⟨by grind,?_⟩;have:=Rat.mul_nonneg (a:=r-x) (b:=z-r) (by grind) (by grind);grind
   . refine⟨by grind,?_⟩;have:=Rat.mul_nonneg (a:=x-r) (b:=r-z) (by grind) (by grind);grind
 . rw[BC h,BC];rintro⟨c,d⟩;apply h;rcases Yc x r with q|q
   . have q:x<r:=by
      rcases Rat.le_iff_lt_or_eq.1 q with q|q
      . exact q
      . exact absurd (by rw[q];grind) c
     refine Or.inl ⟨q,?_⟩;rcases Yc r z with q2|q2
     . exact q2
     . rcases Rat.le_iff_lt_or_eq.1 q2 with q2|q2
       . have:=Rat.mul_pos (a:=r-x) (b:=r-z) (by grind) (by grind);grind
       . rw[q2];exact Rat.le_refl
   . have q:r<x:=by
      rcases Rat.le_iff_lt_or_eq.1 q with q|q
      . exact q
      . exact absurd (by rw[<-q];grind) c
     refine Or.inr ⟨q,?_⟩;rcases Yc z r with q2|q2
     . exact q2
     . rcases Rat.le_iff_lt_or_eq.1 q2 with q2|q2
       . have:=Rat.mul_pos (a:=x-r) (b:=z-r) (by grind) (by grind);grind
       . rw[<-q2];exact Rat.le_refl
theorem quiet(tp:Jd p=p)(p0:p≠[]){U:Rat->Prop}{e:Rat}(y:0<e)(h:∀x,U x->e<=ev p x*ev p x)(d:0<=B):Sh B λx z=>U x->Yl (DJ p) x z=0:=by
 obtain⟨c,n⟩:=GW tp p0;obtain⟨C,g,l⟩:=Xp c d;obtain⟨f,f0,o⟩:=small (K:=(C*C)*1) (r:=e/2) (Rat.le_of_lt (by have:=Rat.mul_pos g g;grind)) (by grind);obtain⟨f2,i,l1,l2⟩:=I8 f0 (show(0:Rat)<1 by decide);refine(F1 (DJ p) d i).mono λx z t _ _ s m=>?_;refine Xu (Classical.byContradiction λq=>?_);have j:=(s q).1;have k:=h x m;rw[n x]at k;have u:=Ia j;have v:=Ia (l x t);have w:=o f2 l1;have A:=Rat.mul_nonneg (a:=f2*f2-ev (DJ p) x*ev (DJ p) x) (b:=ev c x*ev c x) (by grind) (XM _);have D:=Rat.mul_nonneg (a:=f2*f2) (b:=C*C-ev c x*ev c x) (XM _) (by grind);have E:=Rat.mul_nonneg (a:=C*C) (b:=f2*(1-f2)) (XM _) (Rat.mul_nonneg (by grind) (by grind));grind
theorem bL{P:Rat->Rat->Prop}(p:∀x,P x x)(tr:∀x y z,P x y->P y z->P x z)(h:Sh B P)(c:Wi B a)(j:Wi B b)(f:a<=b):P a b:=by
 obtain⟨d,d0,h⟩:=h;obtain⟨n,m⟩:=steps d0 a b
 have:∀(n:Nat) (a:Rat),Wi B a->a<=b->b-a<=(n:Rat)*d->P a b:=by
  intro n;induction n with
  |zero=>
   intro a c f g;have e:a=b:=by
    have:((0:Nat):Rat)=0:=rfl
    rw[this]at g;grind
   rw[e];exact p _
  |succ n o=>
   intro a c f g;have l:((n+1:Nat):Rat)=(n:Rat)+1:=by rw[Rat.natCast_add];rfl
   rw[l]at g;rcases Yc (b-a) d with i|i
   . exact h a b c j f i
   . have k:Wi B (a+d):=⟨by have:=c.1;grind,by have:=j.2;grind⟩;exact tr _ _ _ (h a (a+d) c k (by grind) (by grind)) (o (a+d) k (by grind) (by grind))
 exact this n a c f m
theorem bM(tp:Jd p=p)(p0:p≠[])(a:0<=B):Sh B λx z=>DL (JV (Jv p) x)=DL (JV (Jv p) z)+Yl (DJ p) x z:=by
 refine(KA tp p0 a).mono λx z _ _ b h=>?_;show DL (JV (Jv p) x)=DL (JV (Jv p) z)+Yl (DJ p) x z;have:=Jx tp p0 b;omega
theorem bN{u v:List Rat}(f:Jd v=v)(d:Dk v)(h:Dv u v)(b:0<=B):Sh B λx z=>Yl u x z<=Yl v x z:=by
 obtain⟨e,g,a⟩:=h.some f;have c:DP u e:=Dk.parts (by rw[<-a];exact d);refine(LF c b).mono λx z _ _ _ h=>?_;show Yl u x z<=Yl v x z;rw[a,h];omega
def nA(p:List Rat):Int:=(DL (EO (Jv p)):Int)-(DL (FH (Jv p)):Int)
def nB(p:List Rat)(x:Rat):Int:=(DL (EO (Jv p)):Int)-(DL (JV (Jv p) x):Int)
def NH(p:Prop)[Decidable p]:Int:=if p then 1 else 0
section
variable {p q:List Rat} (tp:Jd p=p) (p0:p≠[]) (tq:Jd q=q) (q0:q≠[])
theorem NI (tp:Jd p=p) (p0:p≠[]) (tq:Jd q=q) (q0:q≠[]):nA (Jm p q)=nA p+nA q-nA (JA p q):=by
 have h:=bI tp p0 tq q0;unfold nA;omega
theorem NJ (tp:Jd p=p) (p0:p≠[]) (tq:Jd q=q) (q0:q≠[])(x:Rat):nB (Jm p q) x=nB p x+nB q x-nB (JA p q) x:=by
 have h:=QP tp p0 tq q0 x;unfold nB;omega
end
variable{R p:List Rat}{r:Rat}
theorem NK(tp:Jd p=p)(p0:p≠[]){F:Rat->Nat}(h:∀ {B:Rat},0<=B->Sh B λx z=>F x+Yl (DJ p) x z=F z){u d:Nat}{X:Rat}(j:∀x,X<=x->F x=u)(f:∀x,x<=-X->F x=d):nA p=(u:Int)-(d:Int)/\∀x,nB p x=(F x:Int)-(d:Int):=by
 have g:∀a b,a<=b->DL (JV (Jv p) a)+F a=DL (JV (Jv p) b)+F b:=λa b r=>by
  obtain⟨A,s,m⟩:=Xf a;obtain⟨C,v,n⟩:=Xf b;have l:0<=A+C:=by grind
  exact bL (P:=λx z=>DL (JV (Jv p) x)+F x=DL (JV (Jv p) z)+F z) (λ_=>rfl) (λ_ _ _ e c=>e.trans c)
   (((bM tp p0 l).and (h l)).mono λx z _ _ _ ⟨e,c⟩=>by show _=_;omega) (m.mono (by grind)) (n.mono (by grind)) r
 obtain⟨B,t,e,c⟩:=GD (YI tp p0);obtain⟨i,w,o⟩:=Xf X;have D:=o.2;refine⟨?_,λx=>?_⟩
 . have:=g (-(B+i)) (B+i) (by clear e c g h j f;grind);rw[e (B+i) (by clear e c g h j f;grind),c (-(B+i)) (by clear e c g h j f;grind),j (B+i) (by clear e c g h j f;grind),f (-(B+i)) (by clear e c g h j f;grind)]at this;unfold nA;omega
 . obtain⟨k,y,q⟩:=Xf x;have E:=q.1;have:=g (-(B+i+k)) x (by clear e c g h j f;grind);rw[c (-(B+i+k)) (by clear e c g h j f;grind),f (-(B+i+k)) (by clear e c g h j f;grind)]at this;unfold nB;omega
theorem LG(r:Rat):Jd [-r,1]=[-r,1]/\JJ [-r,1]=[-r,1]/\DJ [-r,1]=[-r,1]:=by
 have t:Jd [-r,1]=[-r,1]:=Xz (Or.inr (by show(1:Rat)≠0;decide));have m:JJ [-r,1]=[-r,1]:=Xo (Y9 _) t λx=>by
  rw[IJ];show _*(1/(1:Rat))=_;grind
 refine⟨t,m,bJ t Z m ⟨[],[1],λx=>?_⟩⟩;rw[Jr,Y7];simp only[ev,dv];grind
theorem bO(r:Rat):nA [-r,1]=1/\∀x,nB [-r,1] x=NH (r<=x):=by
 obtain⟨t,m,f⟩:=LG r;obtain⟨e,k,c⟩:=Xf r;have o:=c.1;have p:=c.2;obtain⟨g,i⟩:=NK t Z (F:=λx=>if r<=x then 1 else 0) (λl=>Sh.all λx z _ _ n=>by
  show(if r<=x then 1 else 0)+_=(if r<=z then 1 else 0);rw[f,bK];by_cases a:r<=x
  . rw[BE a,BE (show r<=z by grind),BC];grind
  . rw[BC a];by_cases b:r<=z
    . rw[BE b,BE (Or.inl ⟨by grind,b⟩)]
    . rw[BC b,BC];grind) (u:=1) (d:=0) (X:=e+1) (λx j=>BE (by grind)) λx j=>BC (by grind)
 refine⟨g,λx=>?_⟩;rw[i x];unfold NH;split<;>rfl
theorem LH:nA [1]=0/\∀x,nB [1] x=0:=by
 have t:Jd [(1:Rat)]=[1]:=DB
 refine NK t Z (F:=λ_=>0) (λb=>Sh.all λx z _ _ _=>?_) (u:=0) (d:=0) (X:=0) (λ_ _=>rfl) (λ_ _=>rfl) |> λh=>⟨by rw[h.1];rfl,λx=>by rw[h.2 x];rfl⟩
 show 0+Yl (DJ [1]) x z=0;have a:=Xh t Z;have:=(a.dv.len a.tw a.tR a.R0).1;rw[Ps t]at this;rw[Xu (QA a.tw a.w0 (by simpa using this) x z)]
theorem QQ(tp:Jd p=p)(r:Rat):JA p [-r,1]=if ev p r=0 then [-r,1]else [1]:=by
 obtain⟨t,m,_⟩:=LG r;have e:=LR p r;have a:∀x,ev [-r,1] x=x-r:=λx=>by simp only[ev];grind
 by_cases h:ev p r=0
 . rw[BE h];have d:Dv [-r,1] p:=⟨FJ p r,λx=>by rw[e x,h,a];grind⟩;obtain⟨_,b,_⟩:=Yo tp t;exact Dv.eq (JY _ _) t (XS tp t) m b (IK tp t d (Dv.refl _))
 . rw[BC h];refine aD tp t ⟨[1/ev p r],DK (-(1/ev p r)) (FJ p r),λx=>?_⟩;rw[Jr,JG,a,e x]
   have:1/ev p r*ev p r=1:=Aq h
   grind
structure Made(p:List Rat)(R:List Rat):Prop where
 tp:Jd p=p
 p0:p≠[]
 all:nA p=(R.length:Int)
 bel:∀x,nB p x=((R.filter λr=>decide (r<=x)).length:Int)
 rt:∀r,ev p r=0↔r∈R
theorem Made.one:Made [1] [] where
 tp:=DB
 p0:=Z
 all:=LH.1
 bel:=λx=>LH.2 x
 rt:=λr=>by rw[Jr];simp
theorem Made.old(h:Made p R)(a:r∈R):Made (Jm p [-r,1]) R:=by
 obtain⟨t,m,_⟩:=LG r;have g:=QQ h.tp r;rw[BE ((h.rt r).2 a)]at g;refine⟨JS _ _,YO h.tp t h.p0 Z,?_,λx=>?_,λx=>?_⟩
 . rw[NI h.tp h.p0 t Z,g,h.all];omega
 . rw[NJ h.tp h.p0 t Z,g,h.bel];omega
 . rw[Jh];constructor
   . intro e;rcases A6.1 e with e|e
     . exact(h.rt x).1 e
     . have:x=r:=by simp only[ev]at e;grind
       rw[this];exact a
   . intro e;rw[(h.rt x).2 e];grind
theorem Made.new(h:Made p R)(a:r ∉ R):Made (Jm p [-r,1]) (R++[r]):=by
 obtain⟨t,m,_⟩:=LG r;have g:=QQ h.tp r;rw[BC λe=>a ((h.rt r).1 e)]at g;obtain⟨l1,l2⟩:=bO r;refine⟨JS _ _,YO h.tp t h.p0 Z,?_,λx=>?_,λx=>?_⟩
 . rw[NI h.tp h.p0 t Z,g,h.all,l1,LH.1,Ao];simp
 . rw[NJ h.tp h.p0 t Z,g,h.bel,l2,LH.2,List.filter_append,Ao];unfold NH;by_cases q:r<=x
   . rw[BE q];simp[q]
   . rw[BC q];simp[q]
 . rw[Jh,Cy,List.mem_singleton];constructor
   . intro e;rcases A6.1 e with e|e
     . exact Or.inl ((h.rt x).1 e)
     . exact Or.inr (by simp only[ev]at e;grind)
   . rintro(e|e)
     . rw[(h.rt x).2 e];grind
     . rw[e];simp only[ev];grind
theorem LI(c:Rat):Jd [c,0,1]=[c,0,1]/\∀x,ev [c,0,1] x=c+x*x:=by
 refine⟨Xz (Or.inr (by show(1:Rat)≠0;decide)),λx=>?_⟩;simp only[ev];grind
theorem Made.quad(h:Made p R){c:Rat}(l:0<c):Made (Jm p [c,0,1]) R:=by
 obtain⟨t,e⟩:=LI c;obtain⟨f,o⟩:∃f,[c,0,1]=f:=⟨_,rfl⟩;have f0:f≠[]:=by rw[<-o];simp
 rw[o]at t e ⊢;have n:∀x,c*c<=ev f x*ev f x:=λx=>by
  rw[e];have m:=XM x;have E:=Rat.mul_nonneg (a:=c) (b:=x*x) (by grind) m;have G:=Rat.mul_nonneg m m;grind
 have D:∀ {B:Rat},0<=B->Sh B λx z=>Yl (DJ f) x z=0:=λk=>(quiet t f0 (U:=λ_=>True) (e:=c*c) (Rat.mul_pos l l) (λx _=>n x) k).mono λx z _ _ _ h=>h trivial;have none:∀ {g:List Rat},Jd g=g->g≠[]->Dv g f->nA g=0/\∀x,nB g x=0:=fun {g} j i y=>by
  have r:=Xh t f0;have s:Dv (DJ g) (DJ f):=Dk.dv r.tw (Xh j i).tw (Xh j i).w0 (IL j i) λd h=>((XW t f0 d).1 h).of_dv ((GW j i).trans y);have:=NK j i (F:=λ_=>0) (λk=>((D k).and (bN r.tw (IL t f0) s k)).mono λx z _ _ _ ⟨H,I⟩=>by
   show 0+Yl (DJ g) x z=0;omega) (u:=0) (d:=0) (X:=0) (λ_ _=>rfl) λ_ _=>rfl
  exact⟨by rw[this.1];rfl,λx=>by rw[this.2 x];rfl⟩
 obtain⟨A,C⟩:=none t f0 (Dv.refl f);obtain⟨v,w⟩:=none (JY p f) (Xg h.tp t (Or.inl h.p0)) (Yo h.tp t).2.1;refine⟨JS _ _,YO h.tp t h.p0 f0,?_,λx=>?_,λx=>?_⟩
 . rw[NI h.tp h.p0 t f0,v,A,h.all];omega
 . rw[NJ h.tp h.p0 t f0,w,C,h.bel];omega
 . rw[Jh,<-h.rt x];constructor
   . intro q;rcases A6.1 q with q|q
     . exact q
     . have:=n x;rw[q]at this;have:=Rat.mul_pos l l;grind
   . intro q;rw[q];grind
end
section
variable {p:List Rat} (tp:Jd p=p) (p0:p≠[])
end
theorem Made.counts{p R:List Rat}(h:Made p R)(x:Rat):Hj p=(R.length:Int)/\FV p x=((R.filter λr=>decide (r<=x)).length:Int):=by
 have a:=h.all;have b:=h.bel x;unfold nA at a;unfold nB at b;unfold Hj FV;rw[BC h.p0,BC h.p0];exact⟨a,b⟩
namespace M3
open Go.RowKit Go.Shelf
attribute [local go_sem] Oper.semAt_some
end M3
section
open Go.RowKit Go.Shelf
structure Shn(f s:List Rat)(A M:Nat)(a b:List Rat):Prop where
 ta:Jd a=a
 tb:Jd b=b
 ca:Cd (A+1) a
 cb:Cd M b
 lb:Ln A b
 la:a.length<=f.length
 ll:b.length<=f.length
 eu:Eu f (Yj s) a (Yj b)
structure RwOk(J K:Nat)(p:List Rat):Prop where
 fr:M3.FrOk J p
 p0:p≠[]
 cf:Cd K (DJ p)
 cs:Cd K (Jc (DJ p))
 ln:(DJ p).length<=1000
 fit:4*(((DJ p).length+3)*(DV K (DJ p) (Jc (DJ p))+2))<=1000000000
section
variable {J K:Nat} {p a b:List Rat}
end
end
namespace M3
open Go.RowKit Go.Shelf
attribute [local go_sem] Oper.semAt_some
