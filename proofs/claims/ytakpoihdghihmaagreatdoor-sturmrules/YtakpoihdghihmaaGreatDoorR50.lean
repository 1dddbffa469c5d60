import Derived.Test.YtakpoihdghihmaaGreatDoorR49
open Go renaming undef->E,World->H
open Go.Value renaming slice->F,bool->G,string->I
set_option maxRecDepth 100000
set_option maxHeartbeats 16000000
namespace Go.Proofs.YtakpoihdghihmaaGreatDoor
section
variable{R p q w y:List Rat}{N:Nat}{B a b c:Rat}{P:Rat->Rat->Prop}
theorem gI(p:∀x,P x x)(tr:∀x y z,P x y->P y z->P x z)(h:Sh B P)(c:Wi B a)(j:Wi B b)(f:a<=b):P a b:=by
 obtain⟨d,d0,h⟩:=h;obtain⟨n,m⟩:=steps d0 a b
 have:∀(n:Nat) (a:Rat),Wi B a->a<=b->b-a<=(n:Rat)*d->P a b:=by
  intro n;induction n with
  |zero=>
   intro a c f g;have e:a=b:=by
    have:((0:Nat):Rat)=0:=rfl
    rw[this]at g;grind
   rw[e];exact p _
  |succ n o=>
   intro a c f g;have l:((n+1:Nat):Rat)=(n:Rat)+1:=by rw[Rat.natCast_add];rfl
   rw[l]at g;rcases J9 (b-a) d with i|i
   . exact h a b c j f i
   . have k:Wi B (a+d):=⟨by have:=c.1;grind,by have:=j.2;grind⟩;exact tr _ _ _ (h a (a+d) c k (by grind) (by grind)) (o (a+d) k (by grind) (by grind))
 exact this n a c f m
theorem MJ(tp:Jd p=p)(p0:p≠[])(a:0<=B):Sh B λx z=>DO (JQ (Jy p) x)=DO (JQ (Jy p) z)+JS (DK p) x z:=by
 refine(fK tp p0 a).mono λx z _ _ b h=>?_;show DO (JQ (Jy p) x)=DO (JQ (Jy p) z)+JS (DK p) x z;have:=eU tp p0 b;omega
theorem gJ(w y:List Rat)(x:Rat):EB w y x<=1:=by unfold EB;split<;>omega
theorem SY(tp:Jd p=p)(hl:1<p.length)(i:a<=b):
 DO (JQ (Jy p) a)+DO (JQ (Jy (Jb p)) b)<=DO (JQ (Jy p) b)+DO (JQ (Jy (Jb p)) a)+1:=by
 have p0:p≠[]:=λe=>by rw[e]at hl;simp at hl
 have j:Jb p≠[]:=λe=>by have:=X6 tp e;omega
 obtain⟨A,k,f⟩:=H7 a;obtain⟨C,l,g⟩:=H7 b;have c:0<=A+C:=by grind
 have:=gI (B:=A+C) (P:=λx z=>DO (JQ (Jy p) x)+EB (DK p) (Dc p) x+DO (JQ (Jy (Jb p)) z)<=DO (JQ (Jy p) z)+EB (DK p) (Dc p) z+DO (JQ (Jy (Jb p)) x))
  (λ_=>Aa _) (λ_ _ _ _ _=>by omega) (((MJ tp p0 c).and ((MJ (Jq p) j c).and (gH tp hl c))).mono λx z _ _ _ ⟨d,m,n⟩=>by
   show _<=_;omega) (f.mono (by grind)) (g.mono (by grind)) i
 have d:=gJ (DK p) (Dc p) b;omega
theorem gK(tp:Jd p=p)(hl:1<p.length):
 DO (Ei (Jy p))+DO (X9 (Jy (Jb p)))<=DO (X9 (Jy p))+DO (Ei (Jy (Jb p)))+1:=by
 have p0:p≠[]:=λe=>by rw[e]at hl;simp at hl
 have i:Jb p≠[]:=λe=>by have:=X6 tp e;omega
 obtain⟨B,j,c,d⟩:=MD (Kv tp p0);obtain⟨C,k,f,g⟩:=MD (Kv (Jq p) i);have:=SY tp hl (a:=-(B+C)) (b:=B+C) (by clear c d f g;grind);rwa[c (B+C) (by clear c d f g;grind),d (-(B+C)) (by clear c d f g;grind),f (B+C) (by clear c d f g;grind),g (-(B+C)) (by clear c d f g;grind)]at this
def Ii(w y:List Rat):List Rat:=Jo w (Jz w (JD y (Jb w)))
def KH(w y:List Rat):List Rat:=Jo (JD y (Jb w)) (Jz w (JD y (Jb w)))
def mJ:Nat->List Rat->List Rat->Rat->Rat->Nat
 |0,_,_,_,_=>0
 |n+1,w,y,x,z=>JS w x z+mJ n (Ii w y) (KH w y) x z
theorem Yun.next(h:Yun R w y):Yun (Jo R w) (Ii w y) (KH w y):=h.step.2.2.1
theorem Yun.sqf(h:Yun R w y):E9 w:=MA _ _ _ _ (Aa _) h
theorem Yun.rest(h:Yun R w y):(∀x,ev R x=ev w x*ev (Jo R w) x)/\(∀x,ev (Jb R) x=ev y x*ev (Jo R w) x)/\∀d,Dv d R->Dv d (Jb R)->Dv d (Jo R w):=by
 have e:=h.step.2.2.2.1;have a:∀x,ev R x=ev w x*ev (Jo R w) x:=λx=>by
  have:=Jg w (Jo R w) x;rwa[<-e]at this
 have b:∀x,ev (Jb R) x=ev y x*ev (Jo R w) x:=λx=>by
  have:=Yt (g:=w) (u:=Jb R) (v:=Jr y (Jo R w)) h.tw h.w0 (λx=>by
   rw[Jg,<-h.eq x,a x];grind) x
  rwa[Jg]at this
 refine⟨a,b,λd c f=>?_⟩;obtain⟨u,v,j⟩:=h.cop;refine c.comb f u v λx=>?_;have i:=j x;rw[a,b]
 have:ev (Jo R w) x=(ev u x*ev w x+ev v x*ev y x)*ev (Jo R w) x:=by rw[i,Cn]
 rw[this];grind
theorem gM{u v:List Rat}(f:Jd v=v)(d:E9 v)(h:Dv u v)(b:0<=B):Sh B λx z=>JS u x z<=JS v x z:=by
 obtain⟨e,g,a⟩:=h.some f;have c:DU u e:=E9.parts (by rw[<-a];exact d);refine(Oc c b).mono λx z _ _ _ h=>?_;show JS u x z<=JS v x z;rw[a,h];omega
theorem gN{a b:List Rat}(tb:Jd b=b)(h:Dv a b):∀d,Dv d a->Dv d (Jb a)->Dv d b/\Dv d (Jb b):=by
 obtain⟨c,i,e⟩:=h.some tb;intro d f g;refine⟨f.trans h,g.comb f c (Jb c) λx=>?_⟩;have:=Yo a c x;rw[<-e]at this;rw[this];grind
theorem gO(k:0<=B):∀(n:Nat) (R w y d b e:List Rat),Yun R w y->Yun d b e->Dv R d->Sh B λx z=>mJ n w y x z<=mJ n b e x z:=by
 intro n;induction n with
 |zero=>intro R w y d b e _ _ _;exact Sh.all λ_ _ _ _ _=>Aa _
 |succ n m=>
  intro R w y d b e h a g;have j:Dv w b:=E9.dv a.tw h.tw h.w0 h.sqf λc l=>(SF _ _ _ _ (Aa _) a c l).of_dv (h.dv.trans g);have f:=h.rest;have i:Dv (Jo R w) (Jo d b):=by
   have:=gN a.tR g (Jo R w) ⟨w,λx=>by rw[f.1 x];grind⟩ ⟨y,λx=>by rw[f.2.1 x];grind⟩;exact a.rest.2.2 _ this.1 this.2
  refine((gM a.tw a.sqf j k).and (m _ _ _ _ _ _ h.next a.next i)).mono λx z _ _ _ ⟨o,p⟩=>?_;show JS w x z+_<=JS b x z+_;omega
theorem SZ:∀(n:Nat) (R w y:List Rat),Yun R w y->w.length<=1->∀x z,mJ n w y x z=0:=by
 intro n;induction n with
 |zero=>intro R w y _ _ x z;rfl
 |succ n a=>
  intro R w y h hl x z;rw[mJ,YI (XD h.tw h.w0 hl x z),a _ _ _ h.next ?_ x z];have d:Dv (Ii w y) w:=by
   have:=h.step.2.2.2.2.2;exact⟨Jz w (JD y (Jb w)),λx=>by
    have e:=Jg (Jz w (JD y (Jb w))) (Jo w (Jz w (JD y (Jb w)))) x;rw[<-this]at e;rw[e];show _=ev (Jo w (Jz w (JD y (Jb w)))) x*_;grind⟩
  have:=(d.len h.next.tw h.tw h.w0).1;omega
theorem Hu(f:a≠0)(g:b≠0):a*b<0↔¬(a<0↔b<0):=by
 have pos:∀ {c:Rat},c≠0->¬c<0->0<c:=fun {c} d e=>by
  rcases Rat.le_iff_lt_or_eq.1 (Rat.not_lt.1 e)with h|h
  . exact h
  . exact absurd h.symm d
 by_cases d:a<0<;>by_cases e:b<0
 . have:=Rat.mul_pos (a:=-a) (b:=-b) (by grind) (by grind);simp[d,e];grind
 . have:=Rat.mul_pos (a:=-a) (b:=b) (by grind) (pos g e);simp[d,e];grind
 . have:=Rat.mul_pos (a:=a) (b:=-b) (pos f d) (by grind);simp[d,e];grind
 . have:=Rat.mul_pos (pos f d) (pos g e);simp[d,e];grind
theorem gP:∀(n:Nat) (R w y:List Rat),R.length<=n->Yun R w y->∀x z,ev R x≠0->ev R z≠0->(mJ n w y x z%2=1↔ev R x*ev R z<0):=by
 intro n;induction n with
 |zero=>intro R w y l h;exact absurd (Az.1 O) h.R0
 |succ n r=>
  intro R w y l h x z g j;obtain⟨b,v,_⟩:=h.rest;by_cases hl:w.length<=1
  . rw[SZ _ _ _ _ h hl x z];obtain⟨d,k⟩:=Ig h.tw h.w0 hl;have o:Dv R [1]:=KG h.tR h.R0 ⟨Jr d y,λx=>by
     have A:=h.eq x;have f:=k x;rw[Jm]at f;rw[Jg]
     have:ev (Jb R) x=(ev w x*ev d x)*ev (Jb R) x:=by rw[<-f,Cn]
     rw[this];grind⟩
    have m:=XD h.tR h.R0 (o.len h.tR DF DF).1 x z;unfold DR at m;constructor
    . intro q;omega
    . intro q;grind
  . have s:(Jo R w).length<=n:=by
     have:=JA h.tw h.next.tR h.w0 h.next.R0;rw[<-h.step.2.2.2.1]at this;omega
    have nx:ev w x≠0/\ev (Jo R w) x≠0:=⟨λe=>g (by rw[b,e];grind),λe=>g (by rw[b,e];grind)⟩;have c:ev w z≠0/\ev (Jo R w) z≠0:=⟨λe=>j (by rw[b,e];grind),λe=>j (by rw[b,e];grind)⟩;have i:=r _ _ _ s h.next x z nx.2 c.2;rw[mJ];have p:JS w x z=if ev w x*ev w z<0 then 1 else 0:=by
     unfold JS;by_cases q:ev w x*ev w z<0
     . rw[BC q,BC ⟨nx.1,Rat.le_of_lt q⟩]
     . rw[BA q,BA];rintro⟨_,q2⟩;rcases Rat.le_iff_lt_or_eq.1 q2 with a|a
       . exact q a
       . rcases AM.1 a with a|a
         . exact nx.1 a
         . exact c.1 a
    have e:ev R x*ev R z=(ev w x*ev w z)*(ev (Jo R w) x*ev (Jo R w) z):=by rw[b,b];grind
    have t:ev w x*ev w z≠0:=λq=>by
     rcases AM.1 q with q|q
     . exact nx.1 q
     . exact c.1 q
    have u:ev (Jo R w) x*ev (Jo R w) z≠0:=λq=>by
     rcases AM.1 q with q|q
     . exact nx.2 q
     . exact c.2 q
    rw[p,e,Hu t u,<-i];by_cases q:ev w x*ev w z<0
    . rw[BC q];simp only[q,true_iff];omega
    . rw[BA q];simp only[q,false_iff,AY];omega
def dR:Nat->List Rat->List (List Rat)
 |0,p=>[p]
 |n+1,p=>p::dR n (Jb p)
def GC:Nat->List Rat->Rat->Prop
 |0,p,x=>ev p x≠0
 |n+1,p,x=>ev p x≠0/\GC n (Jb p) x
theorem GC.head:∀ {n:Nat} {p:List Rat} {x:Rat},GC n p x->ev p x≠0
 |0,_,_,h=>h
 |_+1,_,_,h=>h.1
theorem Sa:∀(n:Nat) (p:List Rat),∃t,dR n p=p::t
 |0,_=>⟨_,rfl⟩
 |_+1,_=>⟨_,rfl⟩
def dP:Nat->List Rat->List Rat
 |0,p=>p
 |n+1,p=>Jr p (dP n (Jb p))
theorem Sb:∀(n:Nat) (p:List Rat) (x:Rat),ev (dP n p) x≠0->GC n p x:=by
 intro n;induction n with
 |zero=>intro p x h;exact h
 |succ n a=>
  intro p x h;rw[dP,Jg]at h;exact⟨λe=>h (by rw[e];grind),a _ _ λe=>h (by rw[e];grind)⟩
theorem MK(n:Nat)(p:List Rat)(x:Rat)(h:GC (n+1) p x):DO (JQ (dR (n+1) p) x)=(if ev p x*ev (Jb p) x<0 then 1 else 0)+DO (JQ (dR n (Jb p)) x):=by
 obtain⟨t,a⟩:=Sa n (Jb p);rw[dR,a,JL,JL,IB h.2.head,IA h.2.head]
theorem gT{d:Rat}(g:a≠0)(i:b≠0)(j:c≠0)(k:d≠0){u v:Nat}(h:(u+v)%2=1↔c*d<0):
 (((if a*c<0 then 1 else 0)+u)+((if b*d<0 then 1 else 0)+v))%2=1↔a*b<0:=by
 rw[Hu j k]at h;rw[Hu g i];have e:=Hu g j;have f:=Hu i k;by_cases l:a<0<;>by_cases m:b<0<;>by_cases n:c<0<;>by_cases o:d<0<;>simp only[l,m,n,o,iff_true,iff_false,not_true,not_false_iff]at h e f ⊢<;>simp only[e,f,if_true,if_false]<;>omega
theorem gU:∀(n:Nat) (p:List Rat),Jd p=p->p.length=n+1->∀x z,GC n p x->GC n p z->((DO (JQ (dR n p) x)+DO (JQ (dR n p) z))%2=1↔ev p x*ev p z<0):=by
 intro n;induction n with
 |zero=>
  intro p tp hl x z a b;have d:=XD tp (λe=>by rw[e]at hl;simp at hl) O x z;unfold DR at d;have c:∀x,GC 0 p x->DO (JQ (dR 0 p) x)=0:=λx a=>by
   rw[dR,JL,IA a];rfl
  rw[c x a,c z b];constructor
  . intro q;omega
  . intro q;grind
 |succ n f=>
  intro p tp hl x z a b;have i:=f (Jb p) (Jq p) (by have:=(X7 tp O).1;omega) x z a.2 b.2;rw[MK n p x a,MK n p z b];exact gT a.1 b.1 a.2.head b.2.head i
theorem Sc(tp:Jd p=p)(p0:p≠[])(x z:Rat):(ev p x≠0->ev (Jp p) x≠0)/\(ev p x*ev p z<0↔ev (Jp p) x*ev (Jp p) z<0):=by
 obtain⟨g,d⟩:=Ih tp p0;have e:∀x,ev p x=ev (Jp p) x*cf p (p.length-1):=λx=>by
  conv=>lhs;rw[d]
  rw[JJ]
 generalize cf p (p.length-1)=c at *;have c2:0<c*c:=by
  have:=Yr (f:=[c]) g (λx=>Jm _ x) 0 0;unfold DR at this;rwa[Jm]at this
 refine⟨λh q=>h (by rw[e,q];grind),?_⟩;rw[e,e,show ev (Jp p) x*c*(ev (Jp p) z*c)=(ev (Jp p) x*ev (Jp p) z)*(c*c)by grind];generalize ev (Jp p) x*ev (Jp p) z=t;constructor
 . intro h;rcases J9 0 t with q|q
   . have:=Rat.mul_nonneg q (Rat.le_of_lt c2);grind
   . rcases Rat.le_iff_lt_or_eq.1 q with q|q
     . exact q
     . rw[q]at h;grind
 . intro h;have:=Rat.mul_pos (a:=-t) (b:=c*c) (by grind) c2;grind
theorem Sd{k:Rat}(b:0<k)(h:k<=a):0<a:=by grind
theorem gV(g:0<=B):∀(n:Nat) (p:List Rat),Jd p=p->p.length=n+1->Sh B λx z=>GC n p x->GC n p z->∃k,DO (JQ (dR n p) x)=DO (JQ (dR n p) z)+mJ (n+1) (DK p) (Dc p) x z+2*k:=by
 intro n;induction n with
 |zero=>
  intro p tp hl;have p0:p≠[]:=λe=>by rw[e]at hl;simp at hl
  refine Sh.all λx z _ _ _ b c=>⟨0,?_⟩;have r:∀x,GC 0 p x->DO (JQ (dR 0 p) x)=0:=λx b=>by
   rw[dR,JL,IA b];rfl
  have a:=Xo tp p0;have:=(a.dv.len a.tw a.tR a.R0).1;rw[YY tp]at this;rw[r x b,r z c,SZ _ _ _ _ a O]
 |succ n U=>
  intro p tp hl;have p0:p≠[]:=λe=>by rw[e]at hl;simp at hl
  have v:=(X7 tp O).1;have ts:=Jq p;have D:Jb p≠[]:=λe=>by rw[e]at v;simp at v;omega
  have a:=Xo tp p0;have P:=Xo ts D;have dd:Dv (Jo (Jp p) (DK p)) (Jp (Jb p)):=by
   refine Dv.trans ?_ (Oe ts D).2;obtain⟨_,i⟩:=Ih tp p0;refine⟨DN (cf p (p.length-1)) (Dc p),λx=>?_⟩;have d:=MB (cf p (p.length-1)) (Jp p) x;rw[<-i]at d;rw[d,a.rest.2.1,JJ];grind
  obtain⟨k,u,sg⟩:=L4 _ _ _ _ (Aa _) a g;refine(((U (Jb p) ts O).and (gO g (n+1) _ _ _ _ _ _ a.next P dd)).and ((sg.and (Ob a g)).and (Oh a.sqf g))).mono λx z _ _ Q ⟨⟨s,t⟩,⟨R,S⟩,T⟩ b c=>?_;obtain⟨k1,s⟩:=s b.2 c.2;have L:=gU (n+1) p tp hl x z b c;obtain⟨w,V⟩:=Sc tp p0 x z;obtain⟨A,_⟩:=Sc tp p0 z x;have K:=gP (n+2) (Jp p) (DK p) (Dc p) (by rw[YY tp];omega) a x z (w b.1) (A c.1);rw[V,<-K]at L;have l:=MK n p x b;have cz:=MK n p z c;have j:=a.rest.1;have wx:ev (DK p) x≠0:=λe=>w b.1 (by rw[j,e];grind);have wz:ev (DK p) z≠0:=λe=>A c.1 (by rw[j,e];grind);have fin:DO (JQ (dR (n+1) p) z)+mJ (n+2) (DK p) (Dc p) x z<=DO (JQ (dR (n+1) p) x)+1->∃k,DO (JQ (dR (n+1) p) x)=DO (JQ (dR (n+1) p) z)+mJ (n+1+1) (DK p) (Dc p) x z+2*k:=λh=>by
   refine⟨(DO (JQ (dR (n+1) p) x)-(DO (JQ (dR (n+1) p) z)+mJ (n+2) (DK p) (Dc p) x z))/2,?_⟩;show _=_+mJ (n+2) _ _ _ _+_;omega
  apply fin;have t:mJ (n+1) (Ii (DK p) (Dc p)) (KH (DK p) (Dc p)) x z<=mJ (n+1) (DK (Jb p)) (Dc (Jb p)) x z:=t;have o:mJ (n+2) (DK p) (Dc p) x z=JS (DK p) x z+mJ (n+1) (Ii (DK p) (Dc p)) (KH (DK p) (Dc p)) x z:=rfl;by_cases st:DR (DK p) x z
  . rw[o,YI st,AY,l,cz];split<;>split<;>omega
  . have M:x<z:=by
     rcases Rat.le_iff_lt_or_eq.1 Q with h|h
     . exact h
     . subst h;refine absurd ?_ st;exact Yr (f:=[ev (DK p) x]) wx (λy=>Jm _ y) 0 0 |> λh=>by
        unfold DR at h ⊢;rwa[Jm]at h
    have sd:=T.resolve_left st;obtain⟨X,s2⟩:=R st;obtain⟨C,_⟩:=SX (S st M) (Rat.not_lt.1 st) sd (Sd u X) (Sd u s2);have N:0<ev (DK p) z*ev (Dc p) z:=by
     unfold EB at C;by_cases q:0<ev (DK p) z*ev (Dc p) z\/ev (DK p) z=0
     . rcases q with q|q
       . exact q
       . exact absurd q wz
     . rw[BA q]at C;omega
    have W:¬ev p z*ev (Jb p) z<0:=by
     obtain⟨_,i⟩:=Ih tp p0;have m:=MB (cf p (p.length-1)) (Jp p) z;rw[<-i]at m;have d:ev p z=ev (Jp p) z*cf p (p.length-1):=by
      conv=>lhs;rw[i]
      rw[JJ]
     rw[m,d,a.rest.2.1,j];have:=Rat.mul_nonneg (Rat.le_of_lt N) (Ec (cf p (p.length-1)*ev (Jo (Jp p) (DK p)) z));grind
    have j1:JS (DK p) x z<=1:=by unfold JS;split<;>omega
    rw[l,cz,BA W,o];split<;>omega
theorem gW:∀(n:Nat) (p:List Rat),p.length<=n->∀ {u v:Rat},u<v->(∀x,u<x->x<v->ev p x=0)->∀x,ev p x=0:=by
 intro n;induction n with
 |zero=>
  intro p hl u v _ _ x;rw[Az.1 (show p.length=0 by omega)];rfl
 |succ n f=>
  intro p hl u v k h x;obtain⟨m,j⟩:=ex ((u+v)/2);have g:u<m:=by grind
  have c:m<v:=by grind
  have e:=MT p m;rw[h m g c]at e;rw[e x,f (GV p m) (by rw[Oq];omega) c (λx i d=>by
   have a:=h x (by grind) d;rw[e x,Rat.zero_add]at a;rcases AM.1 a with b|b
   . grind
   . exact b) x]
  grind
theorem Oi(tp:Jd p=p)(p0:p≠[]){u v:Rat}(h:u<v):∃x,u<x/\x<v/\ev p x≠0:=by
 refine Classical.byContradiction λq=>dG tp p0 (gW _ p (Aa _) h λx a b=>Classical.byContradiction λc=>q ⟨x,a,b,c⟩)
theorem gs{D:List Rat}(A:Jd D=D)(p:D≠[])(w:∀x,P x x)(tr:∀x y z,P x y->P y z->P x z)(h:Sh B λx z=>ev D x≠0->ev D z≠0->P x z)(f:Wi B a)(l:Wi B b)(g:a<=b)(i:ev D a≠0)(nb:ev D b≠0):P a b:=by
 obtain⟨d,d0,h⟩:=h;have q:0<d/2:=by grind
 obtain⟨n,s⟩:=steps q a b
 have:∀(n:Nat) (a:Rat),Wi B a->ev D a≠0->a<=b->b-a<=(n:Rat)*(d/2)->P a b:=by
  intro n;induction n with
  |zero=>
   intro a f _ g j;have e:a=b:=by
    have:((0:Nat):Rat)=0:=rfl
    rw[this]at j;grind
   rw[e];exact w _
  |succ n t=>
   intro a f i g j;have r:((n+1:Nat):Rat)=(n:Rat)+1:=by rw[Rat.natCast_add];rfl
   rw[r]at j;rcases J9 (b-a) d with k|k
   . exact h a b f l g k i nb
   . obtain⟨c,c1,c2,o⟩:=Oi A p (u:=a+d/2) (v:=a+d) (by grind);have m:Wi B c:=⟨by have:=f.1;grind,by have:=l.2;grind⟩;exact tr _ _ _ (h a c f m (by grind) (by grind) i o) (t c m o (by grind) (by grind))
 exact this n a f i g s
theorem Se(h:0<a*b):c*a<0↔c*b<0:=by
 by_cases c0:c=0
 . subst c0;simp
 . obtain⟨d,b0⟩:=Jv h;rw[Hu c0 d,Hu c0 b0]
   have:¬(a*b<0):=by grind
   rw[Hu d b0]at this;grind
def GD(l m:List Rat):Prop:=l.length=m.length/\∀i,0<cf l i*cf m i\/(cf l i=0/\cf m i=0)
theorem GD.tail{l m:List Rat}(h:GD (a::l) (b::m)):GD l m:=⟨by simpa using h.1,λi=>h.2 (i+1)⟩
theorem Sf:∀(l m:List Rat) (a b:Rat),GD l m->(0<a*b\/(a=0/\b=0))->Yz a l=Yz b m:=by
 intro l;induction l with
 |nil=>intro m a b h _;cases m with|nil=>rfl|cons=>simp[GD]at h
 |cons c l g=>
  intro m a b h f;cases m with
  |nil=>simp[GD]at h
  |cons d m=>
   rcases h.2 0 with e|⟨c0,d0⟩
   . have e:0<c*d:=e;obtain⟨i,j⟩:=Jv e;rw[Yd i,Yd j,g m c d h.tail (Or.inl e)];rcases f with f|⟨rfl,rfl⟩
     . have:=KN f e;by_cases q:a*c<0
       . rw[BC q,BC (this.1 q)]
       . rw[BA q,BA λr=>q (this.2 r)]
     . rw[A2,A2]
   . have c0:c=0:=c0;have d0:d=0:=d0;rw[Yz,BC c0,Yz,BC d0];exact g m a b h.tail f
theorem GD.refl(l:List Rat):GD l l:=⟨rfl,λi=>by
 by_cases h:cf l i=0
 . exact Or.inr ⟨h,h⟩
 . have:=Yr (f:=[cf l i]) h (λx=>Jm _ x) 0 0;unfold DR at this;rw[Jm]at this;exact Or.inl this⟩
def EH:List Rat->Rat
 |[]=>0
 |c::t=>if c=0 then EH t else c
theorem Oj(t:List Rat):∀(a v:Rat),0<v*EH t->Yz a t=(if a*v<0 then 1 else 0)+Yz v t:=by
 induction t with
 |nil=>intro a v h;simp[EH]at h
 |cons c t b=>
  intro a v h;rw[EH]at h;by_cases c0:c=0
  . rw[BC c0]at h;rw[Yz,BC c0,Yz,BC c0];exact b a v h
  . rw[BA c0]at h;rw[Yd c0,Yd c0,BA (show ¬v*c<0 by grind)];have:=Se (c:=a) h;by_cases q:a*v<0
    . rw[BC q,BC (this.1 q)];omega
    . rw[BA q,BA λr=>q (this.2 r)];omega
theorem Sg(tp:Jd p=p)(p0:p≠[]):EH p≠0:=by
 have:∀(p:List Rat),EH p=0->∀i,cf p i=0:=by
  intro p;induction p with
  |nil=>intro _ i;exact YH i
  |cons c t a=>
   intro h i;rw[EH]at h;by_cases c0:c=0
   . rw[BC c0]at h;cases i with
     |zero=>exact c0
     |succ i=>exact a h i
   . rw[BA c0]at h;exact absurd h c0
 exact λh=>Js tp p0 (this p h _)
theorem Si(p:List Rat)(h:EH p≠0):∃d,0<d/\∀x,0<x->x<=d->0<ev p x*EH p:=by
 induction p with
 |nil=>exact absurd rfl h
 |cons c t u=>
  rw[EH]at h ⊢;by_cases c0:c=0
  . rw[BC c0]at h ⊢;obtain⟨d,d0,o⟩:=u h;refine⟨d,d0,λx g i=>?_⟩;have:=Rat.mul_pos g (o x g i);rw[Hc,c0];grind
  . rw[BA c0];obtain⟨K,k,n⟩:=Xp t (B:=1) DF;have c2:0<c*c:=by
     have:=Yr (f:=[c]) c0 (λx=>Jm _ x) 0 0;unfold DR at this;rwa[Jm]at this
    obtain⟨C,j,m⟩:=H7 c;obtain⟨e,l,q⟩:=small (K:=K*C) (r:=c*c/2) (Rat.le_of_lt (Rat.mul_pos k j)) (by grind);obtain⟨d,d0,v,w⟩:=Gh l (show(0:Rat)<1 by decide);refine⟨d,d0,λx g i=>?_⟩;rw[Hc];have s:=(n x ⟨by grind,by grind⟩).mul m;have y:=q x (by grind);have z:=Rat.mul_nonneg (a:=x) (b:=ev t x*c+K*C) (by grind) (by have:=s.1;grind);grind
theorem gz{t:List Rat}(tp:Jd (c::t)=c::t):GD (Jb (c::t)) t:=by
 by_cases hl:1<(c::t).length
 . refine⟨by have:=(X7 tp hl).1;simpa using this,λi=>?_⟩;rw[Xn,J3];have a:(0:Rat)<(((i+1:Nat):Int):Rat):=by
    have:((0:Int):Rat)<(((i+1:Nat):Int):Rat):=Rat.intCast_lt_intCast.2 O
    exact this
   generalize (((i+1:Nat):Int):Rat)=k at a;rcases(GD.refl t).2 i with h|⟨h,_⟩
   . left
     have:=Rat.mul_pos h a;grind
   . right
     rw[h];exact⟨A2 _,rfl⟩
 . have:t=[]:=Az.1 (by rw[Af]at hl;omega)
   subst this;have b:Jb [c]=[]:=Yv (Jq _) λx=>by rw[Xk];simp[dv,ev];exact Rat.add_zero 0
   rw[b];exact GD.refl _
theorem g7:∀(n:Nat) (p:List Rat),Jd p=p->p.length=n+1->∃d,0<d/\∀x,0<x->x<=d->GC n p x/\∀a,Yz a (JQ (dR n p) x)=Yz a p:=by
 intro n;induction n with
 |zero=>
  intro p tp hl;match p,hl with
  |[c],_=>
   have c0:c≠0:=by
    have:=Js tp Z;simpa[cf]using this
   refine⟨1,DF,λx _ _=>⟨by show ev [c] x≠0;rw[Jm];exact c0,λa=>?_⟩⟩;rw[dR,JL,Jm];rfl
 |succ n s=>
  intro p tp hl;have p0:p≠[]:=λe=>by rw[e]at hl;simp at hl
  have C:=(X7 tp O).1;obtain⟨d,d0,l⟩:=s (Jb p) (Jq p) O;have f0:=Sg tp p0;obtain⟨e,k,m⟩:=Si p f0;obtain⟨b,b0,z,A⟩:=Gh d0 k;refine⟨b,b0,λx j B=>?_⟩;obtain⟨u,w⟩:=l x j (by grind);have g:=m x j (by grind);have i:=(Jv g).1;refine⟨⟨i,u⟩,λa=>?_⟩;rw[dR,JL,Yd i,w];match p,tp,p0,g,i with
  |c::t,tp,p0,g,i=>
   have sg:=gz tp;obtain⟨v,o⟩:=ex (ev (c::t) x);rw[o]at g i ⊢;have y:0<v*v:=by
    have:=Yr (f:=[v]) i (λx=>Jm _ x) 0 0;unfold DR at this;rwa[Jm]at this
   rw[Sf _ _ v v sg (Or.inl y)];rw[EH]at g;by_cases c0:c=0
   . rw[BC c0]at g;rw[Yz,BC c0];exact(Oj t a v g).symm
   . rw[BA c0]at g;rw[Yd c0,Sf t t v c (GD.refl t) (Or.inl g)];have:=Se (c:=a) g;by_cases q:a*v<0
     . rw[BC q,BC (this.1 q)]
     . rw[BA q,BA λr=>q (this.2 r)]
def Gk:Rat->List Rat->Rat
 |a,[]=>a
 |a,b::l=>if b=0 then Gk a l else Gk b l
theorem hO(l:List Rat):∀a b:Rat,Yz a (l++[b])=Yz a l+(if Gk a l*b<0 then 1 else 0):=by
 induction l with
 |nil=>
  intro a b;rw[Ar,Gk];by_cases b0:b=0
  . subst b0;simp[Yz]
  . rw[Yd b0];simp[Yz]
 |cons c l d=>
  intro a b;rw[Au,Gk];by_cases c0:c=0
  . rw[Yz,BC c0,Yz,BC c0,BC c0];exact d a b
  . rw[Yd c0,Yd c0,BA c0,d c b];omega
theorem iA(l:List Rat):∀a b:Rat,Gk a (l++[b])=if b=0 then Gk a l else b:=by
 induction l with
 |nil=>intro a b;rfl
 |cons c l d=>
  intro a b;rw[Au,Gk,Gk,d,d];by_cases c0:c=0
  . rw[BC c0,BC c0]
  . rw[BA c0,BA c0]
theorem iB(l:List Rat):Gk 0 l.reverse=EH l:=by
 induction l with
 |nil=>rfl
 |cons c t a=>rw[List.reverse_cons,iA,a,EH]
theorem Sj(l:List Rat):EH l=0->∀a,Yz a l=0:=by
 induction l with
 |nil=>intro _ a;rfl
 |cons c t b=>
  intro h a;rw[EH]at h;by_cases c0:c=0
  . rw[BC c0]at h;rw[Yz,BC c0];exact b h a
  . rw[BA c0]at h;exact absurd h c0
theorem iC(l:List Rat):DO l.reverse=DO l:=by
 induction l with
 |nil=>rfl
 |cons c t a=>
  rw[List.reverse_cons];show Yz 0 (t.reverse++[c])=Yz 0 (c::t);rw[hO,iB];have a:Yz 0 t.reverse=Yz 0 t:=a;rw[a];by_cases c0:c=0
  . subst c0;rw[Yz,BC rfl,Rat.mul_zero,BA DF];rfl
  . rw[Yd c0,A2,BA (show ¬(0:Rat)<0 by decide)];by_cases f0:EH t=0
    . rw[f0,A2,BA (show ¬(0:Rat)<0 by decide),Sj t f0,Sj t f0]
    . have b:0<EH t*EH t:=by
       have:=Yr (f:=[EH t]) f0 (λx=>Jm _ x) 0 0;unfold DR at this;rwa[Jm]at this
      have d:=Oj t 0 (EH t) b;have e:=Oj t c (EH t) b;rw[A2,BA (show ¬(0:Rat)<0 by decide)]at d;rw[Ck c]at e;omega
def ms(L:List (List Rat × Nat))(f:List Rat->Nat):Nat:=(L.map λs=>s.2*f s.1).sum
theorem Ok(f:List Rat->Nat):ms [] f=0:=rfl
theorem Gl(s:List Rat × Nat)(L:List (List Rat × Nat))(f:List Rat->Nat):ms (s::L) f=s.2*f s.1+ms L f:=by simp[ms]
theorem iD(L M:List (List Rat × Nat))(f:List Rat->Nat):ms (L++M) f=ms L f+ms M f:=by simp[ms]
def Ij(L:List (List Rat × Nat)):Prop:=∀s∈L,Jd s.1=s.1/\s.1≠[]/\DK s.1=s.1
theorem Ij.tail{s:List Rat × Nat}{L:List (List Rat × Nat)}(h:Ij (s::L)):Ij L:=λt a=>h t (C9 _ a)
theorem iE(d:0<=B):∀L,Ij L->Sh B λx z=>ms L (λq=>DO (JQ (Jy q) x))=ms L (λq=>DO (JQ (Jy q) z))+ms L (λq=>JS q x z):=by
 intro L;induction L with
 |nil=>intro _;exact Sh.all λ_ _ _ _ _=>rfl
 |cons s L g=>
  intro h;obtain⟨a,b,c⟩:=h s (Cc ..);refine((MJ a b d).and (g h.tail)).mono λx z _ _ _ ⟨e,f⟩=>?_;show ms (s::L) _=ms (s::L) _+ms (s::L) _;rw[Gl,Gl,Gl,f,e,c,AN];omega
theorem iF:∀L,Ij L->∃d:Rat,0<d/\∀z,0<z->z<=d->ms L (λq=>DO (JQ (Jy q) z))=ms L (λq=>DO (JQ (Jy q) 0)):=by
 intro L;induction L with
 |nil=>intro _;exact⟨1,DF,λ_ _ _=>rfl⟩
 |cons s L y=>
  intro h;obtain⟨i,j,r⟩:=h s (Cc ..);obtain⟨d,d0,u⟩:=y h.tail;obtain⟨e,b,v⟩:=MJ i j (B:=1) DF;obtain⟨f,f0,w⟩:=Si s.1 (Sg i j);obtain⟨g,o,K,M⟩:=Gh d0 b;obtain⟨k,C,P,Q⟩:=Gh o f0;obtain⟨m,D,R,S⟩:=Gh C (show(0:Rat)<1 by decide);refine⟨m,D,λz z0 N=>?_⟩;have x:=u z z0 (by grind);have l:DO (JQ (Jy s.1) 0)=DO (JQ (Jy s.1) z)+JS (DK s.1) 0 z:=v 0 z ⟨by grind,by grind⟩ ⟨by grind,by grind⟩ (by grind) (by grind);have n:=w z z0 (by grind);have A:JS (DK s.1) 0 z=0:=by
   rw[r];unfold JS;refine BA ?_;rintro⟨a,q2⟩;obtain⟨p,hp⟩:=ex (s.1);rw[hp]at a q2 n;cases p with
   |nil=>exact a rfl
   |cons c t=>
    have b:ev (c::t) 0=c:=by rw[Hc,A2,Rat.add_zero]
    rw[b]at a q2;rw[EH,BA a]at n;grind
  rw[A]at l;rw[Gl,Gl,x,l];rfl
theorem iG:∀L,Ij L->∃B:Rat,0<B/\∀z,B<=z->ms L (λq=>DO (JQ (Jy q) z))=ms L (λq=>DO (X9 (Jy q))):=by
 intro L;induction L with
 |nil=>intro _;exact⟨1,DF,λ_ _=>rfl⟩
 |cons s L g=>
  intro h;obtain⟨c,f,j⟩:=h s (Cc ..);obtain⟨d,d0,a⟩:=g h.tail;obtain⟨e,i,b,_⟩:=MD (Kv c f);refine⟨d+e,by clear a b;grind,λz k=>?_⟩;rw[Gl,Gl,a z (by clear a b;grind),b z (by clear a b;grind)]
theorem iH(w y:List Rat):∀n,DH (Gj (w,y)).1 (Gj (w,y)).2 n=DH w y (n+1):=by
 intro n;induction n with
 |zero=>rfl
 |succ n a=>rw[DH,a];rfl
theorem Sk(x z:Rat):∀(n:Nat) (R w y:List Rat),Yun R w y->mJ (n+1) w y x z=mJ n w y x z+JS (DH w y n).1 x z:=by
 intro n;induction n with
 |zero=>intro R w y _;rw[mJ,mJ,mJ];exact Fs _ _
 |succ n b=>
  intro R w y h;have a:Jz w (JD y (Jb w))≠[]:=Xm h.tw (Yh ..) (Or.inl h.w0);have e:Gj (w,y)=(Ii w y,KH w y):=by
   unfold Gj Ii KH;rw[GS a,GS a]
  have s:=iH w y n;rw[e]at s;rw[mJ,b _ _ _ h.next,s,mJ];omega
theorem iI(h:Yun q w y)(a:Jp q=q)(f:0<=B):∀N,Sh B λx z=>ms (yL w y N) (λq=>JS q x z)+N*JS (DH w y N).1 x z=mJ N w y x z:=by
 intro N;induction N with
 |zero=>exact Sh.all λx z _ _ _=>by show ms [] _+0*_=0;rw[Ok,Nat.zero_mul]
 |succ N j=>
  obtain⟨k,o,b,p,l,_⟩:=L8 h a N;have n:=(X8 h a N).1;have m:yP (DH w y N)≠[]:=λe=>n.w0 (by rw[b,e];rfl);refine((Oc l f).and j).mono λx z _ _ _ ⟨g,i⟩=>?_;show ms (yL w y (N+1)) _+(N+1)*JS (DH w y (N+1)).1 x z=mJ (N+1) w y x z;have c:ms (yL w y (N+1)) (λq=>JS q x z)=ms (yL w y N) (λq=>JS q x z)+(N+1)*JS (yP (DH w y N)) x z:=by
   rw[yL,iD];by_cases hl:1<(yP (DH w y N)).length
   . rw[BC hl,Gl,Ok,Cj]
   . rw[BA hl,Ok,YI (XD k m O x z),CG]
  have d:JS (DH w y N).1 x z=JS (yP (DH w y N)) x z+JS (DH w y (N+1)).1 x z:=by
   rw[<-g,<-b]
  rw[Sk x z N _ _ _ h,c,<-i,d,AN,Nat.succ_mul,Nat.succ_mul];omega
theorem iJ(h:Yun q w y)(c:Jp q=q)(e:(DH w y N).1.length<=1)(x z:Rat):∀k,mJ (N+k) w y x z=mJ N w y x z/\(DH w y (N+k)).1.length<=1:=by
 intro k;induction k with
 |zero=>exact⟨rfl,e⟩
 |succ k b=>
  have a:=(X8 h c (N+k)).1;have g:=(X8 h c (N+k+1)).1;obtain⟨_,_,f,_⟩:=L8 h c (N+k);refine⟨?_,?_⟩
  . rw[show N+(k+1)=(N+k)+1 by omega,Sk x z _ _ _ _ h,b.1,YI (XD a.tw a.w0 b.2 x z)];rfl
  . have d:Dv (DH w y (N+k+1)).1 (DH w y (N+k)).1:=by
     rw[f];exact(Dv.refl _).mul' _
    have:=(d.len g.tw a.tw a.w0).1;have:=b.2;rw[show N+(k+1)=(N+k)+1 by omega];omega
theorem iK:∀(n:Nat) (p:List Rat),Jd p=p->p.length=n+1->MC (dR n p)/\(Jd (dP n p)=dP n p/\dP n p≠[])/\∀a,0<a*cf p (p.length-1)->Yz a (X9 (dR n p))=0:=by
 intro n;induction n with
 |zero=>
  intro p tp hl;have p0:p≠[]:=λe=>by rw[e]at hl;simp at hl
  refine⟨λq hq=>?_,⟨tp,p0⟩,λa b=>?_⟩
  . rw[dR,List.mem_singleton]at hq;subst hq;exact⟨tp,p0⟩
  . show Yz a [cf p (p.length-1)]=0;rw[Yd (Jv b).2,BA (by grind)];rfl
 |succ n o=>
  intro p tp hl;have p0:p≠[]:=λe=>by rw[e]at hl;simp at hl
  obtain⟨s,r⟩:=X7 tp O;have ts:=Jq p;obtain⟨i,⟨j,l⟩,m⟩:=o (Jb p) ts O;refine⟨λq hq=>?_,⟨J2 _ _,Rr tp j p0 l⟩,λa b=>?_⟩
  . rw[dR,FN]at hq;rcases hq with rfl|hq
    . exact⟨tp,p0⟩
    . exact i q hq
  . show Yz a (cf p (p.length-1)::X9 (dR n (Jb p)))=0;have c0:=(Jv b).2;rw[Yd c0,BA (by grind),m];rw[r];have d:(0:Rat)<(((p.length-1:Nat):Int):Rat):=by
     have:((0:Int):Rat)<(((p.length-1:Nat):Int):Rat):=Rat.intCast_lt_intCast.2 O
     exact this
    generalize (((p.length-1:Nat):Int):Rat)=k at d;generalize cf p (p.length-1)=c at c0;have g:0<c*c:=by
     have:=Yr (f:=[c]) c0 (λx=>Jm _ x) 0 0;unfold DR at this;rwa[Jm]at this
    have:=Rat.mul_pos g d;grind
theorem iL(tp:Jd p=p)(p0:p≠[])(hn:∀n,n<N->1<(DH (DK p) (Dc p) n).1.length)(K:(DH (DK p) (Dc p) N).1.length<=1):
 ∃k,DO p+ms (yL (DK p) (Dc p) N) (λq=>DO (X9 (Jy q)))=ms (yL (DK p) (Dc p) N) (λq=>DO (JQ (Jy q) 0))+2*k:=by
 have r:=Xo tp p0;have w:=Hr tp;obtain⟨n,hl⟩:∃n,p.length=n+1:=⟨p.length-1,by have:=Ae.2 p0;omega⟩;have hN:=(R4 r w hn K).1;rw[YY tp]at hN;have ok:Ij (yL (DK p) (Dc p) N):=λs hs=>by
  obtain⟨D,_,_,U,V,h4,_⟩:=(R3 r w N).1 s hs;have T:s.1≠[]:=λe=>by rw[e]at D;simp at D
  exact⟨V,T,fM V T h4 U⟩
 obtain⟨L,W⟩:=ex (yL (DK p) (Dc p) N);have mm:∀ {B:Rat},0<=B->Sh B λx z=>ms L (λq=>JS q x z)=mJ (n+1) (DK p) (Dc p) x z:=λo=>by
  refine(iI r w o N).mono λx z _ _ _ h=>?_;show ms L _=_;have y1:=(X8 r w N).1;rw[W,YI (XD y1.tw y1.w0 K x z),CG,Cj]at h;have:=(iJ r w K x z (n+1-N)).1;rw[show N+(n+1-N)=n+1 by omega]at this;rw[h,this]
 rw[W]at ok ⊢;obtain⟨a1,⟨A,C⟩,a4⟩:=iK n p tp hl;obtain⟨d,d0,c⟩:=g7 n p tp hl;obtain⟨e,e0,hE⟩:=iF L ok;obtain⟨f,f0,i⟩:=iG L ok;obtain⟨g,g0,j,_⟩:=MD a1;obtain⟨m,m0,m1,m2⟩:=Gh d0 e0;obtain⟨x,x1,x2,nx⟩:=Oi A C m0;obtain⟨z,z1,z2,nz⟩:=Oi A C (u:=m+f+g) (v:=m+f+g+1) (by clear c hE i j;grind);have Q:=(c x x1 (by clear c hE i j;grind)).2 0;have k2:=hE x x1 (by clear c hE i j;grind);have k3:=i z (by clear c hE i j;grind);have k4:=j z (by clear c hE i j;grind);have Qb:0<=z:=by clear c hE i j;grind
 have S:x<=z:=by clear c hE i j;grind
 clear c hE i j;have k5:DO (X9 (dR n p))=0:=by
  obtain⟨t,ht⟩:=Sa n p;have R:=Js tp p0;have cc:0<cf p (p.length-1)*cf p (p.length-1):=by
   have:=Yr (f:=[cf p (p.length-1)]) R (λx=>Jm _ x) 0 0;unfold DR at this;rwa[Jm]at this
  have:=a4 _ cc;rw[ht]at this ⊢;have e:X9 (p::t)=cf p (p.length-1)::X9 t:=rfl;rw[e]at this ⊢;rw[Yd R,BA (by grind)]at this;rw[IA R];omega
 have o:0<=z:=Qb;obtain⟨k,X⟩:=gs (B:=z) (P:=λx z=>∃k,DO (JQ (dR n p) x)+ms L (λq=>DO (JQ (Jy q) z))=DO (JQ (dR n p) z)+ms L (λq=>DO (JQ (Jy q) x))+2*k) A C
  (λ_=>⟨0,rfl⟩) (λx y z ⟨k,D⟩ ⟨l,U⟩=>⟨k+l,O⟩)
  (((gV o n p tp hl).and ((iE o L ok).and (mm o))).mono λx z _ _ _ ⟨M,i2,i3⟩ hx hz=>by
   obtain⟨k,M⟩:=M (Sb _ _ _ hx) (Sb _ _ _ hz);exact⟨k,by rw[i2,i3,M];omega⟩)
  (a:=x) (b:=z) ⟨by grind,S⟩ ⟨by grind,by grind⟩ S nx nz
 refine⟨k,?_⟩;have Q:DO (JQ (dR n p) x)=DO p:=Q;rw[Q,k2,k3,k4,k5,AY]at X;exact X
end
namespace M3
open Go.RowKit Go.Shelf
attribute [local go_sem] Oper.semAt_some
theorem iM(v:Value)(p:List Rat)(w:H)(h:Je w v p)(hl:p.length<=1):
 Calls Tryz.prog 37 #[v] w λe s=>e=.returned (F none 0 0)/\Bl w s:=by
 have l:(p.length:Int)-1<1:=O
 obtain⟨d0,c⟩:=ex ((p.length:Int)-1:Int);rw[c]at l;have n:=Ja c;have m:=Ja λ(V:H) (x:Value) (r:List Rat) (o:Je V x r)=>JX x r V o;obtain⟨j,la,k,rfl⟩:=h.form;have d:=(Mem.nil w).push (.poly p) (cs:=#[F j la k]) h;obtain⟨W0,b⟩:=ex (w.alloc (.cells #[F j la k] 25));have g:=Ja b;have f:Hid (Mem w W0 [some (w.heap.size,.poly p)]):=Ja (by rw[<-b];exact d);clear d b h c hl;go_enter Tryz.func37,Tryz.ntmps37
 go_upto_region 1 with fail
 rw[g.o];clear g;obtain⟨t,l1,c1,q,r1⟩:=f.o.poly2 (i:=0) rfl;have u:=q.cell;have a:=Ja (m.o W0 _ p r1);rw[n.o]at a;go_wp2_with(go_at_call 30;refine a.o.mono ?_;clear a;rintro e y ⟨rfl,hq⟩)
 go_ret;exact⟨rfl,(f.o.below hq).2.2⟩
end M3
section
open Go.RowKit Go.Shelf
def Ol(r:Bool)(base:Nat)(W:H)(g cap:Nat)(f:Nat->Int)(L:List (List Rat × Nat)):Prop:=
 base<=g/\(∃cs,W.heap[g]?=some (.cells cs (Dy r) (0,0)))/\L.length<=cap/\cap<=maxLen/\
  ∀j p t,L[j]?=some (p,t)->∃x,W.cell? ⟨g,j*2,none⟩=some x/\W.cell? ⟨g,j*2+1,none⟩=some (.int .i64 (f j))/\RowK r W x p
def MN(L:List (List Rat × Nat))(j:Nat):Int:=match L[j]? with|some x=>(x.2:Int)|none=>0
section
variable {r:Bool} {base:Nat} {W W':World} {v:Value} {g cap:Nat} {f:Nat->Int} {L:List (List Rat × Nat)}
theorem D0.toT(h:D0 r base W v L)(d:L≠[]):∃g cap,v=F (some ⟨g,0,none⟩) L.length cap/\Ol r base W g cap (MN L) L:=by
 rcases h with⟨_,h⟩|⟨g,cap,a,f,i,b,k,l,w,m⟩
 . exact absurd h d
 . refine⟨g,cap,f,i,⟨a,b⟩,k,l,λj p t e=>?_⟩;obtain⟨x,q,s,u⟩:=m.2 j p t e;have y:j<L.length:=(Ac.1 e).1;have c:∀o,o<L.length*2->W.cell? ⟨g,o,none⟩=(a.toList.take (L.length*2))[o]?:=λo n=>by
    rw[A5 n];simp[World.cell?,b]
   exact⟨x,(c _ O).trans q,(c _ O).trans (s.trans (by unfold MN;rw[e])),u⟩
theorem Ol.lt(h:Ol r base W g cap f L):g<W.heap.size:=by
 obtain⟨_,⟨cs,a⟩,_⟩:=h;exact(Ab.1 a).1
end
end
section
open Go.RowKit Go.Shelf
def GE(q:List Rat):Int:=ES q-Gz q 0
def sI:List (List Rat × Nat)->Int
 |[]=>0
 |s::L=>GE s.1*(s.2:Int)+sI L
variable{L:List (List Rat × Nat)}{p q:List Rat}{t:Nat}
theorem iN(L M:List (List Rat × Nat)):sI (L++M)=sI L+sI M:=by
 induction L with
 |nil=>simp[sI]
 |cons s L a=>rw[Au,sI,sI,a];omega
theorem iO{k:Nat}(h:L[k]?=some (q,t)):sI (L.take (k+1))=sI (L.take k)+GE q*(t:Int):=by
 rw[List.take_add_one,iN,h];simp[sI]
theorem Sl(h:q≠[]):GE q=(DO (JQ (Jy q) 0):Int)-(DO (X9 (Jy q)):Int):=by
 unfold GE ES Gz;rw[BA h,BA h];omega
theorem iP:∀L:List (List Rat × Nat),(∀s∈L,s.1≠[])->sI L=(ms L (λq=>DO (JQ (Jy q) 0)):Int)-(ms L (λq=>DO (X9 (Jy q))):Int):=by
 intro L;induction L with
 |nil=>intro _;rfl
 |cons s L b=>
  intro h;rw[sI,Gl,Gl,b λt a=>h t (C9 _ a),Sl (h s (Cc ..)),Int.sub_mul];rw[Int.natCast_add,Int.natCast_add,FO,FO,CN (s.2:Int),CN (s.2:Int)];omega
theorem Sn(h:q≠[])(hl:q.length<=17)(f:t<=25):(-17<=GE q/\GE q<=17)/\(-425<=GE q*(t:Int)/\GE q*(t:Int)<=425):=by
 have d:=MI h;have a:=Xy (JQ (Jy q) 0);have c:=Xy (X9 (Jy q));unfold JQ at a;unfold X9 at c;rw[CQ]at a c;have e:=Sl h;unfold JQ X9 at e;have b:-17<=GE q/\GE q<=17:=O
 refine⟨b,?_⟩;have g:=Int.mul_le_mul_of_nonneg_right b.1 (Int.natCast_nonneg t);have i:=Int.mul_le_mul_of_nonneg_right b.2 (Int.natCast_nonneg t);omega
theorem So(h:∀s∈L,s.1≠[]/\s.1.length<=17/\s.2<=25):-425*(L.length:Int)<=sI L/\sI L<=425*(L.length:Int):=by
 induction L with
 |nil=>exact⟨DF,DF⟩
 |cons s L e=>
  obtain⟨a,b,c⟩:=h s (Cc ..);have:=(Sn a b c).2;have:=e λt d=>h t (C9 _ d);rw[sI,Af];omega
theorem iQ(hl:p.length=1):ES p=0:=by
 have p0:p≠[]:=λe=>by rw[e]at hl;simp at hl
 have c:=MI p0;have a:=Of (Ei (Jy p));have b:=Of (X9 (Jy p));unfold Ei at a;unfold X9 at b;rw[CQ]at a b;unfold ES;rw[BA p0];unfold Ei X9;omega
theorem iR(tp:Jd p=p)(hl:1<p.length):ES p-1<=ES (Jb p):=by
 have p0:p≠[]:=λe=>by rw[e]at hl;simp at hl
 have a:Jb p≠[]:=λe=>by have:=X6 tp e;omega
 have:=gK tp hl;unfold ES;rw[BA p0,BA a];omega
theorem iS(tp:Jd p=p)(hl:1<p.length)(x y:Rat):E5 p x y-1<=E5 (Jb p) x y:=by
 have p0:p≠[]:=λe=>by rw[e]at hl;simp at hl
 have a:Jb p≠[]:=λe=>by have:=X6 tp e;omega
 unfold E5;rw[BA p0,BA a];by_cases h:y<=x
 . rw[BC h,BC h];decide
 . rw[BA h,BA h];have:=SY tp hl (Rat.le_of_lt (Rat.not_le.1 h));omega
theorem iT(p0:p≠[]){n:Nat}(hl:p.length<=n)(x y:Rat):-(n:Int)<=E5 p x y/\E5 p x y<=n:=by
 have c:=MI p0;have a:=Xy (JQ (Jy p) x);have b:=Xy (JQ (Jy p) y);unfold JQ at a b;rw[CQ]at a b;unfold E5;rw[BA p0];unfold JQ;split<;>omega
namespace M3
theorem iU{z:List Rat}(a:Jd z=z)(z0:z≠[])(S:z.length<=17)(v:Cd 41 z):∃L:List (List Rat × Nat),L.length<=25/\
 (∀x∈L,Jd x.1=x.1/\x.1≠[]/\x.1.length<=17/\x.2<=25/\Cd 80 x.1)/\(∃k:Nat,(DO z.reverse:Int)=sI L+2*(k:Int))/\
 ∀(V:H) (x:Value),Je V x z->Calls Tryz.prog 37 #[x] V λe j=>∃u,e=.returned u/\D0 true V.heap.size j u L/\Bl V j:=by
 have t:Jp (Jp z)=Jp z:=Hr a;have lq:(Jp z).length=z.length:=YY a;have q0:=KC a z0;have tq:=YF z;have o:Cd 75 z:=v.mono O;have cq:Cd 75 (Jp z):=o.mon a;have f:=Xo a z0;have fin:∀ {N:Nat},(∀n,n<N->1<(DH (DK z) (Dc z) n).1.length)->(DH (DK z) (Dc z) N).1.length<=1->(∀x∈yL (DK z) (Dc z) N,Jd x.1=x.1/\x.1≠[]/\x.1.length<=17/\x.2<=25/\Cd 80 x.1)/\∃k:Nat,(DO z.reverse:Int)=sI (yL (DK z) (Dc z) N)+2*(k:Int):=fun {N} b p=>by
  have B:=R4 f t b p;have all:∀x∈yL (DK z) (Dc z) N,Jd x.1=x.1/\x.1≠[]/\x.1.length<=17/\x.2<=25/\Cd 80 x.1:=λx c=>by
   obtain⟨q,P,Q,R,i,C,r,_⟩:=(R3 f t N).1 x c;have M:=(r.len i tq q0).1;exact⟨i,λe=>by rw[e]at q;simp at q,O,O,eH tq q0 O cq i C r⟩
  refine⟨all,?_⟩;obtain⟨k,K⟩:=iL a z0 b p;refine⟨k,?_⟩;rw[iP _ λs A=>(all s A).2.1,iC];omega
 by_cases hl:1<z.length
 . obtain⟨N,g,D⟩:=eF a hl O o;have d:=Xm tq (Jq (Jp z)) (Or.inl q0);have l:=g.st;have m:=g.en;have w:Kr z N=yL (DK z) (Dc z) N:=by
    unfold Kr DK Dc;rw[GS d,GS d]
   rw[GS d,GS d]at l m;obtain⟨f1,f2⟩:=fin (N:=N) (λn b=>(l n b).1) m;refine⟨yL (DK z) (Dc z) N,?_,f1,f2,λV x c=>?_⟩
   . have:=Rs (DK z) (Dc z) N;omega
   . rw[<-w];exact dV 174 8926 N x z V c g
 . have B:=(f.dv.len f.tw tq q0).1;obtain⟨f1,f2⟩:=fin (N:=0) (λn b=>absurd b (Nat.not_lt_zero n)) (by show(DK z).length<=1;omega);refine⟨[],Z,f1,f2,λV x c=>(iM x z V c O).mono ?_⟩;rintro e j ⟨rfl,y⟩;exact⟨_,rfl,D0.nil _ _ _,y⟩
end M3
end
namespace M3
open Go.RowKit Go.Shelf
attribute [local go_sem] Oper.semAt_some
theorem iV(s t a b:ByteArray)(w:H):
 Calls Tryz.prog 7 #[I s,I t,I a,I b] w λr M=>r=.returned (G true)/\Bl w M:=by
 have Ui:Tryz.prog.follows .mixedOrders=true:=by kernel_rfl
 have cP:=SV (Jj s);have cQ:=SV (Jj t);have lP:=(RJ (Jj s)).1;have lQ:=(RJ (Jj t)).1;have tP:=ST (Jj s);have tQ:=ST (Jj t);have Uc:=Ja λ(V:H)=>SU s V;have Qq:=Ja λ(V:H)=>SU t V;obtain⟨p,hp⟩:=ex ((YG (Jj s)).1);obtain⟨q,hq⟩:=ex ((YG (Jj t)).1);rw[hp]at cP lP tP Uc;rw[hq]at cQ lQ tQ Qq;have Qp:Cd 41 (Jr p q):=(cP.mul cQ).mono O;have Qs:(Jr p q).length<=17:=by
  by_cases p0:p=[]
  . rw[p0];exact AO _
  . by_cases q0:q=[]
    . rw[q0,YW];exact AO _
    . have:=JA tP tQ p0 q0;omega
 have Ud:I1 p q:=cP.times cQ O;have sP:=cP.sqs O;have sQ:=cQ.sqs O;have C2:=Ja λ(V:H) (x y:Value) (hx:Je V x p) (hy:Je V y q)=>gA x y p q V hx hy sP sQ Ud O;have Qv:=J2 p q;obtain⟨z,hz⟩:=ex (Jr p q);rw[hz]at Qp Qs C2 Qv;obtain⟨j,Qd,AL⟩:=Db (show Cd 41 z/\z.length<=17/\Jd z=z from⟨Qp,Qs,Qv⟩) (λ(V:H) (x:Value) (hx:Je V x z)=>JX x z V hx) λ(V:H)=>fU V;have M1:Hid (Mem w w []):=Ja (Mem.nil w);clear cP cQ lP lQ tP tQ hp hq Qp Qs Ud sP sQ Qv hz;go_enter Tryz.func7,Tryz.ntmps7
 go_upto_region 2 with(go_at_call 8;refine(Uc.o _).mono ?_;clear Uc;rintro e w1 ⟨u1,rfl,aw,bu⟩;obtain⟨aj,az,am,rfl⟩:=Je.form aw)
 obtain⟨V1,hV⟩:=ex (w1.alloc (.cells #[F aj az am] 25));obtain⟨B1,an⟩:=ex (w1.heap.size);have X:Mem w (w1.alloc (.cells #[F aj az am] 25)) [some (w1.heap.size,.poly p)]:=Mem.push (M1.o.below bu) (.poly p) aw;rw[hV,an]at X;rw[hV];rw[an];have M2:Hid (Mem w V1 [some (B1,.poly p)]):=Ja (X);clear M1;clear X hV an;clear aw bu;refine Jn Ui [[],[],[1],[0,2,2],[3,3,0,1,2,3]] (by kernel_rfl) DF
  (λD ak V=>∃(ta tb tc td:Value) (y0:Option (Nat × Dat)),ak={ tmps:=#[I s,I t,I a,I b,E,E,E,E,G false,.pointer (some ⟨B1,0,none⟩),E,E,E,E,E,E,E,E,E,I s,.agg #[F aj az am],ta,tb,tc,td,E,E,E,E,E,E,E,E,E,E,E,E,E,E,E,E,E,E,E,E,E,E,E,E,E,E,E,E,E,E,E,E,E,E,E,E,E,E,E,E,E,E,E,E,E,E,E,E,E,E,E,E,E,E,E,E,E,E,E,E,E,E,E,E,E,E,E,E,E,E,E,E,E,E,E,E,E,E,E,E,E,E,E,E],defers:=[] }/\Hid ((D 0=true->Has V ta (.poly p))/\(D 1=true->tb=Value.string t)/\(D 2=true->Has V tc (.poly q))/\(D 3=true->Has V td (.poly z))/\((D 4=false->y0=some (B1,.poly p))/\(D 4=true->y0=some (B1,.poly z))))/\Hid (Mem w V [y0]))
  ⟨_,_,_,_,_,rfl,Ja ⟨Z,Z,Z,Z,⟨λ_=>rfl,Z⟩⟩,Ja (M2.o).drew⟩ ?step2 ?fin2
 case step2=>
  rintro D ak V i ds dh hi ad bh ⟨ta,tb,tc,td,y0,rfl,g,X⟩;have dk:i<5:=(Ac.1 hi).1;obtain rfl|rfl|rfl|rfl|rfl:=KJ i O
  all_goals
   simp only[Ai,Ag,Ak]at hi;subst hi
  . have hf:D 4=false:=DI dh bh;obtain rfl:=g.o.2.2.2.2.1 hf;clear ad;obtain⟨a,l,c,n,r⟩:=X.o.poly2 (i:=0) rfl;have N:=n.cell;refine Za ?_;exact⟨_,_,_,_,_,rfl,Ja ⟨λ_=>r,g.o.2.1,g.o.2.2.1,g.o.2.2.2.1,⟨λ_=>rfl,λh=>by simp[hf]at h⟩⟩,Ja (X.o)⟩
  . clear ad;refine Za ?_;exact⟨_,_,_,_,_,rfl,(Dh g),Ja (X.o)⟩
  . obtain rfl:=(g.o.2.1 (ad 1 Z));have HC:=Ja (Qq.o V);clear ad;refine Jc rfl rfl λK hK=>?_;go_simp;go_wp2_with(go_at_call 8;refine HC.o.mono ?_;rintro e w5 ⟨v5,rfl,ay,ae⟩)
    exact⟨_,_,_,_,_,rfl,Ja ⟨λh=>(g.o.1 h).below ae,λ_=>rfl,λ_=>ay,λh=>(g.o.2.2.2.1 h).below ae,g.o.2.2.2.2⟩,Ja (X.o.below ae)⟩
  . have h0:=(g.o.1 (ad 0 Z));have h1:=(g.o.2.2.1 (ad 2 Z));have HC:=Ja (C2.o V _ _ h0 h1);clear ad h0 h1;refine Jc rfl rfl λK hK=>?_;go_simp;go_wp2_with(go_at_call 9;refine HC.o.mono ?_;rintro e w5 ⟨v5,rfl,ay,ae⟩)
    exact⟨_,_,_,_,_,rfl,Ja ⟨λh=>(g.o.1 h).below ae,g.o.2.1,λh=>(g.o.2.2.1 h).below ae,λ_=>ay,g.o.2.2.2.2⟩,Ja (X.o.below ae)⟩
  . obtain rfl:=g.o.2.2.2.2.1 bh;have hv:=(g.o.2.2.2.1 (ad 3 Z));obtain⟨a1,l1,c1,rfl⟩:=Je.form (show Je V _ _ from hv);obtain⟨a,l,c,n,r⟩:=X.o.poly2 (i:=0) rfl;have N:=n.cell;have f0:=n.frozen;clear ad;refine Za ?_;exact⟨_,_,_,_,_,rfl,Ja ⟨λh=>(g.o.1 h).set1 n rfl _,g.o.2.1,λh=>(g.o.2.2.1 h).set1 n rfl _,λh=>(g.o.2.2.2.1 h).set1 n rfl _,⟨λh=>by simp at h,λ_=>rfl⟩⟩,Ja (X.o.putPoly (i:=0) rfl hv)⟩
 rintro D ak V3 ap ⟨ta,tb,tc,td,y0,rfl,g,X⟩;obtain rfl:=g.o.2.2.2.2.2 (ap 4 DF);obtain rfl:=g.o.2.1 (ap 1 DF);clear g ap M2 C2 Qq;obtain⟨a1,l1,c1,n1,r1⟩:=X.o.poly2 (i:=0) rfl;have Qh:=Ja X.o.2.2;have N1:=Ja (And.intro n1 r1);clear X n1 r1;have hq:=BF V3.heap.size V3;have N:=N1.o.1.cell;by_cases z0:z=[]
 . rw[z0,show(([]:List Rat).length:Int)-1=-1 from rfl]at Qd;rw[z0]at N1;clear z0 j;go_wp2_with(first
    |(go_at_call 30;refine(Qd.o _ _ (N1.o.2.below hq)).mono ?_;clear Qd;rintro e v1 ⟨rfl,f⟩;have hq:=Bt hq f;clear f)
    |(go_at_call 22;refine(AL.o _).mono ?_;clear AL;rintro e v3 ⟨rfl,f⟩;have hq:=Bt hq f;clear f))
   go_ret;exact⟨rfl,Bt Qh.o hq⟩
 . obtain⟨L,bj,bk,⟨kk,aq⟩,bi⟩:=iU j.o.2.2 z0 j.o.2.1 j.o.1;obtain⟨GP,Qj,Qe⟩:=Db bi bk bj;have Qz:CtOk 42 2000 z:=Og j.o.2.2 j.o.1 j.o.2.1 DF O DF;have CH:=Ja λ(V:H) (u:Value) (hu:Je V u z)=>SI u z V hu (j.o.1.sqs O) (by have:=j.o.2.1;omega);have Qf:=Xy z.reverse;rw[List.length_reverse]at Qf;have Uf:=Ja (show sI L+2*(kk:Int)<=17 by rw[<-aq];have:=j.o.2.1;omega);rw[aq]at CH;have AZ:=Ja λ(V:H) (u:Value) (hu:Je V u z)=>MF 42 2000 u z V hu Qz;have Qm:=Ja Qz;obtain⟨m,hm⟩:=ex (z.length-1:Nat);have Ue:(z.length:Int)-1=(m:Int):=by have:=Ae.2 z0;omega
   have dt:¬(m:Int)<0:=O
   rw[Ue]at Qd;have HM:=Ja (show z.length=m+1 by have:=Ae.2 z0;omega);have Qk:=Ja z0;have Qa:=Qd;clear bi bk bj aq Qf Qz hm Ue z0;go_upto_region 5 with(go_at_call 30;refine(Qd.o _ _ (N1.o.2.below hq)).mono ?_;clear Qd;rintro e v1 ⟨rfl,f⟩;have hq:=Bt hq f;clear f)
   clear N;go_upto_region 6 with fail
   have Qn:Bl v1 (v1.alloc (.cells #[G false,F none 0 0,G false,F none 0 0] 37)):=Ba v1 _;have n5:=JM.new v1 37 (G false) (F none 0 0) (G false) (F none 0 0);obtain⟨V5,bl⟩:=ex (v1.alloc (.cells #[G false,F none 0 0,G false,F none 0 0] 37));rw[bl]at Qn n5 ⊢;obtain⟨B5,ba⟩:=ex (v1.heap.size);replace hq:=Bt hq Qn
   rw[ba]at n5 ⊢;have n1:=boxed_below N1.o.1 hq;have r1:=N1.o.2.below hq;have hw:=Bt Qh.o hq;clear bl ba Qn hq N1 Qh;have N:=n1.cell;go_upto_region 7 with(go_at_call 37;refine(GP.o _ _ r1).mono ?_;clear GP;rintro e w6 ⟨u6,rfl,gL,af⟩;obtain⟨a6,c6,rfl,df,di⟩:=gL.form)
   have N1:=Ja (And.intro (boxed_below n1 af) (And.intro (r1.below af) (And.intro (n5.below af) (And.intro gL (Bt hw af)))));clear n1 r1 n5 hw gL af N df di;go_upto_region 9 with fail
   go_loopw [12,13] (λnv iv wr=>∃k:Nat,k<=L.length/\nv=.int .i64 (sI (L.take k))/\iv=.int .i64 (k:Int)/\Hid (Bl w6 wr)) λ_ iv _=>L.length-(intOf iv).toNat
   case atStart=>exact⟨0,AO _,rfl,rfl,Ja (BF _ _)⟩
   case round=>
    obtain⟨k,hk,rfl,rfl,HB⟩:=hrel;by_cases ah:k<L.length
    . obtain⟨⟨ee,tt⟩,e1⟩:∃x,L[k]?=some x:=⟨_,Am ah⟩;obtain⟨g1,cc,de,T1⟩:=D0.toT (N1.o.2.2.2.1.below HB.o) (λe9=>by rw[e9]at ah;simp at ah);injection de with h1 h2 h3
      subst h1 h3;clear h2;obtain⟨x,x0,x1,rx⟩:=T1.2.2.2.2 k ee tt e1;have Ug:MN L k=(tt:Int):=by unfold MN;rw[e1]
      rw[Ug]at x1;obtain⟨tE,E0,lE,t1,cE⟩:=Qj.o (ee,tt) (List.mem_of_getElem? e1);obtain⟨a9,l9,c9,rfl⟩:=rx.form;have rE:Je wr (.agg #[F a9 l9 c9]) ee:=⟨_,rfl,rx⟩;have Ql:CtOk 81 2000 ee:=Og tE cE lE DF O DF;have H1:=Ja λ(V:H) (h:Bl wr V)=>MF 81 2000 _ ee V (rE.below h) Ql;have H2:=Ja λ(V:H) (h:Bl wr V)=>SH 81 2000 _ _ ee 0 V (rE.below h) (XY V) Ql (DQ.zero _ O);have dp:¬((k:Int)<0):=O
      have dj:(k:Int)<(L.length:Int):=O
      have Qx:=T1.lt;have bx:=N1.o.2.2.1.below HB.o;have HC:=Ja λ(V:H) (h:Bl wr V)=>show V.cell? ⟨g1,k*2,none⟩=some (F a9 l9 c9)/\V.cell? ⟨g1,k*2+1,none⟩=some (.int .i64 (tt:Int))/\V.cell? ⟨B5,0,none⟩=_/\V.cell? ⟨B5,1,none⟩=_/\V.cell? ⟨B5,2,none⟩=_/\V.cell? ⟨B5,3,none⟩=_ from⟨(h.cell (p:=⟨g1,_,none⟩) Qx).trans x0,(h.cell (p:=⟨g1,_,none⟩) Qx).trans x1,(bx.below h).c0,(bx.below h).c1,(bx.below h).c2,(bx.below h).c3⟩;obtain⟨⟨b1,b2⟩,b3,b4⟩:=Sn E0 lE t1;have bs:=So (L:=L.take k) (λs hs=>by obtain⟨_,h1,h2,h3,_⟩:=Qj.o s (Fu hs);exact⟨h1,h2,h3⟩);rw[Al,CK hk]at bs;have HS:=Ja (iO e1);have Qi:ES ee-Gz ee 0=GE ee:=rfl;obtain⟨A,hA⟩:=ex (ES ee);obtain⟨B,hB⟩:=ex (Gz ee 0);obtain⟨C,hC⟩:=ex (GE ee);obtain⟨S,hS⟩:=ex (sI (L.take k));rw[hA]at H1 Qi;rw[hB]at H2 Qi;rw[hC]at b1 b2 b3 b4 Qi HS;rw[hS]at bs HS ⊢;have Qc:=Qe.o;obtain⟨ai,hY⟩:=ex (C*(tt:Int):Int);rw[hY]at b3 b4 HS;have f1:IntKind.i64.wrap (A-B)=C:=by rw[Qi,BO];omega
      have f2:IntKind.i64.wrap (C*(tt:Int))=ai:=by rw[hY,BO];omega
      have f3:IntKind.i64.wrap (S+ai)=S+ai:=by rw[BO];omega
      have f4:IntKind.i64.wrap ((k:Int)+1)=(k:Int)+1:=by rw[BO];omega
      clear x0 x1 rx Ug tE E0 lE t1 cE Ql rE e1 T1 Qx bx b1 b2 b3 b4 bs Qi hA hB hC hS Qc hY;go_upto_region 11 with fail
      have hq:Bl wr wr.drew:=(BF _ wr).drew;obtain⟨P,Q,R,T,U,W⟩:=HC.o _ hq;go_region_held3 (λM=>M.cell? ⟨g1,k*2,none⟩=some (F a9 l9 c9)/\M.cell? ⟨g1,k*2+1,none⟩=some (.int .i64 (tt:Int))/\M.cell? ⟨B5,0,none⟩=some (G false)/\M.cell? ⟨B5,1,none⟩=some (F none 0 0)/\M.cell? ⟨B5,2,none⟩=some (G false)/\M.cell? ⟨B5,3,none⟩=some (F none 0 0)) (first|(with_reducible exact⟨P,Q,R,T,U,W⟩)|(go_keep;done))
       (first
        |(go_at_call 13;refine(H1.o _ hq).mono ?_;clear H1;rintro e v5 ⟨rfl,o⟩;replace hq:=Bt hq o;clear o P Q R T U W;obtain⟨P,Q,R,T,U,W⟩:=HC.o _ hq)
        |(go_at_call 15;refine(H2.o _ hq).mono ?_;clear H2;rintro e v6 ⟨rfl,o⟩;replace hq:=Bt hq o;clear o P Q R T U W;obtain⟨P,Q,R,T,U,W⟩:=HC.o _ hq))
      go_wp2_with fail
      go_roundw
      case rel=>exact⟨k+1,O,by rw[HS.o],by go_num,Ja (Bt HB.o hq)⟩
      case measure=>simp[intOf];omega
    . have dm:¬((k:Int)<(L.length:Int)):=O
      obtain rfl:k=L.length:=O
      have n1:=boxed_below N1.o.1 HB.o;have r1:=N1.o.2.1.below HB.o;have hw:=Bt N1.o.2.2.2.2 HB.o;have bs:=So (L:=L) (λs hs=>by obtain⟨_,h1,h2,h3,_⟩:=Qj.o s hs;exact⟨h1,h2,h3⟩);have Qc:=Qe.o;have Qf:=Uf.o;rw[List.take_length];obtain⟨S,hS⟩:=ex (sI L);obtain⟨c,hc⟩:=ex (S+2*(kk:Int):Int);rw[hS]at bs CH Qf ⊢;rw[hc]at CH Qf;have f1:¬c<S:=O
      have f2:IntKind.i64.wrap (c-S)=2*(kk:Int):=by rw[BO];omega
      have f3:(2*(kk:Int)).tmod 2=0:=Int.mul_tmod_right 2 _;obtain⟨d,hd⟩:∃A:Int,2*(kk:Int)=A:=⟨_,rfl⟩;rw[hd]at f2 f3;clear N1 HB bs Qc Qf hS hc hd ah hk Qj Qe Uf;have hq:=BF wr.heap.size wr;have N:=n1.cell;have HN:=Ja (And.intro n1 r1);have HQ:=Ja hw;clear n1 r1 hw;by_cases da:m=0
      . have Uh:(m:Int)<1:=O
        rw[iQ (show z.length=1 by have:=HM.o;omega)]at AZ;clear da HM j Qk Qm;go_wp2_with(first
         |(go_at_call 18;refine(CH.o _ _ (HN.o.2.below hq)).mono ?_;clear CH;rintro e v1 ⟨rfl,f⟩;have hq:=Bt hq f;clear f N;have N:=(boxed_below HN.o.1 hq).cell)
         |(go_at_call 30;refine(Qa.o _ _ (HN.o.2.below hq)).mono ?_;clear Qa;rintro e v2 ⟨rfl,f⟩;have hq:=Bt hq f;clear f N;have N:=(boxed_below HN.o.1 hq).cell)
         |(go_at_call 13;refine(AZ.o _ _ (HN.o.2.below hq)).mono ?_;clear AZ;rintro e v3 ⟨rfl,f⟩;have hq:=Bt hq f;clear f N;have N:=(boxed_below HN.o.1 hq).cell)
         |(go_at_call 22;refine(AL.o _).mono ?_;clear AL;rintro e v4 ⟨rfl,f⟩;have hq:=Bt hq f;clear f))
        go_ret;exact⟨rfl,Bt HQ.o hq⟩
      . have Uh:¬(m:Int)<1:=O
        have Ub:1<z.length:=by have:=HM.o;omega
        have cS:Cd 42 (Jb z):=j.o.1.slope (by have:=j.o.2.1;omega);have lS:(Jb z).length<=17:=An (SW z) j.o.2.1;have Qo:CtOk 43 2000 (Jb z):=Og (Jq z) cS lS DF O DF;have SL:=Ja λ(V:H) (u:Value) (hu:Je V u z)=>Lp u z V hu (j.o.1.sqs O) (OJ cS O);have vA:=RA (Jj a);have vB:=RA (Jj b);have Qy:=Ja λ(V:H)=>RG a V;have Ua:=Ja λ(V:H)=>RG b V;obtain⟨x,hx⟩:=ex (Eh (Jj a));obtain⟨y,hy⟩:=ex (Eh (Jj b));rw[hx]at vA Qy;rw[hy]at vB Ua;obtain⟨AS,BS,BZ⟩:=Db (λ(V:H) (u:Value) (hu:Je V u (Jb z))=>MF 43 2000 u (Jb z) V hu Qo) (λ(V:H) (u v v':Value) (hu:Je V u (Jb z)) (hv:Jh V v x) (ax:Jh V v' y)=>SJ 43 2000 u v v' (Jb z) x y V hu hv ax Qo vA vB) λ(V:H) (u v v':Value) (hu:Je V u z) (hv:Jh V v x) (ax:Jh V v' y)=>SJ 42 2000 u v v' z x y V hu hv ax Qm.o vA vB;have g1:=iR j.o.2.2 Ub;have g2:=iS j.o.2.2 Ub x y;have g3:=gC Qk.o j.o.2.1;have g4:=iT Qk.o j.o.2.1 x y;obtain⟨i1,cl⟩:=ex (ES z);obtain⟨i2,cn⟩:=ex (ES (Jb z));obtain⟨i3,co⟩:=ex (E5 z x y);obtain⟨i4,ct⟩:=ex (E5 (Jb z) x y);rw[cl]at AZ g1 g3;rw[cn]at AS g1;rw[co]at BZ g2 g4;rw[ct]at BS g2;obtain⟨d1,cj⟩:=ex (i1-1);obtain⟨d2,ck⟩:=ex (i3-1);have f5:IntKind.i64.wrap (i1-1)=d1:=by rw[BO];omega
        have f6:IntKind.i64.wrap (i3-1)=d2:=by rw[BO];omega
        rw[cj]at g1;rw[ck]at g2;clear da HM j Qk Qm Ub cS lS Qo vA vB hx hy g3 g4 cl cn co ct cj ck;go_upto_region 18 with(first
         |(go_at_call 18;refine(CH.o _ _ (HN.o.2.below hq)).mono ?_;clear CH;rintro e v1 ⟨rfl,f⟩;have hq:=Bt hq f;clear f N;have N:=(boxed_below HN.o.1 hq).cell)
         |(go_at_call 30;refine(Qa.o _ _ (HN.o.2.below hq)).mono ?_;clear Qa;rintro e v2 ⟨rfl,f⟩;have hq:=Bt hq f;clear f N;have N:=(boxed_below HN.o.1 hq).cell))
        go_upto_region 19 with(go_at_call 38;refine(SL.o _ _ (HN.o.2.below hq)).mono ?_;clear SL;rintro e wS ⟨uS,rfl,gS,bz⟩;obtain⟨aS,lS,cS,rfl⟩:=gS.form)
        have Qr:Bl wS (wS.alloc (.cells #[F aS lS cS] 25)):=Ba wS _;have nS:=BG wS 25 (F aS lS cS);have rS:=gS.below Qr;have Qw:=Bt bz Qr
        obtain⟨VS,bm⟩:=ex (wS.alloc (.cells #[F aS lS cS] 25));rw[bm]at nS rS Qw ⊢;obtain⟨db,bc⟩:∃B,wS.heap.size=B:=⟨_,rfl⟩;rw[bc]at nS ⊢;replace hq:=Bt hq Qw
        clear bm bc gS Qr bz Qw N;go_upto_region 20 with(go_at_call 12;refine(Qy.o _).mono ?_;clear Qy;rintro e wX ⟨uX,rfl,gX,ce⟩;obtain⟨sX,aX,lX,cX,tX,bX,kX,dX,rfl⟩:=Jh.form gX)
        have Qu:Bl wX (wX.alloc (.cells #[G sX,F aX lX cX,G tX,F bX kX dX] 37)):=Ba wX _;have nX:=JM.new wX 37 (G sX) (F aX lX cX) (G tX) (F bX kX dX);have rX:=gX.below Qu;have Qg:=Bt ce Qu
        obtain⟨VX,bn⟩:=ex (wX.alloc (.cells #[G sX,F aX lX cX,G tX,F bX kX dX] 37));rw[bn]at nX rX Qg ⊢;obtain⟨BX,bf⟩:=ex (wX.heap.size);rw[bf]at nX ⊢;replace hq:=Bt hq Qg
        replace nS:=boxed_below nS Qg;replace rS:=rS.below Qg;clear bn bf gX Qu ce Qg;go_upto_region 21 with(go_at_call 12;refine(Ua.o _).mono ?_;clear Ua;rintro e wY ⟨uY,rfl,gY,ci⟩;obtain⟨sY,aY,lY,cY,tY,bY,kY,dY,rfl⟩:=Jh.form gY)
        have Qt:Bl wY (wY.alloc (.cells #[G sY,F aY lY cY,G tY,F bY kY dY] 37)):=Ba wY _;have nY:=JM.new wY 37 (G sY) (F aY lY cY) (G tY) (F bY kY dY);have rY:=gY.below Qt;have Qb:=Bt ci Qt
        obtain⟨VY,bt⟩:=ex (wY.alloc (.cells #[G sY,F aY lY cY,G tY,F bY kY dY] 37));rw[bt]at nY rY Qb ⊢;obtain⟨BY,bg⟩:=ex (wY.heap.size);rw[bg]at nY ⊢;replace hq:=Bt hq Qb
        replace nS:=boxed_below nS Qb;replace rS:=rS.below Qb;replace nX:=nX.below Qb;replace rX:=rX.below Qb;have n1:=boxed_below HN.o.1 hq;have r1:=HN.o.2.below hq;have HW:=Ja (Bt HQ.o hq);clear bt bg gY Qt ci Qb hq HN HQ;obtain⟨HC,H1,H2,H3,H4⟩:=Gb (λ(V:H) (h:Bl VY V)=>show(V.cell? _=_/\V.cell? _=_)/\(V.cell? ⟨BX,0,none⟩=_/\V.cell? ⟨BX,1,none⟩=_/\V.cell? ⟨BX,2,none⟩=_/\V.cell? ⟨BX,3,none⟩=_)/\(V.cell? ⟨BY,0,none⟩=_/\V.cell? ⟨BY,1,none⟩=_/\V.cell? ⟨BY,2,none⟩=_/\V.cell? ⟨BY,3,none⟩=_)from⟨⟨(boxed_below n1 h).cell,(boxed_below nS h).cell⟩,⟨(nX.below h).c0,(nX.below h).c1,(nX.below h).c2,(nX.below h).c3⟩,⟨(nY.below h).c0,(nY.below h).c1,(nY.below h).c2,(nY.below h).c3⟩⟩) (λ(V:H) (h:Bl VY V)=>AS.o V _ (rS.below h)) (λ(V:H) (h:Bl VY V)=>AZ.o V _ (r1.below h)) (λ(V:H) (h:Bl VY V)=>BS.o V _ _ _ (rS.below h) (rX.below h) (rY.below h)) λ(V:H) (h:Bl VY V)=>BZ.o V _ _ _ (r1.below h) (rX.below h) (rY.below h);clear AS AZ BS BZ n1 r1 nS rS nX rX nY rY;have hq:Bl VY VY.drew:=(BF _ VY).drew;obtain⟨⟨P,Q⟩,⟨R,T,U,W⟩,k6,k7,k8,k9⟩:=HC.o _ hq;go_region_held3 (λM=>(M.cell? ⟨B1,0,none⟩=some (F a1 l1 c1)/\M.cell? ⟨db,0,none⟩=some (F aS lS cS))/\(M.cell? ⟨BX,0,none⟩=some (G sX)/\M.cell? ⟨BX,1,none⟩=some (F aX lX cX)/\M.cell? ⟨BX,2,none⟩=some (G tX)/\M.cell? ⟨BX,3,none⟩=some (F bX kX dX))/\(M.cell? ⟨BY,0,none⟩=some (G sY)/\M.cell? ⟨BY,1,none⟩=some (F aY lY cY)/\M.cell? ⟨BY,2,none⟩=some (G tY)/\M.cell? ⟨BY,3,none⟩=some (F bY kY dY))) (first|(with_reducible exact⟨⟨P,Q⟩,⟨R,T,U,W⟩,k6,k7,k8,k9⟩)|(go_keep;done))
         (first
          |(go_at_call 13;refine(H1.o _ hq).mono ?_;clear H1;rintro e dx ⟨rfl,o⟩;replace hq:=Bt hq o;clear o P Q R T U W k6 k7 k8 k9;obtain⟨⟨P,Q⟩,⟨R,T,U,W⟩,k6,k7,k8,k9⟩:=HC.o _ hq)
          |(go_at_call 13;refine(H2.o _ hq).mono ?_;clear H2;rintro e dz ⟨rfl,o⟩;replace hq:=Bt hq o;clear o P Q R T U W k6 k7 k8 k9;obtain⟨⟨P,Q⟩,⟨R,T,U,W⟩,k6,k7,k8,k9⟩:=HC.o _ hq)
          |(go_at_call 20;refine(H3.o _ hq).mono ?_;clear H3;rintro e ed ⟨rfl,o⟩;replace hq:=Bt hq o;clear o P Q R T U W k6 k7 k8 k9;obtain⟨⟨P,Q⟩,⟨R,T,U,W⟩,k6,k7,k8,k9⟩:=HC.o _ hq)
          |(go_at_call 20;refine(H4.o _ hq).mono ?_;clear H4;rintro e ei ⟨rfl,o⟩;replace hq:=Bt hq o;clear o P Q R T U W k6 k7 k8 k9;obtain⟨⟨P,Q⟩,⟨R,T,U,W⟩,k6,k7,k8,k9⟩:=HC.o _ hq)
          |(go_at_call 22;refine(AL.o _).mono ?_;clear AL;rintro e du ⟨rfl,o⟩;replace hq:=Bt hq o;clear o P Q R T U W k6 k7 k8 k9;obtain⟨⟨P,Q⟩,⟨R,T,U,W⟩,k6,k7,k8,k9⟩:=HC.o _ hq))
        go_wp2_with fail
        go_ret;exact⟨rfl,Bt HW.o hq⟩
