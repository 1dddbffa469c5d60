import Derived.Test.YtakpoihdghihmaaGreatDoorL47
set_option maxRecDepth 100000
set_option maxHeartbeats 16000000
namespace Go.Proofs.YtakpoihdghihmaaGreatDoor
theorem Lk(l:List Rat):∀a,EI a l≤l.length:=by
 induction l with
 |nil=>intro a;exact Aa _
 |cons b l ih=>
  intro a;have h1:=ih a;have h2:=ih b;unfold EI;rw[Ad];split
  · omega
  · split<;>omega
theorem dN(l:List Rat):DR l≤l.length-1:=by
 cases l with
 |nil=>exact Aa _
 |cons a l=>
  have h1:=Lk l a;have h2:=Lk l 0;unfold DR EI;rw[Ad,Cy,BE (show ¬(0:Rat)<0 by decide)];split
  · induction l generalizing a with
    |nil=>exact Aa _
    |cons b l ih=>
     have h3:=Lk l b;have h4:=Lk l 0;unfold EI;rw[Ad,Cy,BE (show ¬(0:Rat)<0 by decide)];split<;>omega
  · omega
theorem dO:∀(n:Nat) (a b:List Rat),b.length≤n→Jc b=b→(EY a b).length≤b.length+1:=by
 intro n;induction n with
 |zero=>
  intro a b hn _
  have:b=[]:=AE.1 (by omega)
  subst this;exact Aa _
 |succ n ih=>
  intro a b hn tb;by_cases b0:b=[]
  · subst b0;exact Aa _
  · have hl:=Xi (a:=a) tb b0;have:=ih b (YN a b) (by omega) (Gv _ _);rw[XD tb b0,Ad];omega
theorem dP{p:List Rat}(p0:p≠[]):(Ju p).length≤p.length:=by
 unfold Ju X6;rw[C4];have h1:=dO _ (JL p) (JL (Jd p)) (Aa _) (Yq _);rw[J2 (J1 p)]at h1;have:=RP p0;omega
theorem dQ{p:List Rat}(p0:p≠[]):DR (EB (Ju p))≤p.length-1:=by
 have h1:=dN (EB (Ju p));have h2:(EB (Ju p)).length=(Ju p).length:=by unfold EB;rw[C4]
 have h3:=dP p0;omega
theorem dR{p q:List Rat}(tp:Jc p=p)(p0:p≠[])(tq:Jc q=q)(q0:q≠[])(h:DW p=DW q){a b:Rat}(hab:a≤b):
 DR (JJ (Ju p) a)+DR (JJ (Ju q) b)=DR (JJ (Ju p) b)+DR (JJ (Ju q) a):=by
 obtain⟨A,A0,hA⟩:=Yt a;obtain⟨C,C0,hC⟩:=Yt b;have hB:0≤A+C:=by grind
 have h2:=glue (B:=A+C) (F:=fun x=>DR (JJ (YO p) x)) (G:=fun x=>DR (JJ (YO q) x)) (((X8 tp p0 hB).and (X8 tq q0 hB)).mono fun x z _ _ _ ⟨i1,i2⟩=>by
  show DR (JJ (YO p) x)+DR (JJ (YO q) z)=DR (JJ (YO p) z)+DR (JJ (YO q) x);rw[h]at i1;omega) (hA.mono (by grind)) (hC.mono (by grind)) hab
 have h2:DR (JJ (YO p) a)+DR (JJ (YO q) b)=DR (JJ (YO p) b)+DR (JJ (YO q) a):=h2;have j3:=X7 tp p0 hab;have j4:=X7 tq q0 hab;omega
theorem Rk{p q:List Rat}(tp:Jc p=p)(p0:p≠[])(tq:Jc q=q)(q0:q≠[])(h:DW p=DW q)(x:Rat):
 DR (EB (Ju p))+DR (JJ (Ju q) x)=DR (JJ (Ju p) x)+DR (EB (Ju q)):=by
 obtain⟨B3,b3,_,f3⟩:=Xv (Yp tp p0);obtain⟨B4,b4,_,f4⟩:=Xv (Yp tq q0);obtain⟨X,X0,hX⟩:=Yt x;obtain⟨y,hy⟩:∃y,-(B3+B4+X)=y:=⟨_,rfl⟩;have h2:=dR tp p0 tq q0 h (a:=y) (b:=x) (by have:=hX.1;clear f3 f4;grind);rw[f3 y (by clear f3 f4;grind),f4 y (by clear f3 f4;grind)]at h2;exact h2
theorem dS{p q:List Rat}(tp:Jc p=p)(p0:p≠[])(tq:Jc q=q)(q0:q≠[])(h:DW p=DW q):
 DR (EB (Ju p))+DR (FJ (Ju q))=DR (FJ (Ju p))+DR (EB (Ju q)):=by
 obtain⟨B3,b3,f3,_⟩:=Xv (Yp tp p0);obtain⟨B4,b4,f4,_⟩:=Xv (Yp tq q0);obtain⟨y,hy⟩:=ex (B3+B4);have h2:=Rk tp p0 tq q0 h y;rw[f3 y (by clear f3 f4;grind),f4 y (by clear f3 f4;grind)]at h2;exact h2
theorem dT{p:List Rat}{c:Rat}(hc:c≠0)(tp:Jc p=p):DW (DU c p)=DW p:=by
 unfold DW;rw[KX hc tp]
theorem dU{s:Rat}(hs:s*s=1):s=1∨s=-1:=by
 have:(s-1)*(s+1)=0:=by grind
 rcases Ch.1 this with h|h
 · left;grind
 · right;grind
theorem dV{s K u:Rat}(hs:s*s=1)(h:Wi K u):∀n:Nat,Wi K (s^n*u):=by
 intro n;induction n with
 |zero=>rw[Rat.pow_zero,Cx];exact h
 |succ n ih=>
  rw[Rat.pow_succ];rcases dU hs with e|e
  · rw[e]at ih ⊢;rw[Rat.mul_one];exact ih
  · rw[e]at ih ⊢;have:=ih.neg;rwa[show -((-1:Rat)^n*u)=(-1)^n*-1*u by grind]at this
theorem dW{s M:Rat}(hs:s*s=1)(hM:0≤M):∀p:List Rat,Jc p=p→p≠[]→∀k,cf p (p.length-1)=k→(∀i,i+1<p.length→Wi (M*(k*k)) (k*cf p i))→∀x,1+M≤x→k*k≤s^(p.length-1)*(k*ev p (s*x)):=by
 intro p;induction p with
 |nil=>intro _ h;exact absurd rfl h
 |cons c t ih=>
  intro tp p0 k hk hc x hx;by_cases t0:t=[]
  · subst t0
    have:c=k:=by rw[←hk];simp[cf]
    subst this;rw[Js];simp
  · have hl:=Af.2 t0;obtain⟨n,hn⟩:∃n,t.length=n+1:=⟨t.length-1,by omega⟩;have Qa:cf t n=k:=by
     rw[←hk,Ad,hn,show n+1+1-1=n+1 by omega,JI]
    have k0:cf t n≠0:=by
     have:=Jq tp p0;rwa[hk,←Qa]at this
    have tt:Jc t=t:=YR (Or.inr (by rw[hn,show n+1-1=n by omega];exact k0));have h1:=ih tt t0 k (by rw[hn,show n+1-1=n by omega];exact Qa) (fun i hi=>by
     have:=hc (i+1) (by rw[Ad];omega);rwa[JI]at this) x hx
    rw[hn,show n+1-1=n by omega]at h1;have h2:=hc 0 (by rw[Ad];omega);rw[Yf]at h2;have h3:=(dV hs h2 (n+1)).1;rw[Ad,hn,show n+1+1-1=n+1 by omega,IK];have e:s^(n+1)*(k*(c+s*x*ev t (s*x)))=s^(n+1)*(k*c)+x*(s^n*(k*ev t (s*x))):=by
     rw[Rat.pow_succ];grind
    rw[e];have h4:=Rat.mul_nonneg (a:=x) (b:=s^n*(k*ev t (s*x))-k*k) (by grind) (by grind);have h5:=Rat.mul_nonneg (a:=x-(1+M)) (b:=k*k) (by grind) (XJ k);grind
theorem quiet{p:List Rat}(tp:Jc p=p)(p0:p≠[]){U:Rat→Prop}{e B:Rat}(he:0<e)(h:∀x,U x→e≤ev p x*ev p x)(hB:0≤B):Sh B fun x z=>U x→Ej (DW p) x z=0:=by
 obtain⟨c,hc⟩:=Rj tp p0;obtain⟨C,pC,hC⟩:=XU c hB;obtain⟨f,f0,hf⟩:=small (K:=(C*C)*1) (r:=e/2) (Rat.le_of_lt (by have:=Rat.mul_pos pC pC;grind)) (by grind);obtain⟨f2,f20,l1,l2⟩:=Kd f0 (show(0:Rat)<1 by decide);refine(Hb (DW p) hB f20).mono fun x z hx _ _ ht hU=>?_;refine Rc (Classical.byContradiction fun hn=>?_);have h1:=(ht hn).1;have h2:=h x hU;rw[hc x]at h2;have h3:=I5 h1;have h4:=I5 (hC x hx);have h5:=hf f2 l1;have i1:=Rat.mul_nonneg (a:=f2*f2-ev (DW p) x*ev (DW p) x) (b:=ev c x*ev c x) (by grind) (XJ _);have i2:=Rat.mul_nonneg (a:=f2*f2) (b:=C*C-ev c x*ev c x) (XJ _) (by grind);have i3:=Rat.mul_nonneg (a:=C*C) (b:=f2*(1-f2)) (XJ _) (Rat.mul_nonneg (by grind) (by grind));grind
theorem dX{B:Rat}{F:Rat→Nat}{U:Rat→Prop}(h:Sh B fun x y=>U x→F x=F y){a b:Rat}(ha:Wi B a)(hb:Wi B b)(hab:a≤b)(hu:∀x,a≤x→x≤b→U x):F a=F b:=by
 obtain⟨d,d0,h⟩:=h;obtain⟨n,hn⟩:=steps d0 a b
 have:∀(n:Nat) (a':Rat),a≤a'→Wi B a'→a'≤b→b-a'≤(n:Rat)*d→F a'=F b:=by
  intro n;induction n with
  |zero=>
   intro a' _ ha hab h0;have e:a'=b:=by
    have:((0:Nat):Rat)=0:=rfl
    rw[this]at h0;grind
   rw[e]
  |succ n ih=>
   intro a' h9 ha hab h0;have e1:((n+1:Nat):Rat)=(n:Rat)+1:=by rw[Rat.natCast_add];rfl
   rw[e1]at h0;rcases Ye (b-a') d with h1|h1
   · exact h a' b ha hb hab h1 (hu a' h9 hab)
   · have hc:Wi B (a'+d):=⟨by have:=ha.1;grind,by have:=hb.2;grind⟩;have h2:=h a' (a'+d) ha hc (by grind) (by grind) (hu a' h9 hab);have h3:=ih (a'+d) (by grind) hc (by grind) (by grind);omega
 exact this n a Rat.le_refl ha hab hn
theorem Rl{p:List Rat}(tp:Jc p=p)(p0:p≠[]){e:Rat}(he:0<e){a b:Rat}(hab:a≤b)(h:∀x,a≤x→x≤b→e≤ev p x*ev p x):DR (JJ (Ju p) a)=DR (JJ (Ju p) b):=by
 obtain⟨A,A0,hA⟩:=Yt a;obtain⟨C,C0,hC⟩:=Yt b;have hB:0≤A+C:=by clear h;grind
 have h2:=dX (B:=A+C) (F:=fun x=>DR (JJ (YO p) x)) (U:=fun x=>a≤x∧x≤b) (((X8 tp p0 hB).and (quiet tp p0 he (U:=fun x=>a≤x∧x≤b) (fun x hx=>h x hx.1 hx.2) hB)).mono fun x z _ _ _ ⟨i1,i2⟩ hU=>by
  show DR (JJ (YO p) x)=DR (JJ (YO p) z);have i3:=i2 hU;omega) (hA.mono (by clear h;grind)) (hC.mono (by clear h;grind)) hab (fun x h1 h2=>⟨h1,h2⟩)
 have h2:DR (JJ (YO p) a)=DR (JJ (YO p) b):=h2;have j3:=X7 tp p0 hab;omega
theorem dY(a:Rat):∀(p:List Rat) (x:Rat),dv (JG a p) x=dv p (x+a):=by
 intro p;induction p with
 |nil=>intro x;rfl
 |cons c t ih=>
  intro x;have e1:dv (JG a (c::t)) x=ev (JG a t) x+(x+a)*dv (JG a t) x:=by
   rw[JG];unfold Y8 Jn;rw[I2 (J0 _),OL,I2 (J0 _),ON,I2 (J0 _)];simp only[Yj,ev,dv];grind
  rw[e1,ih,Y4];rfl
theorem dZ(a:Rat)(p:List Rat)(x:Rat):ev (Jd (JG a p)) x=ev (Jd p) (x+a):=by
 rw[YZ,YZ,dY]
theorem Da.mov{u v:List Rat}(h:Da u v)(a:Rat):Da (JG a u) (JG a v):=by
 obtain⟨s,t,h⟩:=h;exact⟨JG a s,JG a t,fun x=>by rw[Y4,Y4,Y4,Y4];exact h _⟩
theorem Da.ext{u v u2 v2:List Rat}(h:Da u v)(h1:∀x,ev u2 x=ev u x)(h2:∀x,ev v2 x=ev v x):Da u2 v2:=by
 obtain⟨s,t,h⟩:=h;exact⟨s,t,fun x=>by rw[h1,h2];exact h x⟩
theorem IG{a:Rat}{p:List Rat}(tp:Jc p=p)(p0:p≠[]):JG a p≠[]:=fun e=>p0 (AE.1 (by rw[←OT a p tp,e];rfl))
theorem Rm(a:Rat)(p:List Rat)(x:Rat):ev (JG a (JG (-a) p)) x=ev p x:=by
 rw[Y4,Y4];congr 1;grind
theorem da{p:List Rat}(tp:Jc p=p)(p0:p≠[])(a:Rat):∃k,k≠0∧DW (JG a p)=DU k (JG a (DW p)):=by
 have y:=Kf tp p0;have tm:=XW a p;have m0:=IG (a:=a) tp p0;have ym:=Kf tm m0;have tv:=XW a (DW p);have v0:=IG (a:=a) y.tw y.w0;have sv:Ga (JG a (DW p)):=((Rh tp p0).mov a).ext (fun _=>rfl) fun x=>by rw[dZ,Y4]
 have Qa:∀c,Da (DW (JG a p)) c↔Da (JG a (DW p)) c:=fun c=>by
  rw[OB tm m0];constructor
  · intro h;have h1:Da p (JG (-a) c):=(h.mov (-a)).ext (fun x=>by rw[Y4,Y4];congr 1;grind) (fun _=>rfl);exact(((OB tp p0 _).2 h1).mov a).ext (fun _=>rfl) (fun x=>(Rm a c x).symm)
  · intro h;have h1:Da (DW p) (JG (-a) c):=(h.mov (-a)).ext (fun x=>by rw[Y4,Y4];congr 1;grind) (fun _=>rfl);exact(((OB tp p0 _).1 h1).mov a).ext (fun _=>rfl) (fun x=>(Rm a c x).symm)
 have d1:=Ga.dv (u:=DW (JG a p)) (v:=JG a (DW p)) ym.tw tv v0 sv fun c h=>(Qa c).1 h;have d2:=Ga.dv (u:=JG a (DW p)) (v:=DW (JG a p)) tv ym.tw ym.w0 (Rh tm m0) fun c h=>(Qa c).2 h;exact Dv.anti tv ym.tw d1 d2
theorem db{k:Rat}(hk:k≠0)(w:List Rat)(x z:Rat):Ej (DU k w) x z=Ej w x z:=by
 have k2:0<k*k:=by
  have:=XB (f:=[k]) hk (fun x=>Js _ x) 0 0;unfold Do at this;rwa[Js]at this
 unfold Ej;rw[JH,JH];by_cases h:ev w x≠0∧ev w x*ev w z≤0
 · rw[BH h,BH];refine⟨fun e=>?_,?_⟩
   · rcases Ch.1 e with e|e
     · exact h.1 e
     · exact hk e
   · have:=Rat.mul_nonneg (a:=k*k) (b:=-(ev w x*ev w z)) (by grind) (by have:=h.2;grind);grind
 · rw[BE h,BE];rintro⟨h1,h2⟩;refine h ⟨fun e=>h1 (by rw[e];grind),?_⟩;rcases Ye (ev w x*ev w z) 0 with q|q
   · exact q
   · rcases Rat.le_iff_lt_or_eq.1 q with q|q
     · have:=Rat.mul_pos k2 q;grind
     · rw[←q];exact Rat.le_refl
theorem de(a:Rat)(w:List Rat)(x z:Rat):Ej (JG a w) x z=Ej w (x+a) (z+a):=by
 unfold Ej;rw[Y4,Y4]
theorem Sh.shift{B A a:Rat}{P:Rat→Rat→Prop}(h:Sh (B+A) P)(ha:Wi A a):Sh B fun x z=>P (x+a) (z+a):=by
 obtain⟨d,d0,h⟩:=h;exact⟨d,d0,fun x y hx hy hxy hd=>h (x+a) (y+a) (hx.add ha) (hy.add ha) (by grind) (by grind)⟩
theorem df{p:List Rat}(tp:Jc p=p)(p0:p≠[])(m:Rat){a b:Rat}(hab:a≤b):
 DR (JJ (Ju (JG m p)) a)+DR (JJ (Ju p) (b+m))=DR (JJ (Ju (JG m p)) b)+DR (JJ (Ju p) (a+m)):=by
 have tm:=XW m p;have m0:=IG (a:=m) tp p0;obtain⟨k,k0,hk⟩:=da tp p0 m;obtain⟨A,A0,hA⟩:=Yt a;obtain⟨C,C0,hC⟩:=Yt b;obtain⟨M,M0,hM⟩:=Yt m;have hB:0≤A+C:=by grind
 have s2:=(X8 tp p0 (B:=A+C+M) (by grind)).shift hM;have h2:=glue (B:=A+C) (F:=fun x=>DR (JJ (YO (JG m p)) x)) (G:=fun x=>DR (JJ (YO p) (x+m))) (((X8 tm m0 hB).and s2).mono fun x z _ _ _ ⟨i1,i2⟩=>by
  show DR (JJ (YO (JG m p)) x)+DR (JJ (YO p) (z+m))=DR (JJ (YO (JG m p)) z)+DR (JJ (YO p) (x+m));have i3:Ej (DW (JG m p)) x z=Ej (DW p) (x+m) (z+m):=by rw[hk,db k0,de]
  omega) (hA.mono (by grind)) (hC.mono (by grind)) hab
 have h2:DR (JJ (YO (JG m p)) a)+DR (JJ (YO p) (b+m))=DR (JJ (YO (JG m p)) b)+DR (JJ (YO p) (a+m)):=h2;have j3:=X7 tm m0 hab;have j4:=X7 tp p0 (a:=a+m) (b:=b+m) (by grind);omega
def GN(a b:Rat):Rat:=if a<b then b else a
def Ds(p:List Rat):Nat→Rat
 |0=>0
 |n+1=>GN (Ds p n) (Yl (cf p n/cf p (p.length-1)))
def Yb(p:List Rat):Rat:=Ds p (p.length-1)+1
theorem Rn(p:List Rat)(n:Nat):0≤Ds p n:=by
 induction n with
 |zero=>exact Rat.le_refl
 |succ n ih=>
  rw[Ds,GN];split
  · grind
  · exact ih
theorem dh(p:List Rat)(n:Nat):∀i,i<n→Yl (cf p i/cf p (p.length-1))≤Ds p n:=by
 induction n with
 |zero=>intro i h;omega
 |succ n ih=>
  intro i h;rw[Ds,GN];by_cases e:i=n
  · subst e;split<;>grind
  · have:=ih i (by omega);split<;>grind
theorem di{p:List Rat}(tp:Jc p=p)(p0:p≠[])(i:Nat)(h:i+1<p.length):Wi (Ds p (p.length-1)*(cf p (p.length-1)*cf p (p.length-1))) (cf p (p.length-1)*cf p i):=by
 have h1:=dh p (p.length-1) i (by omega);have k0:=Jq tp p0;generalize Ds p (p.length-1)=M at *;generalize cf p (p.length-1)=k at *;generalize cf p i=c at *;have e:c=c/k*k:=(Aq k0).symm;obtain⟨r,hr⟩:=ex (c/k);rw[hr]at h1 e;have h2:-M≤r∧r≤M:=by
  unfold Yl at h1;split at h1<;>constructor<;>grind
 have kk:=XJ k;have i1:=Rat.mul_nonneg (a:=M-r) (b:=k*k) (by grind) kk;have i2:=Rat.mul_nonneg (a:=M+r) (b:=k*k) (by grind) kk;rw[e];constructor<;>grind
theorem Ll(p:List Rat):0<Yb p:=by
 have:=Rn p (p.length-1);unfold Yb;grind
theorem dj{k v:Rat}(k0:k≠0)(h:k*k≤k*v):k*k≤v*v:=by
 have kk:0<k*k:=by
  have:=XB (f:=[k]) k0 (fun x=>Js _ x) 0 0;unfold Do at this;rwa[Js]at this
 have i1:=Rat.mul_nonneg (a:=k*v-k*k) (b:=k*v+k*k) (by grind) (by grind);rcases Ye (k*k) (v*v)with h|h
 · exact h
 · rcases Rat.le_iff_lt_or_eq.1 h with h|h
   · have:=Rat.mul_pos (a:=k*k) (b:=k*k-v*v) kk (by grind);grind
   · grind
theorem sq_pow{s:Rat}(hs:s*s=1)(n:Nat):s^n*s^n=1:=by
 induction n with
 |zero=>grind
 |succ n ih=>rw[Rat.pow_succ];grind
theorem OC{p:List Rat}(tp:Jc p=p)(p0:p≠[]){s:Rat}(hs:s*s=1){x:Rat}(hx:Yb p≤x):cf p (p.length-1)*cf p (p.length-1)≤ev p (s*x)*ev p (s*x):=by
 have k0:=Jq tp p0;have h:=dW hs (Rn p (p.length-1)) p tp p0 _ rfl (di tp p0) x (by unfold Yb at hx;grind);have e:=sq_pow hs (p.length-1);generalize s^(p.length-1)=r at *;generalize cf p (p.length-1)=k at *;generalize ev p (s*x)=v at *;have:=dj (k:=k) (v:=r*v) k0 (by grind);have e2:r*v*(r*v)=(r*r)*(v*v):=by grind
 rw[e2,e,Cx]at this;exact this
theorem OD{p:List Rat}(tp:Jc p=p)(p0:p≠[]):0<cf p (p.length-1)*cf p (p.length-1):=by
 have:=XB (f:=[cf p (p.length-1)]) (Jq tp p0) (fun x=>Js _ x) 0 0;unfold Do at this;rwa[Js]at this
theorem dk{p:List Rat}(tp:Jc p=p)(p0:p≠[]):DR (JJ (Ju p) (Yb p))=DR (FJ (Ju p)):=by
 obtain⟨B,B0,h1,_⟩:=Xv (Yp tp p0);have b0:=Ll p;have:=Rl tp p0 (OD tp p0) (a:=Yb p) (b:=Yb p+B) (by clear h1;grind) (fun x hx _=>by
  have:=OC tp p0 (s:=1) (by grind) hx;rwa[Cx]at this)
 rw[this,h1 (Yb p+B) (by clear h1;grind)]
theorem dm{p:List Rat}(tp:Jc p=p)(p0:p≠[]):DR (JJ (Ju p) (-(Yb p)))=DR (EB (Ju p)):=by
 obtain⟨B,B0,_,h1⟩:=Xv (Yp tp p0);have b0:=Ll p;have:=Rl tp p0 (OD tp p0) (a:=-(Yb p+B)) (b:=-(Yb p)) (by clear h1;grind) (fun x _ hx=>by
  have:=OC tp p0 (s:=-1) (by grind) (x:=-x) (by clear h1;grind);rwa[show(-1:Rat)*-x=x by clear h1;grind]at this)
 rw[←this,h1 (-(Yb p+B)) (by clear h1;grind)]
theorem dp{p:List Rat}(tp:Jc p=p)(p0:p≠[]):ev p (Yb p)≠0:=fun e=>by
 have h1:=OC tp p0 (s:=1) (by grind) (x:=Yb p) Rat.le_refl;have h2:=OD tp p0;rw[Cx,e]at h1;grind
theorem Ro{p:List Rat}(tp:Jc p=p)(p0:p≠[])(m y:Rat):DR (EB (Ju (JG m p)))+DR (JJ (Ju p) (y+m))=DR (JJ (Ju (JG m p)) y)+DR (EB (Ju p)):=by
 obtain⟨B,B0,_,h1⟩:=Xv (Yp tp p0);obtain⟨C,C0,_,h2⟩:=Xv (Yp (XW m p) (IG (a:=m) tp p0));obtain⟨M,M0,hM⟩:=Yt m;obtain⟨Y,Y0,hY⟩:=Yt y;have h4:=hM.2;have h5:=hY.1;have:=df tp p0 m (a:=-(B+C+M+Y)) (b:=y) (by clear h1 h2;grind);rw[h2 (-(B+C+M+Y)) (by clear h1 h2;grind),h1 (-(B+C+M+Y)+m) (by clear h1 h2;grind)]at this;exact this
theorem dt{p:List Rat}(tp:Jc p=p)(p0:p≠[])(m:Rat):DR (EB (Ju (JG m p)))+DR (FJ (Ju p))=DR (FJ (Ju (JG m p)))+DR (EB (Ju p)):=by
 obtain⟨B,B0,h1,_⟩:=Xv (Yp tp p0);obtain⟨C,C0,h2,_⟩:=Xv (Yp (XW m p) (IG (a:=m) tp p0));obtain⟨M,M0,hM⟩:=Yt m;have h3:=hM.1;have:=Ro tp p0 m (B+C+M);rw[h2 (B+C+M) (by clear h1 h2;grind),h1 (B+C+M+m) (by clear h1 h2;grind)]at this;exact this
theorem du{p:List Rat}{c:Rat}(hc:c≠0)(tp:Jc p=p):Jn p [c]=DU c p∧DW (Jn p [c])=DW p:=by
 have e:Jn p [c]=DU c p:=XH (J3 _ _) (JX _) fun x=>by rw[Jh,Js,JH]
 exact⟨e,by rw[e];exact dT hc tp⟩
def nA(p:List Rat):Int:=(DR (EB (Ju p)):Int)-(DR (FJ (Ju p)):Int)
def nB(p:List Rat)(x:Rat):Int:=(DR (EB (Ju p)):Int)-(DR (JJ (Ju p) x):Int)
section
variable {p q:List Rat} (tp:Jc p=p) (p0:p≠[]) (tq:Jc q=q) (q0:q≠[])
end
structure Made(p:List Rat)(R:List Rat):Prop where
 tp:Jc p=p
 p0:p≠[]
 all:nA p=(R.length:Int)
 bel:∀x,nB p x=((R.filter fun r=>decide (r≤x)).length:Int)
 rt:∀r,ev p r=0↔r∈R
section
variable {p:List Rat} (tp:Jc p=p) (p0:p≠[])
theorem dw (tp:Jc p=p) (p0:p≠[]):0≤ET p∧ET p≤(p.length:Int)-1:=by
 have h1:=Rf tp p0 0;have h2:=Rg tp p0 0;have h3:=dQ p0;have:=Af.2 p0;unfold ET;rw[BE p0];omega
theorem Rp (tp:Jc p=p) (p0:p≠[])(x:Rat):0≤EC p x∧EC p x≤ET p:=by
 have h1:=Rf tp p0 x;have h2:=Rg tp p0 x;unfold ET EC;rw[BE p0,BE p0];omega
theorem dx (tp:Jc p=p) (p0:p≠[]):EC p (Yb p)=ET p∧EC p (-(Yb p))=0:=by
 unfold ET EC;rw[BE p0,BE p0,BE p0,dk tp p0,dm tp p0];omega
theorem dz (tp:Jc p=p) (p0:p≠[])(m y:Rat):ET (JG m p)=ET p∧EC (JG m p) y=EC p (y+m):=by
 have h1:=dt tp p0 m;have h2:=Ro tp p0 m y;unfold ET EC;rw[BE p0,BE p0,BE (IG (a:=m) tp p0),BE (IG (a:=m) tp p0)];omega
theorem eC (tp:Jc p=p) (p0:p≠[]){c:Rat}(hc:c≠0)(y:Rat):ET (Jn p [c])=ET p∧EC (Jn p [c]) y=EC p y:=by
 have tc:Jc [c]=[c]:=YR (Or.inr (by show c≠0;exact hc));have z0:=cM tp tc p0 (by simp);have e:=(du hc tp).2;have h1:=dS (J3 p [c]) z0 tp p0 e;have h2:=Rk (J3 p [c]) z0 tp p0 e y;unfold ET EC;rw[BE p0,BE p0,BE z0,BE z0];omega
end
theorem eD{p:List Rat}(p0:p≠[])(x y:Rat):(x<y→GF p x y=EC p y-EC p x)∧(y≤x→GF p x y=0):=by
 unfold GF EC;rw[BE p0,BE p0,BE p0];refine⟨fun h=>?_,fun h=>BH h⟩;rw[BE (Rat.not_le.2 h)];omega
namespace M3
open Go.RowKit Go.Shelf
attribute [local go_sem] Oper.semAt_some
end M3
section
open Go.RowKit Go.Shelf
structure Shn(f s:List Rat)(A M:Nat)(a b:List Rat):Prop where
 ta:Jc a=a
 tb:Jc b=b
 ca:Cd (A+1) a
 cb:Cd M b
 lb:Ln A b
 la:a.length≤f.length
 ll:b.length≤f.length
 eu:Eu f (Yn s) a (Yn b)
structure RwOk(J K:Nat)(p:List Rat):Prop where
 fr:M3.FrOk J p
 p0:p≠[]
 cf:Cd K (DW p)
 cs:Cd K (Jd (DW p))
 ln:(DW p).length≤1000
 fit:4*(((DW p).length+3)*(Df K (DW p) (Jd (DW p))+2))≤1000000000
section
variable {J K:Nat} {p a b:List Rat}
end
end
namespace M3
open Go.RowKit Go.Shelf
attribute [local go_sem] Oper.semAt_some
