import Derived.Test.YtakpoihdghihmaaGreatDoorL46
import Derived.Test.YtakpoihdghihmaaGreatDoorL29
set_option maxRecDepth 100000
set_option maxHeartbeats 16000000
namespace Go.Proofs.YtakpoihdghihmaaGreatDoor
def Nt(p w y:List Rat):Nat→List Rat
 |0=>p
 |n+1=>Jv (Nt p w y n) (D6 w y n).1
section
variable {p q w y:List Rat}
end
theorem RS{p:List Rat}(tp:Jc p=p)(p0:p≠[]):cf p (p.length-1)≠0∧p=DU (cf p (p.length-1)) (JS p):=by
 have h:=Jq tp p0;refine⟨h,?_⟩;unfold JS;rw[KU,show 1/cf p (p.length-1)*cf p (p.length-1)=1 by grind,IB tp]
structure StR(K M:Nat)(r f:List Rat):Prop where
 tr:Jc r=r
 cr:Cd M r
 tf:Jc f=f
 f0:f≠[]
 mf:JS f=f
 ca:Cd M f
 lr:(r.length+3)*(M+1)≤1000000000
 lf:(f.length+3)*(M+1)≤1000000000
 r1:r.length≤1000
 f1:f.length≤1000
 ch:M3.ChOk K f (Jv r f)
structure ReOk(K M N:Nat)(p w y:List Rat):Prop where
 fr:M3.FrOk K p
 w0:cO p=w
 nN:N≤1000000000
 st:∀n,n<N→1<(D6 w y n).1.length∧StR K M (Nt p w y n) (D6 w y n).1∧Cd M (D6 w y (n+1)).1∧Jc (D6 w y (n+1)).1=(D6 w y (n+1)).1∧(D6 w y (n+1)).1≠[]∧JS (D6 w y (n+1)).1=(D6 w y (n+1)).1∧
  JK (D6 w y n).1 (Nt p w y (n+1))=(D6 w y (n+1)).1∧Jv (D6 w y n).1 (D6 w y (n+1)).1=yP (D6 w y n)∧JS (yP (D6 w y n))=yP (D6 w y n)∧
  Jc (yP (D6 w y n))=yP (D6 w y n)∧Cd M (yP (D6 w y n))∧(yP (D6 w y n)).length≤25
 en:(D6 w y N).1.length≤1
section
variable {a b c d p q r w y R:List Rat}
theorem Da.shift(h:Da a b)(hc:∀x,ev b x=ev c x+ev a x*ev d x):Da a c:=by
 obtain⟨u,v,e⟩:=h;refine⟨Y8 u (Jn v d),v,fun x=>?_⟩;rw[Ys,Jh];have:=e x;rw[hc]at this;grind
theorem Da.left(h:Da a (Jn b c)):Da a b:=(h.symm.of_dv ((Dv.refl b).mul c)).symm
theorem Da.right(h:Da a (Jn b c)):Da a c:=(h.symm.of_dv ((Dv.refl c).mul' b)).symm
theorem Yun.part(h:Yun R w y):Da (JK w (Ym y (Jd w))) (Jd (JK w (Ym y (Jd w))))∧Da (JK w (Ym y (Jd w))) (Jv w (JK w (Ym y (Jd w)))):=by
 obtain⟨k1,k2,_⟩:=Y6 h.tw (XA y (Jd w));have s6:=h.step.2.2.2.2.2;obtain⟨P,hP⟩:=ex (JK w (Ym y (Jd w)));rw[hP]at k1 k2 s6 ⊢;obtain⟨w2,hw2⟩:=ex (Jv w P);rw[hw2]at s6 ⊢;have c1:Da P y:=h.cop.of_dv k1;obtain⟨t,ht⟩:=k2;have c2:Da P (Jd w):=c1.shift (d:=t) fun x=>by
  have:=ht x;rw[Y3]at this;grind
 have c3:Da P (Jn (Jd P) w2):=c2.shift (d:=Jd w2) fun x=>by
  have:=congrArg (fun r=>ev (Jd r) x) s6;simp only[Yv]at this;rw[Jh];exact this
 exact⟨c3.left,c3.right⟩
end
section
variable {q w y:List Rat}
end
theorem Lh{c:Rat}(h:c≠0):0<Yl c:=by
 unfold Yl;split<;>grind
theorem cU{c:Rat}(h:0<c):∀n:Nat,0<c^n:=by
 intro n;induction n with
 |zero=>rw[Rat.pow_zero];decide
 |succ n ih=>rw[Rat.pow_succ];exact Rat.mul_pos ih h
theorem cV{p q:List Rat}(hq:Jc q=q)(h0:q≠[]):0<EH p q:=cU (Lh (Jq hq h0)) _
theorem RT{a b:List Rat}(tb:Jc b=b)(b0:b≠[]):∃(q:List Rat) (c:Rat),0<c∧∀x,EH a b*ev a x=ev q x*ev b x-c*ev (YN a b) x:=by
 obtain⟨k,k0,hk⟩:=IC (p:=JE (YJ a b) b) (JX _);refine⟨Jv (YJ a b) b,1/k,YT (by decide) k0,fun x=>?_⟩;have h1:=(YL (YJ a b) b tb b0).1 x;have h2:ev (YJ a b) x=ev a x*EH a b:=JH _ _ _;have h3:ev (YN a b) x=-(ev (JE (YJ a b) b) x*k):=by
  unfold YN;rw[Y3,hk,JH];simp[ev];grind
 have h4:1/k*k=1:=Aq (by grind);rw[h3];grind
theorem chnL_head(a b:List Rat):∃t,EY a b=a::t:=by
 unfold EY;cases b.length with
 |zero=>exact⟨_,rfl⟩
 |succ n=>
  unfold EO;split
  · exact⟨_,rfl⟩
  · exact⟨_,rfl⟩
theorem RU{a:List Rat}(ta:Jc a=a)(a0:a≠[])(x:Rat):ev (Jv a a) x=1:=by
 have h:=YF (u:=Jv a a) (v:=[1]) ta a0 (fun x=>by
  rw[←(JO ta a0 (Dv.refl a)).2 x,Js];grind) x
 rwa[Js]at h
theorem Nu:∀(n:Nat) (a b:List Rat),b.length≤n→Jc a=a→Jc b=b→a≠[]→∃g,(EY a b).getLast?=some g∧Jc g=g∧g≠[]∧Dv g a∧Dv g b∧(∀d,Dv d a→Dv d b→Dv d g)∧StC ((EY a b).map fun p=>Jv p g):=by
 intro n;induction n with
 |zero=>
  intro a b hn ta _ a0
  have:b=[]:=AE.1 (by omega)
  subst this;exact⟨a,rfl,ta,a0,Dv.refl a,Dv.zero a,fun _ h _=>h,StC.one (c:=1) (by decide) (fun x=>RU ta a0 x)⟩
 |succ n ih=>
  intro a b hn ta tb a0;by_cases b0:b=[]
  · subst b0;exact⟨a,rfl,ta,a0,Dv.refl a,Dv.zero a,fun _ h _=>h,StC.one (c:=1) (by decide) (fun x=>RU ta a0 x)⟩
  · have hl:=Xi (a:=a) tb b0;obtain⟨g,h1,tg,g0,h2,h3,h4,h5⟩:=ih b (YN a b) (by omega) tb (Gv _ _) b0;obtain⟨q,c,c0,hr⟩:=RT (a:=a) tb b0;have w0:=cV (p:=a) tb b0;have e1:1/EH a b*EH a b=1:=Aq (by grind);have e2:1/c*c=1:=Aq (by grind);have Qa:Dv g a:=h2.comb h3 (Jn [1/EH a b] q) [-(1/EH a b*c)] fun x=>by
     rw[Jh,Js,Js];have:=hr x
     have:ev a x=1/EH a b*(EH a b*ev a x):=by rw[←Rat.mul_assoc,e1,Cx]
     grind
    refine⟨g,?_,tg,g0,Qa,h2,fun d d1 d2=>h4 d d2 (d2.comb d1 (Jn [1/c] q) [-(1/c*EH a b)] fun x=>?_),?_⟩
    · rw[XD tb b0,List.getLast?_cons,h1];rfl
    · rw[Jh,Js,Js];have:=hr x
      have:ev (YN a b) x=1/c*(c*ev (YN a b) x):=by rw[←Rat.mul_assoc,e2,Cx]
      grind
    · rw[XD tb b0];by_cases l0:YN a b=[]
      · rw[l0,Is]at h5 ⊢;obtain⟨_,hc,he⟩:=h5.o;exact StC.two hc he
      · obtain⟨t,ht⟩:=chnL_head (YN a b) (YN b (YN a b));rw[XD (Gv _ _) l0,ht]at h5 ⊢;have ea:=(JO tg g0 Qa).2;have eb:=(JO tg g0 h2).2;have el:=(JO tg g0 h3).2;refine StC.more (q:=q) w0 c0 (fun x=>?_) h5;have:=YF (u:=Jn [EH a b] (Jv a g)) (v:=Ym (Jn q (Jv b g)) (Jn [c] (Jv (YN a b) g))) tg g0 (fun x=>by
         rw[Jh,Y3,Jh,Jh,Js,Js];have i1:=ea x;have i2:=eb x;have i3:=el x;have i4:=hr x;rw[i1,i2,i3]at i4;grind) x
        rwa[Jh,Y3,Jh,Jh,Js,Js]at this
theorem Nv:∀(n:Nat) (R w y:List Rat),R.length≤n→Yun R w y→Da w (Jd w):=by
 intro n;induction n with
 |zero=>intro R w y hn h;exact absurd (AE.1 (by omega)) h.R0
 |succ n ih=>
  intro R w y hn h;by_cases hl:w.length≤1
  · obtain⟨c,hc⟩:=Kc h.tw h.w0 hl;refine⟨c,[],fun x=>?_⟩;have:=hc x;rw[Js]at this;simp[ev];grind
  · obtain⟨p1,p2⟩:=h.part;obtain⟨_,_,h2,eR,_,eW⟩:=h.step;obtain⟨a,ha⟩:=ex (JK w (Ym y (Jd w)));rw[ha]at p1 p2 h2 eW;obtain⟨w2,hw2⟩:=ex (Jv w a);rw[hw2]at p2 h2 eW;have lR:(Jv R w).length≤n:=by
     have:=JD h.tw h2.tR h.w0 h2.R0;rw[←eR]at this;omega
    have h3:=ih _ _ _ lR h2;have fd:∀x,ev (Jd w) x=ev (Jd a) x*ev w2 x+ev a x*ev (Jd w2) x:=fun x=>by
     have:=Yv a w2 x;rwa[←eW]at this
    have c1:Da a (Jd w):=(p1.mul p2).shift (d:=Jn [-1] (Jd w2)) fun x=>by
     rw[Jh,Jh,Js,fd];grind
    have c2:Da w2 (Jd w):=(p2.symm.mul h3).shift (d:=Jn [-1] (Jd a)) fun x=>by
     rw[Jh,Jh,Js,fd];grind
    have c3:=(c1.symm.mul c2.symm).symm;rwa[←eW]at c3
theorem cW(c:Rat)(p:List Rat)(x:Rat):ev (Jd (DU c p)) x=c*ev (Jd p) x:=by
 rw[YZ,YZ];unfold DU;rw[I2 (J0 _),OM,CH]
def Ju(p:List Rat):List (List Rat):=(X6 p (Jd p)).map fun a=>Jv a ((X6 p (Jd p)).getLast?.getD [])
def DW(p:List Rat):List Rat:=Jv (JS p) (JK (JS p) (Jd (JS p)))
def IF(p:List Rat):List Rat:=Jv (Jd (JS p)) (JK (JS p) (Jd (JS p)))
theorem cX{p:List Rat}(tp:Jc p=p)(p0:p≠[]):StC (Ju p)∧∃f l k,Ju p=f::l∧k≠0∧(∀x,ev f x=k*ev (DW p) x)∧∀f1 l1,l=f1::l1→∃k1,0<k*k1∧∀x,ev f1 x=k1*ev (IF p) x:=by
 have ts:=J1 p;obtain⟨α,α0,hα⟩:=IC tp;obtain⟨β,β0,hβ⟩:=IC ts;obtain⟨lc0,hlc⟩:=RS tp p0;obtain⟨lc,hl⟩:=ex (cf p (p.length-1));rw[hl]at lc0 hlc;have tR:=Ip p;have R0:=LZ tp p0;obtain⟨R,hR⟩:=ex (JS p);rw[hR]at hlc tR R0;have Qa:=J1 R;have a0:JL p≠[]:=fun e=>p0 (AE.1 (by rw[←J2 tp,e];rfl));have ea:∀x,ev (JL p) x=α*lc*ev R x:=fun x=>by
  rw[hα,JH];conv=>lhs;rw[hlc]
  rw[JH];grind
 have eb:∀x,ev (JL (Jd p)) x=β*lc*ev (Jd R) x:=fun x=>by
  rw[hβ,JH];have:=cW lc R x;rw[←hlc]at this;rw[this];grind
 obtain⟨g,h1,tg,g0,h2,h3,h4,h5⟩:=Nu _ (JL p) (JL (Jd p)) (Aa _) (Yq _) (Yq _) a0;obtain⟨G1,G2,_⟩:=Y6 tR Qa;have tG:=YE R (Jd R);have G0:=It tR Qa (Or.inl R0);have fW:=(JO tG G0 G1).2;have fY:=(JO tG G0 G2).2;have Qb:Dv (JK R (Jd R)) g:=h4 _ (by
  obtain⟨c,hc⟩:=G1;exact⟨DU (α*lc) c,fun x=>by rw[ea,hc,JH];grind⟩) (by obtain⟨c,hc⟩:=G2;exact⟨DU (β*lc) c,fun x=>by rw[eb,hc,JH];grind⟩)
 have i1:∀ {k:Rat},0<k→1/(k*lc)*(k*lc)=1:=fun hk=>Aq (by
  intro e;rcases Ch.1 e with e|e
  · grind
  · exact lc0 e)
 have Qc:Dv g (JK R (Jd R)):=Nn tR Qa (by
  obtain⟨c,hc⟩:=h2;refine⟨DU (1/(α*lc)) c,fun x=>?_⟩;have e1:=hc x;rw[ea]at e1
  have:ev R x=1/(α*lc)*(α*lc*ev R x):=by rw[←Rat.mul_assoc,i1 α0,Cx]
  rw[this,e1,JH];grind) (by
  obtain⟨c,hc⟩:=h3;refine⟨DU (1/(β*lc)) c,fun x=>?_⟩;have e1:=hc x;rw[eb]at e1
  have:ev (Jd R) x=1/(β*lc)*(β*lc*ev (Jd R) x):=by rw[←Rat.mul_assoc,i1 β0,Cx]
  rw[this,e1,JH];grind)
 obtain⟨m,m0,hm⟩:=Dv.anti tG tg Qb Qc;have eg:∀x,ev g x=m*ev (JK R (Jd R)) x:=fun x=>by rw[hm,JH];grind
 have im:1/m*m=1:=Aq m0;have qa:=(JO tg g0 h2).2;have qb:=(JO tg g0 h3).2;have er:Ju p=(EY (JL p) (JL (Jd p))).map fun a=>Jv a g:=by
  unfold Ju X6;rw[h1];rfl
 refine⟨by rw[er];exact h5,?_⟩;obtain⟨t,ht⟩:=chnL_head (JL p) (JL (Jd p));unfold DW IF;rw[hR];refine⟨Jv (JL p) g,t.map fun a=>Jv a g,1/m*(α*lc),by rw[er,ht];rfl,?_,fun x=>?_,fun f1 l1 hl1=>⟨1/m*(β*lc),?_,fun x=>?_⟩⟩
 · intro e;rcases Ch.1 e with e|e
   · rw[e]at im;grind
   · rcases Ch.1 e with e|e
     · grind
     · exact lc0 e
 · have:=YF (u:=Jv (JL p) g) (v:=DU (1/m*(α*lc)) (Jv R (JK R (Jd R)))) tG G0 (fun x=>by
    have j1:=qa x;rw[eg,ea,fW]at j1;rw[JH]
    have:ev (JK R (Jd R)) x*ev (Jv (JL p) g) x=1/m*(m*ev (JK R (Jd R)) x*ev (Jv (JL p) g) x):=by
     rw[←Rat.mul_assoc,←Rat.mul_assoc,im,Cx]
    rw[this,←j1];grind) x
   rw[this,JH];grind
 · have e1:1/m*(α*lc)*(1/m*(β*lc))=(1/m*lc)*(1/m*lc)*(α*β):=by grind
   rw[e1];refine Rat.mul_pos ?_ (Rat.mul_pos α0 β0);have c0:1/m*lc≠0:=fun e=>by
    rcases Ch.1 e with e|e
    · rw[e]at im;grind
    · exact lc0 e
   have:=XB (f:=[1/m*lc]) c0 (fun x=>Js _ x) 0 0;unfold Do at this;rwa[Js]at this
 · have hb:f1=Jv (JL (Jd p)) g:=by
    by_cases b0:JL (Jd p)=[]
    · rw[b0,Is]at ht;injection ht with _ ht
      rw[←ht]at hl1;cases hl1
    · rw[XD (Yq _) b0]at ht;injection ht with _ ht
      obtain⟨t2,ht2⟩:=chnL_head (JL (Jd p)) (YN (JL p) (JL (Jd p)));rw[←ht,ht2]at hl1;injection hl1 with hl1 _
      exact hl1.symm
   rw[hb];have:=YF (u:=Jv (JL (Jd p)) g) (v:=DU (1/m*(β*lc)) (Jv (Jd R) (JK R (Jd R)))) tG G0 (fun x=>by
    have j1:=qb x;rw[eg,eb,fY]at j1;rw[JH]
    have:ev (JK R (Jd R)) x*ev (Jv (JL (Jd p)) g) x=1/m*(m*ev (JK R (Jd R)) x*ev (Jv (JL (Jd p)) g) x):=by
     rw[←Rat.mul_assoc,←Rat.mul_assoc,im,Cx]
    rw[this,←j1];grind) x
   rw[this,JH];grind
def Yn(b:List Rat):List Rat:=DU (1/Yl (cf b (b.length-1))) b
def FI:Nat→List Rat→List Rat→List (List Rat)
 |0,a,_=>[a]
 |n+1,a,b=>if b=[]then [a]else a::FI n (Yn b) (DU (-1) (JE a (Yn b)))
theorem Ke(n:Nat)(a b:List Rat):∃t,FI n a b=a::t:=by
 cases n with
 |zero=>exact⟨_,rfl⟩
 |succ n=>
  unfold FI;split
  · exact⟨_,rfl⟩
  · exact⟨_,rfl⟩
theorem Nw{b:List Rat}(tb:Jc b=b)(b0:b≠[]):0<1/Yl (cf b (b.length-1)):=YT (by decide) (Lh (Jq tb b0))
theorem Nx{b:List Rat}{c:Rat}(hc:c≠0)(tb:Jc b=b):(DU c b).length=b.length:=by
 have e:DU (1/c) (DU c b)=b:=by rw[KU,CH,Aq hc,IB tb]
 have h1:∀(d:Rat) (q:List Rat),(DU d q).length≤q.length:=fun d q=>by
  unfold DU;refine An (YB _) ?_;unfold YS;simp
 have h2:=h1 c b;have h3:=h1 (1/c) (DU c b);rw[e]at h3;omega
theorem RV{a:List Rat}(ta:Jc a=a)(h:Da a []):∃c,c≠0∧∀x,ev a x=c:=by
 obtain⟨u,v,huv⟩:=h;have h1:Dv a [1]:=⟨u,fun x=>by rw[Js,←huv x];simp[ev];grind⟩;have h2:=(h1.len ta (by decide) (by decide)).1;have a0:a≠[]:=fun e=>by
  have:=huv 0;rw[e]at this;simp[ev]at this;grind
 match a,a0,h2 with
 |[c],_,_=>
  refine⟨c,fun e=>?_,fun x=>Js c x⟩;have:=huv 0;rw[e]at this;simp[ev]at this;grind
theorem RW:∀(n:Nat) (a b:List Rat),b.length≤n→Jc a=a→Jc b=b→Da a b→StC (FI n a b):=by
 intro n;induction n with
 |zero=>
  intro a b hn ta _ hc
  have:b=[]:=AE.1 (by omega)
  subst this;obtain⟨c,c0,he⟩:=RV ta hc;exact StC.one c0 he
 |succ n ih=>
  intro a b hn ta tb hc;by_cases b0:b=[]
  · subst b0;obtain⟨c,c0,he⟩:=RV ta hc;rw[FI,BH rfl];exact StC.one c0 he
  · rw[FI,BE b0];have s0:=Nw tb b0;have lb:(Yn b).length=b.length:=Nx (by grind) tb;have Qa:Jc (Yn b)=Yn b:=JP _ _;have Qb:Yn b≠[]:=fun e=>b0 (AE.1 (by rw[←lb,e];rfl));obtain⟨so,sl⟩:=YL a (Yn b) Qa Qb;have tr:Jc (JE a (Yn b))=JE a (Yn b):=JX _;have es:∀x,ev (Yn b) x=ev b x*(1/Yl (cf b (b.length-1))):=fun x=>JH _ _ _;have Qc:Da (Yn b) (DU (-1) (JE a (Yn b))):=by
     obtain⟨u,v,huv⟩:=hc;have ik:Yl (cf b (b.length-1))*(1/Yl (cf b (b.length-1)))=1:=by
      rw[CH];exact Aq (by have:=Lh (Jq tb b0);grind)
     refine⟨Y8 (Jn u (Jv a (Yn b))) (Jn [Yl (cf b (b.length-1))] v),Jn [-1] u,fun x=>?_⟩;rw[Ys,Jh,Jh,Jh,Js,Js,JH];have j1:=huv x;have j2:=so x;have j3:=es x;have j4:ev b x=Yl (cf b (b.length-1))*ev (Yn b) x:=by
      rw[j3,CH,Rat.mul_assoc,CH (1/_),ik,Rat.mul_one]
     rw[j4,j2]at j1;grind
    have hi:=ih (Yn b) (DU (-1) (JE a (Yn b))) (by rw[Nx (by decide) tr];omega) Qa (JP _ _) Qc;by_cases r0:DU (-1) (JE a (Yn b))=[]
    · rw[r0]at hi ⊢;have e:FI n (Yn b) []=[Yn b]:=by cases n<;>rfl
      rw[e]at hi ⊢;obtain⟨_,hc,he⟩:=hi.o;exact StC.two hc he
    · have tc:=JP (-1) (JE a (Yn b));cases n with
      |zero=>
       exact absurd (AE.1 (by have:=Nx (c:=-1) (by decide) tr;omega)) r0
      |succ n=>
       obtain⟨t,ht⟩:=Ke n (Yn (DU (-1) (JE a (Yn b)))) (DU (-1) (JE (Yn b) (Yn (DU (-1) (JE a (Yn b))))));rw[FI,BE r0,ht]at hi ⊢;have s1:=Lh (Jq tc r0);refine StC.more (q:=Jv a (Yn b)) (a:=1) (c:=Yl (cf (DU (-1) (JE a (Yn b))) ((DU (-1) (JE a (Yn b))).length-1))) (by decide) s1 (fun x=>?_) hi;have j2:=so x;have j5:ev (Yn (DU (-1) (JE a (Yn b)))) x=ev (DU (-1) (JE a (Yn b))) x*(1/Yl (cf (DU (-1) (JE a (Yn b))) ((DU (-1) (JE a (Yn b))).length-1))):=JH _ _ _;have j6:ev (DU (-1) (JE a (Yn b))) x=ev (JE a (Yn b)) x*(-1):=JH _ _ _;have j7:1/Yl (cf (DU (-1) (JE a (Yn b))) ((DU (-1) (JE a (Yn b))).length-1))*Yl (cf (DU (-1) (JE a (Yn b))) ((DU (-1) (JE a (Yn b))).length-1))=1:=Aq (by grind);rw[j5,j6];generalize Yl (cf (DU (-1) (JE a (Yn b))) ((DU (-1) (JE a (Yn b))).length-1))=K at *;have j8:K*(ev (JE a (Yn b)) x*(-1)*(1/K))=- ev (JE a (Yn b)) x:=by
        have:K*(ev (JE a (Yn b)) x*(-1)*(1/K))=(1/K*K)*(- ev (JE a (Yn b)) x):=by grind
        rw[this,j7];grind
       rw[j8,Cx,j2];grind
def YO(p:List Rat):List (List Rat):=FI (Jd (DW p)).length (DW p) (Jd (DW p))
theorem X7{p:List Rat}(tp:Jc p=p)(p0:p≠[]){a b:Rat}(hab:a≤b):DR (JJ (Ju p) a)+DR (JJ (YO p) b)=DR (JJ (Ju p) b)+DR (JJ (YO p) a):=by
 obtain⟨hs,f,l,k,hf,k0,he,h1⟩:=cX tp p0;have hy:=Yun.start (Ip p) (LZ tp p0) (KY tp);have hy:Yun (JS p) (DW p) (IF p):=hy;have hw:=Nv _ _ _ _ (Aa _) hy;have hr:=RW _ (DW p) (Jd (DW p)) (Aa _) hy.tw (J1 _) hw;obtain⟨A,A0,hA⟩:=Yt a;obtain⟨C,C0,hC⟩:=Yt b;have hB:0≤A+C:=by grind
 obtain⟨e,e0,sg⟩:=RR _ _ _ _ (Aa _) hy hB;refine glue (B:=A+C) (F:=fun x=>DR (JJ (Ju p) x)) (G:=fun x=>DR (JJ (YO p) x)) ?_ (hA.mono (by grind)) (hC.mono (by grind)) hab;refine(((hs.gd hB).and (hr.gd hB)).and sg).mono fun x y _ _ _ hd=>?_;have d1:=hd.1.1;have d2:=hd.1.2;have d3:=hd.2;obtain⟨m,hm⟩:=Ke (Jd (DW p)).length (DW p) (Jd (DW p));show DR (JJ (Ju p) x)+DR (JJ (YO p) y)=DR (JJ (Ju p) y)+DR (JJ (YO p) x);unfold YO;rw[hf]at d1 ⊢;rw[hm]at d2 ⊢;refine d1.both d2 k0 he fun hn f1 l1 g1 m1 hl hm1=>?_;obtain⟨k1,kk,hf1⟩:=h1 f1 l1 hl;obtain⟨s1,s2⟩:=d3 hn;by_cases w0:Jd (DW p)=[]
 · exfalso
   rw[w0]at hm;rw[hm1]at hm;simp[FI]at hm
 · obtain⟨n,hn2⟩:∃n,(Jd (DW p)).length=n+1:=⟨_,(Nat.succ_pred_eq_of_pos (Af.2 w0)).symm⟩;rw[hn2,FI,BE w0]at hm;injection hm with _ hm
   obtain⟨t,ht⟩:=Ke n (Yn (Jd (DW p))) (DU (-1) (JE (DW p) (Yn (Jd (DW p)))));rw[ht,hm1]at hm;injection hm with hg _
   have sp:=Nw (J1 (DW p)) w0;have Qa:∀z,ev g1 z=ev (Jd (DW p)) z*(1/Yl (cf (Jd (DW p)) ((Jd (DW p)).length-1))):=fun z=>by rw[←hg];exact JH _ _ _
   have fin:∀z,e≤ev (IF p) z*ev (Jd (DW p)) z→0<k*ev f1 z*ev g1 z:=fun z hz=>by
    rw[hf1,Qa];have:=Rat.mul_pos (Rat.mul_pos kk sp) (show 0<ev (IF p) z*ev (Jd (DW p)) z by grind);grind
   exact⟨fin x s1,fin y s2⟩
def Ny(l:List (List Rat)):Prop:=∀p∈l,Jc p=p∧p≠[]
def FJ(l:List (List Rat)):List Rat:=l.map fun p=>cf p (p.length-1)
def EB(l:List (List Rat)):List Rat:=l.map fun p=>(-1)^(p.length-1)*cf p (p.length-1)
theorem Xv{l:List (List Rat)}(h:Ny l):∃B,0<B∧(∀x,B≤x→DR (JJ l x)=DR (FJ l))∧∀x,x≤-B→DR (JJ l x)=DR (EB l):=by
 have key:∃B,0<B∧(∀x,B≤x→∀p∈l,0<ev p x*cf p (p.length-1))∧∀x,x≤-B→∀p∈l,0<ev p x*((-1)^(p.length-1)*cf p (p.length-1)):=by
  induction l with
  |nil=>exact⟨1,by decide,(fun _ _ _ hp=>absurd hp (List.not_mem_nil)),(fun _ _ _ hp=>absurd hp (List.not_mem_nil))⟩
  |cons p l ih=>
   obtain⟨B,B0,h1,h2⟩:=ih fun q hq=>h q (List.mem_cons_of_mem _ hq);obtain⟨tp,p0⟩:=h p (CE);obtain⟨C,C0,h3⟩:=SZ tp p0;obtain⟨D,D0,h4⟩:=Sa tp p0;refine⟨B+C+D,by grind,fun x hx q hq=>?_,fun x hx q hq=>?_⟩
   · rcases List.mem_cons.1 hq with rfl|hq
     · rw[CH];exact h3 x (by grind)
     · exact h1 x (by grind) q hq
   · rcases List.mem_cons.1 hq with rfl|hq
     · rw[CH];exact h4 x (by grind)
     · exact h2 x (by grind) q hq
 obtain⟨B,B0,h1,h2⟩:=key;refine⟨B,B0,fun x hx=>?_,fun x hx=>?_⟩
 · refine Oa _ _ 0 0 (by simp[JJ,FJ]) (fun i k1 k2=>?_) (Or.inr ⟨rfl,rfl⟩);simp only[JJ,FJ,List.getElem_map];exact h1 x hx _ (Fu _)
 · refine Oa _ _ 0 0 (by simp[JJ,EB]) (fun i k1 k2=>?_) (Or.inr ⟨rfl,rfl⟩);simp only[JJ,EB,List.getElem_map];exact h2 x hx _ (Fu _)
theorem cY:∀(n:Nat) (a b g:List Rat),b.length≤n→Jc a=a→Jc b=b→a≠[]→Dv g a→Dv g b→Jc g=g→g≠[]→Ny ((EY a b).map fun p=>Jv p g):=by
 intro n;induction n with
 |zero=>
  intro a b g hn ta tb a0 h1 h2 tg g0
  have:b=[]:=AE.1 (by omega)
  subst this;intro p hp;rw[Is]at hp;rcases CU.1 hp with⟨q,hq,rfl⟩
  have:q=a:=by simpa using hq
  subst this;exact⟨YY _ _,fun e=>a0 (Xj ta fun x=>by rw[(JO tg g0 h1).2,e];simp[ev])⟩
 |succ n ih=>
  intro a b g hn ta tb a0 h1 h2 tg g0;have ha:Jc (Jv a g)=Jv a g∧Jv a g≠[]:=⟨YY _ _,fun e=>a0 (Xj ta fun x=>by rw[(JO tg g0 h1).2,e];simp[ev])⟩;by_cases b0:b=[]
  · subst b0;intro p hp;rw[Is]at hp;rcases CU.1 hp with⟨q,hq,rfl⟩
    have:q=a:=by simpa using hq
    subst this;exact ha
  · have hl:=Xi (a:=a) tb b0;obtain⟨q,c,c0,hr⟩:=RT (a:=a) tb b0;have e2:1/c*c=1:=Aq (by grind);have h3:Dv g (YN a b):=h2.comb h1 (Jn [1/c] q) [-(1/c*EH a b)] fun x=>by
     rw[Jh,Js,Js];have:=hr x
     have:ev (YN a b) x=1/c*(c*ev (YN a b) x):=by rw[←Rat.mul_assoc,e2,Cx]
     grind
    have hi:=ih b (YN a b) g (by omega) tb (Gv _ _) b0 h2 h3 tg g0;rw[XD tb b0];intro p hp;rcases List.mem_cons.1 hp with rfl|hp
    · exact ha
    · exact hi p hp
theorem Yp{p:List Rat}(tp:Jc p=p)(p0:p≠[]):Ny (Ju p):=by
 have a0:JL p≠[]:=fun e=>p0 (AE.1 (by rw[←J2 tp,e];rfl));obtain⟨g,h1,tg,g0,h2,h3,_,_⟩:=Nu _ (JL p) (JL (Jd p)) (Aa _) (Yq _) (Yq _) a0;have er:Ju p=(EY (JL p) (JL (Jd p))).map fun a=>Jv a g:=by
  unfold Ju X6;rw[h1];rfl
 rw[er];exact cY _ _ _ g (Aa _) (Yq _) (Yq _) a0 h2 h3 tg g0
namespace M3
open Go.RowKit Go.Shelf
attribute [local go_sem] Oper.semAt_some
theorem cZ(va vb:Value)(p q:List Rat)(w:World)(ha:Je w va p)(hb:Je w vb q):
 Calls Tryz.prog 87 #[va,vb] w fun e w'=>∃Bp Bq pa pl pc qa ql qc,e=.returned (.func (.func 136) #[] #[.pointer (some ⟨Bp,0,none⟩),.pointer (some ⟨Bq,0,none⟩)])∧Dh w' Bp pa pl pc∧Dh w' Bq qa ql qc∧Je w' (.agg #[.slice pa pl pc]) p∧Je w' (.agg #[.slice qa ql qc]) q∧Bl w w':=by
 obtain⟨pa,pl,pc,rfl⟩:=ha.form;obtain⟨qa,ql,qc,rfl⟩:=hb.form;refine((BJ (n:=1)).1 (bz 1 pa qa pl pc ql qc w)).mono ?_;rintro e w' ⟨rfl,rfl⟩;have hB:Bl w ((w.alloc (.cells #[.slice pa pl pc] 25)).alloc (.cells #[.slice qa ql qc] 25)):=(Ba w _).alloc (by rw[BA];omega) _;refine⟨_,_,pa,pl,pc,qa,ql,qc,rfl,(BI w 25 (.slice pa pl pc)).alloc _,?_,ha.below hB,hb.below hB,hB⟩;have:=BI (w.alloc (.cells #[.slice pa pl pc] 25)) 25 (.slice qa ql qc);rwa[BA]at this
theorem ce(K:Nat)(Bp Bq:Nat)(pa qa:Option Addr)(pl pc ql qc:Nat)(p q:List Rat)(w:World)(hok:ChOk K p q)(hbp:Dh w Bp pa pl pc)(hbq:Dh w Bq qa ql qc)(ip:Je w (.agg #[.slice pa pl pc]) p)(iq:Je w (.agg #[.slice qa ql qc]) q):
 Calls Tryz.prog 153 #[.func (.func 136) #[] #[.pointer (some ⟨Bp,0,none⟩),.pointer (some ⟨Bq,0,none⟩)]] w fun e w'=>∃v cs,e=.returned v∧XS 25 (w.heap.size+1) w' v cs∧FQ w' cs (X6 p q)∧Bl w w':=by
 have HC:=Ja (cE K Bp Bq pa qa pl pc ql qc p q w hok hbp hbq ip iq);clear hok hbp hbq ip iq;go_enter Tryz.func153,Tryz.ntmps153
 go_wp2_with(go_at_call 186;refine HC.o.mono ?_;clear HC;rintro e w5 ⟨v,cs,rfl,h1,h2,h3⟩;obtain⟨a5,c5,hv5,h8,h9⟩:=h1.form;subst hv5;have HH:=Ja (And.intro h1 (And.intro h2 h3));clear h1 h2 h3)
 go_ret;exact⟨_,cs,rfl,HH.o.1,HH.o.2.1,HH.o.2.2⟩
theorem Xr.setK{V:World}{g n:Nat}{f:Nat→List Rat}(h:Xr V g n f){j:Nat}(hj:j<n){x v:Value}{p:List Rat}(hp:Je V v p):Je (V.setCell ⟨g,j,none⟩ x) v p:=by
 obtain⟨cs,h1,h2⟩:=h;obtain⟨a0,l0,c0,e0,_⟩:=h2 j hj;obtain⟨u,e,hr⟩:=hp;exact⟨u,e,Hs h1 e0 rfl true (by decide) _ _ _ hr⟩
theorem FQ.els{W:World}{v:Value}{cs:List Value}{L:List (List Rat)}{base:Nat}(h:XS 25 base W v cs)(h2:FQ W cs L)(h0:L≠[]):∃g cap,v=.slice (some ⟨g,0,none⟩) L.length cap∧base≤g∧L.length≤cap∧cap≤maxLen∧Xr W g L.length (fun j=>L.getD j []):=by
 rcases h with⟨rfl,rfl⟩|⟨g,cap,cur,rfl,g2,g3,g4,g5,g6,g7⟩
 · exact absurd (AE.1 (by rw[←h2.1];rfl)) h0
 · refine⟨g,cap,by rw[h2.1],g2,by rw[←h2.1];exact g4,g5,cur,g3,fun j hj=>?_⟩;obtain⟨x,e1,h3⟩:=h2.2 j L[j] (Am hj);obtain⟨a,l,c,e⟩:=h3.form;cases e;refine⟨a,l,c,?_,?_⟩
   · rw[←g7,Fe]at e1;split at e1
     · rw[Cw]at e1;exact e1
     · cases e1
   · have e2:L.getD j []=L[j]:=by simp[List.getD,hj]
     show RowK true W _ (L.getD j []);rw[e2];exact h3.row
structure SrOk(K:Nat)(p:List Rat):Prop where
 ch:ChOk K p (Jd p)
 p0:p≠[]
theorem ci{K:Nat}{p q:List Rat}(hok:ChOk K p q):∀(n:Nat) (a b:List Rat),b.length≤n→Chn p q (Df K p q) a b→a≠[]→∀x∈EY a b,Jc x=x∧Cd (Df K p q) x∧x.length≤max p.length q.length∧x≠[]:=by
 have one:∀a b,Chn p q (Df K p q) a b→a≠[]→Jc a=a∧Cd (Df K p q) a∧a.length≤max p.length q.length∧a≠[]:=fun a b h a0=>⟨h.ta,⟨1,by decide,Sm.one _ hok.bd.2.2.2,fun i=>by
  obtain⟨z,h1,h2⟩:=h.wa i;exact⟨z,by rw[h2,←CI ((z:Int):Rat)];simp,h1⟩⟩,h.la,a0⟩
 intro n;induction n with
 |zero=>
  intro a b hl h a0 x hx;have hb:b=[]:=LW (by omega);subst hb;rw[Is]at hx
  have:x=a:=by simpa using hx
  subst this;exact one _ _ h a0
 |succ n ih=>
  intro a b hl h a0 x hx;by_cases hb:b=[]
  · subst hb;rw[Is]at hx
    have:x=a:=by simpa using hx
    subst this;exact one _ _ h a0
  · rw[XD h.tb hb]at hx;rcases List.mem_cons.1 hx with rfl|hx
    · exact one _ _ h a0
    · have h1:=Xi (a:=a) h.tb hb;exact ih b (YN a b) (by omega) (Chn.next hok.tp hok.tq hok.lp hok.lq hok.bd.2.2.1 h hb) hb x hx
theorem SrOk.mem{K:Nat}{p:List Rat}(h:SrOk K p):∀x∈X6 p (Jd p),Jc x=x∧Cd (Df K p (Jd p)) x∧x.length≤max p.length (Jd p).length∧x≠[]:=by
 have hs:=Chn.start h.ch.tp h.ch.tq h.ch.lp h.ch.lq h.ch.bd.2.2.1;refine ci h.ch _ (JL p) (JL (Jd p)) (Aa _) hs fun e=>h.p0 (AE.1 ?_);rw[←J2 h.ch.tp,e];rfl
theorem SrOk.last{K:Nat}{p:List Rat}(h:SrOk K p):∃g,(X6 p (Jd p)).getLast?=some g∧g∈X6 p (Jd p)∧Ju p=(X6 p (Jd p)).map fun a=>Jv a g:=by
 have a0:JL p≠[]:=fun e=>h.p0 (AE.1 (by rw[←J2 h.ch.tp,e];rfl));obtain⟨g,h1,_⟩:=Nu _ (JL p) (JL (Jd p)) (Aa _) (Yq _) (Yq _) a0;have h1:(X6 p (Jd p)).getLast?=some g:=h1;refine⟨g,h1,List.mem_of_getLast? h1,?_⟩;unfold Ju;rw[h1];rfl
theorem SrOk.fit{K:Nat}{p x:List Rat}(h:SrOk K p)(hx:x.length≤max p.length (Jd p).length):2*(Df K p (Jd p)+x.length*(Df K p (Jd p)+1)+1)+2*(2*Df K p (Jd p)+1)≤1000000000:=by
 have h1:=h.ch.le;have h2:x.length*(Df K p (Jd p)+1)≤max p.length (Jd p).length*(Df K p (Jd p)+1):=Aj _ hx;have h3:(max p.length (Jd p).length+2)*(Df K p (Jd p)+1)=max p.length (Jd p).length*(Df K p (Jd p)+1)+2*(Df K p (Jd p)+1):=AD _ _ _;omega
theorem SrOk.sqs{K:Nat}{p:List Rat}(h:SrOk K p):Sqs p:=(show Cd K p from h.ch.cp).sqs h.ch.bd.2.1
theorem cj{α:Type}(i j:Nat)(s c:Nat→α):(if j=i then s i else if j<i then s j else c j)=if j<i+1 then s j else c j:=by
 by_cases e:j=i
 · subst e;rw[BH rfl,BH (by omega)]
 · rw[BE e];by_cases e2:j<i
   · rw[BH e2,BH (by omega)]
   · rw[BE e2,BE (by omega)]
def Li(w wr:World)(g n i B4:Nat)(la:Option Addr)(ll lc:Nat)(C S:List (List Rat))(q:List Rat):Prop:=
 Xr wr g n (fun j=>if j<i then S.getD j []else C.getD j [])∧Dh wr B4 la ll lc∧Je wr (.agg #[.slice la ll lc]) q∧Bl w wr∧B4≠g∧w.heap.size≤g
theorem ck(K:Nat)(v:Value)(p:List Rat)(w:World)(h:Je w v p)(hok:SrOk K p)(hsl:∀i,Sq (GY p i)):
 Calls Tryz.prog 105 #[v] w fun e w'=>∃g cap,e=.returned (.slice (some ⟨g,0,none⟩) (Ju p).length cap)∧(Ju p).length≤cap∧cap≤maxLen∧Xr w' g (Ju p).length (fun j=>(Ju p).getD j [])∧Bl w w':=by
 obtain⟨pa,la,pc,rfl⟩:=h.form;have hA:Bl w (w.alloc (.cells #[.slice pa la pc] 25)):=Ba w _;obtain⟨W0,hW0⟩:=ex (w.alloc (.cells #[.slice pa la pc] 25));have n0:Boxed W0 w.heap.size 25 (.slice pa la pc):=by rw[←hW0];exact BI w _ _
 rw[hW0]at hA;have Ql:=Ja hW0;have Qe:=Ja n0;have Qb:=n0.cell;obtain⟨HA,Qk,Qp,Qh⟩:=Dt hA (fun(V:World) (hB:Bl W0 V)=>an (.agg #[.slice pa la pc]) p V ((h.below hA).below hB) hok.sqs hsl) (fun(V:World) (hB:Bl W0 V) (y:Value) (hy:Je V y (Jd p))=>cZ (.agg #[.slice pa la pc]) y p (Jd p) V ((h.below hA).below hB) hy) (fun(V:World) (Bp Bq:Nat) (pa qa:Option Addr) (pl pc ql qc:Nat) (h1:Dh V Bp pa pl pc) (h2:Dh V Bq qa ql qc) (h3:Je V (.agg #[.slice pa pl pc]) p) (h4:Je V (.agg #[.slice qa ql qc]) (Jd p))=>ce K Bp Bq pa qa pl pc ql qc p (Jd p) V hok.ch h1 h2 h3 h4);obtain⟨q,hq1,hq2,hq3⟩:=hok.last;obtain⟨tq,cq,lq,q0⟩:=hok.mem q hq2;have Qn:=Ja (fun(V:World) (a:List Rat) (x y:Value) (ha:a∈X6 p (Jd p)) (hx:Je V x a) (hy:Je V y q)=>cR (Df K p (Jd p)) (Df K p (Jd p)) x y a q V hx hy (hok.mem a ha).2.1 cq (hok.mem a ha).1 tq q0 (hok.fit (hok.mem a ha).2.2.1));have Qc:X6 p (Jd p)≠[]:=fun e=>by rw[e]at hq1;cases hq1
 have Qi:(X6 p (Jd p)).length≤1000000000:=by
  have h1:∀(n:Nat) (a b:List Rat),(EO n a b).length≤n+1:=fun n=>by
   induction n with
   |zero=>intro a b;exact Aa _
   |succ n ih=>
    intro a b;rw[EO];split
    · simp
    · have:=ih b (YN a b);simp only[Ad];omega
  have h2:=h1 (JL (Jd p)).length (JL p) (JL (Jd p));have h3:=J2 hok.ch.tq;have h4:=hok.ch.ln;show(EO _ _ _).length≤_;omega
 obtain⟨C,hC⟩:=ex (X6 p (Jd p));obtain⟨S,hS⟩:=ex (Ju p);rw[hC]at hq1 hq2 hq3 Qc Qi Qh Qn;rw[hS]at hq3 ⊢;have Qj:S.length=C.length:=by rw[hq3,C4]
 obtain⟨Qs,Qu,Qm⟩:=Dg (show ∀j (hj:j<C.length),S.getD j []=Jv C[j] q from fun j hj=>by rw[hq3];simp[List.getD,hj]) Qc (fun j (hj:j<C.length)=>(⟨by simp[List.getD,hj],Fu hj⟩:C.getD j []=C[j]∧C[j]∈C));rw[Qj];have Qr:0<C.length:=Af.2 Qc;have Qa:=Ja (show C.getD (C.length-1) []=q by
  rw[List.getLast?_eq_getElem?]at hq1;rw[List.getD,hq1];rfl)
 obtain⟨n,hn⟩:=ex (C.length);have Qq:=Ja hn;rw[hn]at Qi Qr Qa ⊢;obtain⟨m,hm⟩:=ex (n-1:Nat);have hm1:(n:Int)-1=(m:Int):=by omega
 have hm2:IntKind.i64.wrap (m:Int)=(m:Int):=by rw[Bi];omega
 have hml:(m:Int)<(n:Int):=by omega
 have Qt:m<n:=by omega
 have hn9:(n:Int)≤1000000000:=by omega
 rw[hm]at Qa;clear h hok hsl hA hW0 n0 hq1 hq2 hq3 tq cq lq q0 Qc hC hS Qj hn Qi hm;go_enter Tryz.func105,Tryz.ntmps105
 go_upto_region 1 with fail
 rw[Ql.o];clear Ql;have hq:Bl W0 W0.drew:=(BG _ W0).drew;go_region_held3 (fun w'=>w'.cell? ⟨w.heap.size,0,none⟩=some (.slice pa la pc)) (first|(with_reducible exact Qb)|(go_keep;done))
  (first
   |(go_at_call 38;refine(Qk.o _ hq).mono ?_;clear Qk;rintro e w5 ⟨v5,rfl,g5,hb5⟩;have hq:=Bt hq hb5;clear Qb;have Qb:=(boxed_below Qe.o hq).cell)
   |(go_at_call 87;refine(Qp.o _ hq _ g5).mono ?_;clear Qp;rintro e w6 ⟨Bp,Bq,xa,xl,xc,ya,yl,yc,rfl,k1,k2,k3,k4,hb6⟩;clear g5;have hq:=Bt hq hb6;clear Qb;have Qb:=(boxed_below Qe.o hq).cell)
   |(go_at_call 153;refine(Qh.o _ _ _ _ _ _ _ _ _ k1 k2 k3 k4).mono ?_;clear Qh k1 k2 k3 k4;rintro e w7 ⟨v7,cs,rfl,o7,p7,hb7⟩;have hq:=Bt hq hb7;clear Qb;have Qb:=(boxed_below Qe.o hq).cell;obtain⟨g,cap,rfl,hg,hcap,hcm,hE⟩:=FQ.els o7 p7 Qu.o;clear o7 p7))
 rw[Qq.o]at hE hcap ⊢;obtain⟨a8,l8,c8,e8,r8⟩:=hE.cell Qt;rw[Qa.o]at r8;have Qd:Bl w7 (w7.alloc (.cells #[.slice a8 l8 c8] 25)):=Ba w7 _;have Qf:Bl w w7:=Bt HA.o hq;have Qv:=hE.lt;have Qo:w.heap.size≤g:=by
  have h1:=HA.o.size;have h2:W0.heap.size≤w5.heap.size:=hb5.size;have h3:=hb6.size;omega
 have SR:Hid (Li w (w7.alloc (.cells #[.slice a8 l8 c8] 25)) g n 0 w7.heap.size a8 l8 c8 C S q):=Ja ⟨(hE.below Qd).cong fun j _=>rfl,BI w7 _ _,⟨_,rfl,r8.below Qd⟩,Bt Qf Qd,by omega,Qo⟩;clear hE r8 Qd Qf Qv Qo hb5 hb6 hb7 Qb;go_wp2;go_loopw [20] (fun iv wr=>∃i:Nat,i≤n∧iv=.int .i64 (i:Int)∧Hid (Li w wr g n i w7.heap.size a8 l8 c8 C S q)) (fun iv _=>n-(intOf iv).toNat)
 case atStart=>exact⟨0,AH _,rfl,SR⟩
 case round=>
  obtain⟨i,hi,rfl,HR⟩:=hrel;clear SR;by_cases hlt:i<n
  · have hlt2:(i:Int)<(n:Int):=by omega
    have Qg:i<C.length:=by have:=Qq.o;omega
    obtain⟨h1,h2,h3,h4,h5,h6⟩:=HR.o;obtain⟨ya,yl,yc,e1,r1⟩:=h1.cell hlt;rw[BE (by omega),(Qm.o i Qg).1]at r1;have hA:Bl wr (wr.alloc (.cells #[.slice ya yl yc] 25)):=Ba wr _;have HC:=Ja (Qn.o _ C[i] (.agg #[.slice ya yl yc]) (.agg #[.slice a8 l8 c8]) (Qm.o i Qg).2 ⟨_,rfl,r1.below hA⟩ (h3.below hA));rw[←Qs.o i Qg]at HC;have HI:=Ja (show Li w (wr.alloc (.cells #[.slice ya yl yc] 25)) g n i w7.heap.size a8 l8 c8 C S q from⟨h1.below hA,h2.below hA,h3.below hA,Bt h4 hA,h5,h6⟩);have e2:=(h2.below hA).cell;clear h1 h2 h3 h4 h5 h6 r1 hA HR;go_wp2_with(go_at_call 139;refine HC.o.mono ?_;clear HC;rintro e w9 ⟨u9,v9,rfl,g9,k9,hb9⟩;obtain⟨a9,l9,c9,rfl⟩:=g9.form;obtain⟨a10,l10,c10,rfl⟩:=k9.form;obtain⟨h1,h2,h3,h4,h5,h6⟩:=HI.o;have h1:=h1.below hb9;obtain⟨xa,xl,xc,x0,_⟩:=h1.cell hlt;have x1:=h1.frozen i;have HE:=Ja (show Li w (w9.setCell ⟨g,i,none⟩ (.slice a9 l9 c9)) g n (i+1) w7.heap.size a8 l8 c8 C S q from⟨(h1.set hlt g9.row).cong (fun j _=>cj i j (S.getD · []) (C.getD · [])),Bx.far (cs:=#[.slice a8 l8 c8]) (h2.below hb9) (p:=⟨g,i,none⟩) h5 _,h1.setK hlt (h3.below hb9),(Bt h4 hb9).setCell (p:=⟨g,i,none⟩) h6 _,h5,h6⟩);clear h1 h2 h3 h4 h5 h6 g9 k9 hb9 HI)
    go_roundw
    case rel=>exact⟨i+1,by omega,by go_num,HE⟩
    case measure=>simp[intOf];omega
  · obtain rfl:i=n:=by omega
    go_wp2;go_ret;obtain⟨h1,h2,h3,h4,h5,h6⟩:=HR.o;exact⟨g,cap,rfl,hcap,hcm,h1.cong (fun j hj=>BH hj),h4⟩
theorem take_snoc{α:Type}{L:List α}{k:Nat}(h:k<L.length):∃r,L[k]=r∧L.take k++[r] <+: L∧L.take k++[r]=L.take (k+1):=
 ⟨_,rfl,by rw[List.take_append_getElem h];exact List.take_prefix _ _,List.take_append_getElem h⟩
theorem cl(w0:World)(L:List (List Rat))(Bs g cap:Nat)(hbs:Boxed w0 Bs 120 (.slice (some ⟨g,0,none⟩) L.length cap))(hE:Xr w0 g L.length (fun j=>L.getD j []))(hl:L.length≤1000000000)(hc:L.length≤cap):
 Gp 152 #[.pointer (some ⟨Bs,0,none⟩)] w0 L LH:=by
 intro n l G W0 hW0 hGb hGo hGw hY hG0;have c1:W0.cell? ⟨Bs,0,none⟩=some (.slice (some ⟨g,0,none⟩) L.length cap):=(boxed_below hbs hW0).cell;obtain⟨len,hlen⟩:=ex (L.length);obtain⟨Qb,HE,Qg,Qc,Qf,Qe⟩:=Hl hlen hE hGb hGw hY hG0;have hl2:(len:Int)≤1000000000:=by omega
 rw[hlen]at c1 hc;clear hW0 hGb hGo hGw hY hG0 hbs hE hl hlen;refine Bz Tryz.func152 rfl trivial ?_ rfl;simp only[Tryz.ntmps152,Ap,Ad,Au,Nat.reduceAdd,Nat.reduceSub,As,At,AC,Aw,Ao,AA];gi_wp2;gi_loopw [7] (fun iv wr=>∃k:Nat,k≤len∧iv=.int .i64 (k:Int)∧Hid (G (L.take k) wr∧W0.heap.size≤wr.heap.size)) (fun iv _=>len-(intOf iv).toNat)
 case atStart=>exact⟨0,AH _,rfl,Ja ⟨Qe.o,Aa _⟩⟩
 case round=>
  obtain⟨k,hk,rfl,HR⟩:=hrel;clear c1;by_cases hlt:k<len
  · have hlt2:(k:Int)<(len:Int):=by omega
    obtain⟨a,l1,c,e0,hr⟩:=(HE.o.below (Qc.o _ _ HR.o.1)).cell (j:=k) (by have:=Qb.o;omega);have hA:Bl wr (wr.alloc (.cells #[.slice a l1 c] 25)):=Ba wr _;have Qa:k<L.length:=by have:=Qb.o;omega
    have e1:L.getD k []=L[k]:=by simp[List.getD,Qa]
    obtain⟨r,er,hpre,hT⟩:=take_snoc Qa;rw[e1,er]at hr;obtain⟨fn,tmps,assign,body,hy,hRd⟩:=Qf.o (n-1) (L.take k) r (.agg #[.slice a l1 c]) _ (Qg.o _ _ _ HR.o.1 hA) ⟨_,rfl,hr.below hA⟩ hpre (An HR.o.2 hA.size);have HT:=Ja hT;have HS:=Ja (An HR.o.2 hA.size);clear hr hA e1 er hpre hT Qa HR;gi_wp2;refine⟨fun h=>by simp[Fence.wide]at h,hRd.mono ?_⟩;rintro e W3 ⟨rfl,hG3,hs3,_⟩;have Qd:=Ja (show G (L.take (k+1)) W3∧W0.heap.size≤W3.heap.size from⟨by rw[←HT.o];exact hG3,An HS.o hs3⟩);clear hG3 hs3 hy hRd HT HS e0;gi_wp2;go_roundw
    case rel=>exact⟨k+1,by omega,by go_num,Qd⟩
    case measure=>simp[intOf];omega
  · obtain rfl:k=len:=by omega
    gi_wp2;go_end0;exact⟨⟨_,rfl⟩,by have h:=HR.o.1;rw[←Qb.o,List.take_length]at h;exact h⟩
theorem cn(w0:World)(p:List Rat)(Bp:Nat)(pa:Option Addr)(pl pc:Nat)(hb:Boxed w0 Bp 25 (.slice pa pl pc))(hp:Je w0 (.agg #[.slice pa pl pc]) p)(hl:p.length≤1000000000):
 Gp 117 #[.pointer (some ⟨Bp,0,none⟩)] w0 p.reverse NI:=by
 intro n l G W0 hW0 hGb hGo hGw hY hG0;have c1:W0.cell? ⟨Bp,0,none⟩=some (.slice pa pl pc):=(boxed_below hb hW0).cell;have HD:=Ja (J4 _ p W0 (hp.below hW0));obtain⟨len,hlen⟩:=ex (p.length);have hl2:(len:Int)≤1000000000:=by omega
 have Qe:=Ja hlen;have Qk:=Ja (fun(V:World) (h:Bl w0 V)=>(boxed_below hb h).cell);have Qi:=Ja (fun(V:World) (h:Bl w0 V) (k:Nat) (hk:k<len) (r:Rat) (hr:p.reverse[k]?=some r)=>show Calls Tryz.prog 74 #[.agg #[.slice pa pl pc],.int .i64 ((len:Int)-1-k)] V fun e w'=>∃u,e=.returned u∧Jg w' u r∧Bl V w' by
  have h1:=Gm _ p ((len:Int)-1-k) V (hp.below h);rw[BE (by omega)]at h1;have e1:r=cf p ((len:Int)-1-k).toNat:=by
   rw[List.getElem?_reverse (by omega)]at hr;have h2:((len:Int)-1-k).toNat=p.length-1-k:=by omega
   rw[h2,cf,hr];rfl
  rw[e1];exact h1)
 rw[hlen]at HD;obtain⟨Qg,Qh,Qm,Qd⟩:=Dt hGb hGw hY hG0;clear hW0 hGb hGo hGw hY hG0 hb hp hl hlen;refine Bz Tryz.func117 rfl trivial ?_ rfl;simp only[Tryz.ntmps117,Ap,Ad,Au,Nat.reduceAdd,Nat.reduceSub,As,At,AC,Aw,Ao,AA];gi_wp2_with(refine⟨trivial,fun h=>by simp[Fence.wide]at h,?_⟩;gi_at_call 30;refine((BJ (n:=_)).2 HD.o).mono ?_;clear HD;rintro e w4 ⟨rfl,hb4⟩)
 have Qf:=Ja (Qg.o _ _ _ Qd.o hb4);have Qc:=Ja hb4.size;clear hb4 Qd c1;gi_loopw [3] (fun iv wr=>∃k:Nat,k≤len∧iv=.int .i64 ((len:Int)-1-k)∧Hid (G (p.reverse.take k) wr∧W0.heap.size≤wr.heap.size)) (fun iv _=>(intOf iv+1).toNat)
 case atStart=>exact⟨0,AH _,by simp,Ja ⟨Qf.o,Qc.o⟩⟩
 case round=>
  obtain⟨k,hk,rfl,HR⟩:=hrel;clear Qf Qc;by_cases hlt:k<len
  · have HW:=Ja (Qh.o _ _ HR.o.1);have e0:=Qk.o wr HW.o;have Qb:k<p.reverse.length:=by rw[List.length_reverse];have:=Qe.o;omega
    obtain⟨r,er,hpre,hT⟩:=take_snoc Qb;have HC:=Ja (Qi.o wr HW.o k hlt r (by rw[←er];exact Am Qb));obtain⟨m,hm⟩:=ex (len-1-k:Nat);have Qa:(len:Int)-1-k=(m:Int):=by omega
    have HM:=Ja hm;have hm2:(m:Int)≤1000000000:=by omega
    rw[Qa]at HC ⊢;have HT:=Ja hT;have Ql:=Ja hpre;clear hm Qa hT hpre er Qb;gi_wp2_with(refine⟨trivial,fun h=>by simp[Fence.wide]at h,?_⟩;gi_at_call 74;refine((BJ (n:=_)).2 HC.o).mono ?_;clear HC;rintro e w4 ⟨u4,rfl,hu4,hb4⟩;obtain⟨fn,tmps,assign,body,hy,hRd⟩:=Qm.o (n-1) (p.reverse.take k) r u4 w4 (Qg.o _ _ _ HR.o.1 hb4) hu4 Ql.o (An HR.o.2 hb4.size))
    refine⟨fun h=>by simp[Fence.wide]at h,hRd.mono ?_⟩;rintro e W3 ⟨rfl,hG3,hs3,_⟩;have Qj:=Ja (show G (p.reverse.take (k+1)) W3∧W0.heap.size≤W3.heap.size from⟨by rw[←HT.o];exact hG3,An HR.o.2 (An hb4.size hs3)⟩);clear hG3 hs3 hy hRd hu4 hb4 HR;gi_wp2;go_roundw
    case rel=>exact⟨k+1,by omega,by(congr 1;have:=HM.o;omega),Qj⟩
    case measure=>simp[intOf]
  · obtain rfl:k=len:=by omega
    have Qa:(k:Int)-1-k=-1:=by omega
    rw[Qa];gi_wp2;refine⟨trivial,?_⟩;gi_wp2;all_goals(refine⟨fun f h=>(by cases h),?_⟩;gi_wp2;go_end0;exact⟨⟨_,rfl⟩,by have h:=HR.o.1;rw[Ac (by rw[List.length_reverse,Qe.o];exact Aa _)]at h;exact h⟩)
end M3
section
open Go.RowKit Go.Shelf
theorem RX{A X:Nat}{x:Rat}(hx:DV X x):∀l:List Rat,(∀i,DV A (cf l i))→DV (l.length*(A+X+1)+1) (ev l x):=by
 intro l;induction l with
 |nil=>intro _;exact DV.zero _ (by simp)
 |cons c t ih=>
  intro h;have h1:=ih (fun i=>by have:=h (i+1);rwa[JI]at this);have h2:=h 0;rw[Yf]at h2;rw[ev,Ad,AD];exact(h2.add2 (hx.mul2 h1)).mono (by omega)
theorem RY{A X:Nat}{x:Rat}{ps:List Rat}(hx:DV X x)(hp:∀i,DV A (cf ps i))(hb:ps.length*(A+X+1)+1+X≤1000000000):M3.Ie ps x:=fun n=>by
 have h1:=RX hx (ps.drop n) (fun i=>by
  have e:cf (ps.drop n) i=cf ps (n+i):=by simp[cf]
  rw[e];exact hp _)
 have h2:(ps.drop n).length*(A+X+1)≤ps.length*(A+X+1):=Aj _ (by rw[AK];omega);exact⟨Sq.of h1 (by omega),Sq.of (h1.mul2 hx) (by omega)⟩
end
theorem co(l:List (List Rat)):l.map Ef=(FJ l).map Dk:=by simp[FJ,Ef,Function.comp_def]
theorem ct(n:Nat):((-1:Rat))^n=if n%2=0 then 1 else -1:=by
 induction n with
 |zero=>rfl
 |succ n ih=>
  rw[Rat.pow_succ,ih];by_cases h:n%2=0
  · rw[BH h,BE (by omega)];grind
  · rw[BE h,BH (by omega)];grind
theorem dA(l:List (List Rat))(h:∀p∈l,p≠[]):l.map GW=(EB l).map Dk:=by
 unfold EB;rw[List.map_map];refine List.map_congr_left fun p hp=>?_;have h1:=Af.2 (h p hp);show GW p=Dk ((-1)^(p.length-1)*cf p (p.length-1));unfold GW Ef;rw[ct];by_cases h2:p.length%2=0
 · rw[BH h2,BE (by omega),←ZE];congr 1;grind
 · rw[BE h2,BH (by omega),Cx]
namespace M3
open Go.RowKit Go.Shelf
attribute [local go_sem] Oper.semAt_some
theorem dB(a:Option Addr)(l c:Nat)(w:World):
 Calls Tryz.prog 104 #[.slice a l c] w fun e w'=>∃B,e=.returned (.func (.func 152) #[] #[.pointer (some ⟨B,0,none⟩)])∧Boxed w' B 120 (.slice a l c)∧Bl w w':=by
 go_enter Tryz.func104,Tryz.ntmps104
 go_wp2_with fail
 go_ret;exact⟨_,rfl,BI w _ _,Ba w _⟩
theorem dC(g p:Nat)(lb pb:Array Value)(w:World):
 Calls Tryz.prog 106 #[.func (.func g) #[] lb,.func (.func p) #[] pb] w fun e w'=>∃Bth Bf,e=.returned (.func (.func 154) #[] #[.pointer (some ⟨Bth,0,none⟩),.pointer (some ⟨Bf,0,none⟩)])∧Boxed w' Bth 125 (.func (.func g) #[] lb)∧Boxed w' Bf 39 (.func (.func p) #[] pb)∧Bl w w':=by
 have hb:Bl w ((w.alloc (.cells #[.func (.func g) #[] lb] 125)).alloc (.cells #[.func (.func p) #[] pb] 39)):=(Ba w _).alloc (by rw[BA];omega) _;have h2:=BI (w.alloc (.cells #[.func (.func g) #[] lb] 125)) 39 (.func (.func p) #[] pb);rw[BA]at h2;have HB:=Ja hb;have H2:=Ja h2;clear hb h2;go_enter Tryz.func106,Tryz.ntmps106
 go_wp2_with fail
 go_ret;exact⟨_,_,rfl,(BI w _ _).alloc _,H2.o,HB.o⟩
theorem dD(g p:Nat)(lb pb:Array Value)(w:World):
 Calls Tryz.prog 55 #[.func (.func g) #[] lb,.func (.func p) #[] pb] w fun e w'=>∃Bth Bf,e=.returned (.func (.func 116) #[] #[.pointer (some ⟨Bth,0,none⟩),.pointer (some ⟨Bf,0,none⟩)])∧Boxed w' Bth 96 (.func (.func g) #[] lb)∧Boxed w' Bf 61 (.func (.func p) #[] pb)∧Bl w w':=by
 have hb:Bl w ((w.alloc (.cells #[.func (.func g) #[] lb] 96)).alloc (.cells #[.func (.func p) #[] pb] 61)):=(Ba w _).alloc (by rw[BA];omega) _;have h2:=BI (w.alloc (.cells #[.func (.func g) #[] lb] 96)) 61 (.func (.func p) #[] pb);rw[BA]at h2;have HB:=Ja hb;have H2:=Ja h2;clear hb h2;go_enter Tryz.func55,Tryz.ntmps55
 go_wp2_with fail
 go_ret;exact⟨_,_,rfl,(BI w _ _).alloc _,H2.o,HB.o⟩
structure Tells(pf:Nat)(pb:Array Value)(w:World)(xs:List (List Rat))(f:List Rat→Int):Prop where
 plc:Ii pf pb w xs LH f
 ent:∀args w,(callFunc pf args).run Tryz.prog w=.ok (.enter pf args) w
 sg:∀x∈xs,-1≤f x∧f x≤1
theorem Ii.later{α:Type}{pf:Nat}{pb:Array Value}{w w':World}{xs:List α}{Enc:World→Value→α→Prop}{f:α→Int}(h:Ii pf pb w xs Enc f)(hb:Bl w w'):Ii pf pb w' xs Enc f:=
 fun W v x hB he hx=>h W v x (Bt hb hB) he hx
theorem RZ{pf:Nat}{pb:Array Value}{f:List Rat→Int}(L:List (List Rat))(Bs g cap Bth Bf:Nat)(w:World)(hbs:Boxed w Bs 120 (.slice (some ⟨g,0,none⟩) L.length cap))(hE:Xr w g L.length (fun j=>L.getD j []))(hl:L.length≤1000000000)(hc:L.length≤cap)(hf:Tells pf pb w L f)(hbt:Boxed w Bth 125 (.func (.func 152) #[] #[.pointer (some ⟨Bs,0,none⟩)]))(hbf:Boxed w Bf 39 (.func (.func pf) #[] pb)):
 Calls Tryz.prog 54 #[.func (.func 154) #[] #[.pointer (some ⟨Bth,0,none⟩),.pointer (some ⟨Bf,0,none⟩)]] w fun e w'=>e=.returned (.int .i64 (F1 (L.map f):Int))∧Bl w w':=
 Pz w (L.map f) (ZG w L f Bth Bf (cl w L Bs g cap hbs hE hl hc) (Br Tryz.func152 (by kernel_rfl) rfl) hf.ent hbt hbf hf.plc) (Br Tryz.func154 (by kernel_rfl) rfl)
  (fun s hs=>by obtain⟨x,hx,rfl⟩:=CU.1 hs;exact hf.sg x hx) (by rw[C4];exact hl)
theorem SrOk.len{K:Nat}{p:List Rat}(hok:SrOk K p):(Ju p).length≤1000000000∧0<(Ju p).length:=by
 obtain⟨g,h1,_,h2⟩:=hok.last;rw[h2,C4];have h1:∀(n:Nat) (a b:List Rat),(EO n a b).length≤n+1∧0<(EO n a b).length:=fun n=>by
  induction n with
  |zero=>intro a b;exact⟨Aa _,Nat.one_pos⟩
  |succ n ih=>
   intro a b;rw[EO];split
   · simp
   · have:=ih b (YN a b);simp only[Ad];omega
 have h2:=h1 (JL (Jd p)).length (JL p) (JL (Jd p));have h3:=J2 hok.ch.tq;have h4:=hok.ch.ln;refine⟨?_,h2.2⟩;show(EO _ _ _).length≤_;omega
theorem Nz(K:Nat)(v:Value)(p:List Rat)(w:World)(h:Je w v p)(hok:SrOk K p)(hsl:∀i,Sq (GY p i)){pf pf2:Nat}{pb pb2:Array Value}{f f2:List Rat→Int}(hf:Tells pf pb w (Ju p) f)(hf2:Tells pf2 pb2 w (Ju p) f2):
 Calls Tryz.prog 46 #[v,.func (.func pf) #[] pb,.func (.func pf2) #[] pb2] w fun e w'=>e=.returned (.int .i64 ((F1 ((Ju p).map f):Int)-(F1 ((Ju p).map f2):Int)))∧Bl w w':=by
 obtain⟨pa,la,pc,rfl⟩:=h.form;have hA:Bl w (w.alloc (.cells #[.slice pa la pc] 25)):=Ba w _;obtain⟨W0,hW0⟩:=ex (w.alloc (.cells #[.slice pa la pc] 25));have n0:Boxed W0 w.heap.size 25 (.slice pa la pc):=by rw[←hW0];exact BI w _ _
 rw[hW0]at hA;have Qh:=Ja hW0;have Qj:=Ja n0;have Qb:=n0.cell;have HA:=Ja hA;obtain⟨m,hm⟩:=ex (p.length-1:Nat);have Qi:(p.length:Int)-1=(m:Int):=by have:=Af.2 hok.p0;omega
 have HD:=Ja (fun(V:World) (hB:Bl W0 V)=>J4 _ p V ((h.below hA).below hB));rw[Qi]at HD;obtain⟨Qf,HL,HF,Qc⟩:=Dt (fun(V:World) (hB:Bl W0 V)=>ck K _ p V ((h.below hA).below hB) hok hsl) hok.len (fun(V:World) (hB:Bl W0 V)=>(⟨hf.plc.later (Bt hA hB),hf.ent,hf.sg⟩:Tells pf pb V (Ju p) f)) (fun(V:World) (hB:Bl W0 V)=>(⟨hf2.plc.later (Bt hA hB),hf2.ent,hf2.sg⟩:Tells pf2 pb2 V (Ju p) f2));obtain⟨S,hS⟩:=ex (Ju p);rw[hS]at Qf HL HF Qc ⊢;have Qd:∀(g:List Rat→Int),Tells pf pb w S g∨Tells pf2 pb2 w S g→F1 (S.map g)≤1000000000:=fun g hg=>by
  have h1:∀x∈S,-1≤g x∧g x≤1:=by rcases hg with hg|hg<;>exact hg.sg
  have h2:=(Px (S.map g) (0,0) (fun s hs=>by obtain⟨x,hx,rfl⟩:=CU.1 hs;exact h1 x hx) (by decide)).2;rw[C4]at h2;have:=HL.o.1;show(List.foldl Dq (0,0) (S.map g)).1≤_;omega
 rw[hS]at hf hf2;have l1:=Qd f (Or.inl hf);have l2:=Qd f2 (Or.inr hf2);obtain⟨n1,hn1⟩:=ex (F1 (S.map f));obtain⟨n2,hn2⟩:=ex (F1 (S.map f2));rw[hn1]at l1 ⊢;rw[hn2]at l2 ⊢;have Qg:=Ja (fun(Bs g cap Bth Bf:Nat) (V:World) (hB:Bl W0 V) (h1:Boxed V Bs 120 (.slice (some ⟨g,0,none⟩) S.length cap)) (h2:Xr V g S.length (fun j=>S.getD j [])) (h3:S.length≤cap) (h4:Boxed V Bth 125 (.func (.func 152) #[] #[.pointer (some ⟨Bs,0,none⟩)])) (h5:Boxed V Bf 39 (.func (.func pf) #[] pb))=>RZ S Bs g cap Bth Bf V h1 h2 HL.o.1 h3 (HF.o V hB) h4 h5);have Qe:=Ja (fun(Bs g cap Bth Bf:Nat) (V:World) (hB:Bl W0 V) (h1:Boxed V Bs 120 (.slice (some ⟨g,0,none⟩) S.length cap)) (h2:Xr V g S.length (fun j=>S.getD j [])) (h3:S.length≤cap) (h4:Boxed V Bth 125 (.func (.func 152) #[] #[.pointer (some ⟨Bs,0,none⟩)])) (h5:Boxed V Bf 39 (.func (.func pf2) #[] pb2))=>RZ S Bs g cap Bth Bf V h1 h2 HL.o.1 h3 (Qc.o V hB) h4 h5);rw[hn1]at Qg;rw[hn2]at Qe;clear h hok hsl hf hf2 hA hW0 n0 hm Qi hS Qd hn1 hn2 HL HF Qc;go_enter Tryz.func46,Tryz.ntmps46
 go_upto_region 1 with fail
 rw[Qh.o];clear Qh;have hq:=BG W0.heap.size W0;go_upto_region 3 with(go_at_call 30;refine(HD.o _ hq).mono ?_;clear HD;rintro e w5 ⟨rfl,hb5⟩;have hq:=Bt hq hb5;clear Qb;have Qb:=(boxed_below Qj.o hq).cell)
 go_upto_region 4 with(first
  |(go_at_call 105;refine(Qf.o _ hq).mono ?_;clear Qf;rintro e w6 ⟨g,cap,rfl,hcap,hcm,hE,hb6⟩;have hq:=Bt hq hb6;clear Qb)
  |(go_at_call 104;refine(dB _ _ _ _).mono ?_;rintro e w7 ⟨Bs,rfl,Qa,hb7⟩;have hq:=Bt hq hb7;have hE:=hE.below hb7))
 go_wp2_with(first
  |(go_at_call 106;refine(dC _ _ _ _ _).mono ?_;rintro e w8 ⟨Bth,Bf,rfl,hbt,hbf,hb8⟩;have hq:=Bt hq hb8;have hE:=hE.below hb8;have Qa:=boxed_below Qa hb8)
  |(go_at_call 54;refine(Qg.o _ _ _ _ _ _ hq Qa hE hcap hbt hbf).mono ?_;clear Qg hbt hbf;rintro e w9 ⟨rfl,hb9⟩;have hq:=Bt hq hb9;have hE:=hE.below hb9;have Qa:=boxed_below Qa hb9)
  |(go_at_call 54;refine(Qe.o _ _ _ _ _ _ hq Qa hE hcap hbt hbf).mono ?_;clear Qe hbt hbf;rintro e w9 ⟨rfl,hb9⟩;have hq:=Bt hq hb9;have hE:=hE.below hb9;have Qa:=boxed_below Qa hb9))
 go_ret;exact⟨rfl,Bt HA.o hq⟩
end M3
section
open Go.RowKit Go.Shelf
def ET(p:List Rat):Int:=if p=[]then -1 else(DR (EB (Ju p)):Int)-(DR (FJ (Ju p)):Int)
def EC(p:List Rat)(x:Rat):Int:=if p=[]then -1 else(DR (EB (Ju p)):Int)-(DR (JJ (Ju p) x):Int)
def GF(p:List Rat)(x y:Rat):Int:=if p=[]then -1 else if y≤x then 0 else(DR (JJ (Ju p) x):Int)-(DR (JJ (Ju p) y):Int)
structure CtOk(K X:Nat)(p:List Rat):Prop where
 ch:M3.ChOk K p (Jd p)
 fit:max p.length (Jd p).length*(Df K p (Jd p)+max p.length (Jd p).length*(Df K p (Jd p)+1)+1+X+1)+1+X≤1000000000
theorem CtOk.sr{K X:Nat}{p:List Rat}(h:CtOk K X p)(p0:p≠[]):M3.SrOk K p:=⟨h.ch,p0⟩
theorem CtOk.sl{K X:Nat}{p:List Rat}(h:CtOk K X p)(i:Nat):Sq (GY p i):=by
 have h1:=(show Cd K (Jd p)from h.ch.cq).smq i;unfold Jd at h1;rw[J0,I3]at h1;exact Sq.of h1 h.ch.bd.2.1
theorem CtOk.row{K X:Nat}{p:List Rat}(h:CtOk K X p)(p0:p≠[]):∀y∈Ju p,Sqs y∧y≠[]∧y.length≤1000000000∧∀x,DV X x→M3.Ie y x∧Sq (ev y x):=by
 intro y hy;have Qc:=(Yp h.ch.tp p0 y hy).2;obtain⟨g,_,hg,e⟩:=(h.sr p0).last;rw[e]at hy;obtain⟨a,ha,rfl⟩:=CU.1 hy;obtain⟨ta,ca,la,a0⟩:=(h.sr p0).mem a ha;obtain⟨tg,cg,lg,g0⟩:=(h.sr p0).mem g hg;have Qa:=h.fit;obtain⟨n,hn⟩:=ex (max p.length (Jd p).length);obtain⟨A,hA⟩:=ex (Df K p (Jd p));rw[hn,hA]at Qa;rw[hn]at la;rw[hA]at ca cg;have c1:=ca.quoG cg tg g0;have h2:a.length*(A+1)≤n*(A+1):=Aj _ la;have c2:Cd (A+n*(A+1)+1) (Jv a g):=c1.mono (by omega);have l1:(Jv a g).length≤a.length:=by
  unfold Jv;refine An (YB _) ?_;rw[(YK _ _ _ _ _).1];omega
 have Qb:0<n:=by have:=Af.2 a0;omega
 have h3:1*(A+n*(A+1)+1+X+1)≤n*(A+n*(A+1)+1+X+1):=Aj _ Qb;have h4:(Jv a g).length*(A+n*(A+1)+1+X+1)≤n*(A+n*(A+1)+1+X+1):=Aj _ (by omega);have h5:n*1≤n*(A+n*(A+1)+1+X+1):=Ar _ (by omega);refine⟨c2.sqs (by omega),Qc,by omega,fun x hx=>⟨RY hx c2.smq (by omega),Sq.of (RX hx _ c2.smq) (by omega)⟩⟩
namespace M3
attribute [local go_sem] Oper.semAt_some
theorem Ra{K X:Nat}{p:List Rat}(hok:CtOk K X p)(p0:p≠[])(w:World):Tells 47 #[] w (Ju p) GW where
 plc:=fun W v y _ he hy=>by
  obtain⟨h1,h2,h3,_⟩:=hok.row p0 y hy;have:=ZJ v y W he h1 h2 h3;simpa using this
 ent:=Br Tryz.func47 (by kernel_rfl) rfl
 sg:=fun y _=>by
  have:=KR (cf y (y.length-1));unfold GW Ef;split<;>omega
theorem dE{K X:Nat}{p:List Rat}(hok:CtOk K X p)(p0:p≠[])(w:World):Tells 48 #[] w (Ju p) Ef where
 plc:=fun W v y _ he hy=>by
  obtain⟨h1,h2,h3,_⟩:=hok.row p0 y hy;have:=P3 v y W he h1 h2;simpa using this
 ent:=Br Tryz.func48 (by kernel_rfl) rfl
 sg:=fun y _=>KR _
theorem N0{K X:Nat}{p:List Rat}(hok:CtOk K X p)(p0:p≠[])(w:World){B:Nat}{s t:Bool}{a b:Option Addr}{l c k d:Nat}{x:Rat}(hx:DV X x)(hb:JF w B 37 (.bool s) (.slice a l c) (.bool t) (.slice b k d))(hv:Jg w (.agg #[.bool s,.slice a l c,.bool t,.slice b k d]) x):Tells 112 #[.pointer (some ⟨B,0,none⟩)] w (Ju p) (fun y=>Dk (ev y x)) where
 plc:=fun W v y hB he hy=>by
  obtain⟨h1,h2,h3,h4⟩:=hok.row p0 y hy;have hX:X≤1000000000:=by have:=hok.fit;omega
  have:=ZK v y x B s t a b l c k d W he (hb.below hB) (hv.below hB) h1 (Sq.of hx hX) (h4 x hx).1 (h4 x hx).2;simpa using this
 ent:=Br Tryz.func112 (by kernel_rfl) rfl
 sg:=fun y _=>KR _
theorem Rb{p:List Rat}(tp:Jc p=p)(p0:p≠[]):F1 ((Ju p).map GW)=DR (EB (Ju p)):=by
 rw[dA _ fun y hy=>(Yp tp p0 y hy).2,LG]
theorem dF(l:List (List Rat)):F1 (l.map Ef)=DR (FJ l):=by rw[co,LG]
theorem N8(l:List (List Rat))(x:Rat):F1 (l.map fun y=>Dk (ev y x))=DR (JJ l x):=by
 rw[←LG];unfold JJ;rw[List.map_map];rfl
theorem N9(v:Value)(w:World)(h:Je w v [])(f f2:Value):
 Calls Tryz.prog 46 #[v,f,f2] w fun e w'=>e=.returned (.int .i64 (-1))∧Bl w w':=by
 obtain⟨pa,la,pc,rfl⟩:=h.form;have hA:Bl w (w.alloc (.cells #[.slice pa la pc] 25)):=Ba w _;have HD:=Ja (J4 _ [] _ (h.below hA));rw[show(([]:List Rat).length:Int)-1=-1 from rfl]at HD;have HA:=Ja hA;clear h hA;go_enter Tryz.func46,Tryz.ntmps46
 go_wp2_with(go_at_call 30;refine HD.o.mono ?_;clear HD;rintro e w5 ⟨rfl,hb5⟩)
 go_ret;exact⟨rfl,Bt HA.o hb5⟩
theorem Lj(K X:Nat)(v:Value)(p:List Rat)(w:World)(h:Je w v p)(hok:CtOk K X p):
 Calls Tryz.prog 13 #[v] w fun e w'=>e=.returned (.int .i64 (ET p))∧Bl w w':=by
 obtain⟨pa,la,pc,rfl⟩:=h.form;have hA:Bl w (w.alloc (.cells #[.slice pa la pc] 25)):=Ba w _;have HC:=Ja (show Calls Tryz.prog 46 #[.agg #[.slice pa la pc],.func (.func 47) #[] #[],.func (.func 48) #[] #[]] (w.alloc (.cells #[.slice pa la pc] 25)) fun e w'=>e=.returned (.int .i64 (ET p))∧Below (w.alloc (.cells #[.slice pa la pc] 25)).heap.size (w.alloc (.cells #[.slice pa la pc] 25)) w' by
  unfold ET;by_cases p0:p=[]
  · rw[BH p0];rw[p0]at h;exact N9 _ _ (h.below hA) _ _
  · rw[BE p0];have h1:=Nz K _ p _ (h.below hA) (hok.sr p0) hok.sl (Ra hok p0 _) (dE hok p0 _);rw[Rb hok.ch.tp p0,dF]at h1;exact h1)
 have HA:=Ja hA;obtain⟨n,hn⟩:=ex (ET p);rw[hn]at HC ⊢;clear h hok hA hn;go_enter Tryz.func13,Tryz.ntmps13
 go_wp2_with(go_at_call 46;refine HC.o.mono ?_;clear HC;rintro e w5 ⟨rfl,hb5⟩)
 go_ret;exact⟨rfl,Bt HA.o hb5⟩
end M3
end
theorem dG(p:List Rat){B:Rat}(hB:0≤B):∃K,0<K∧∀x y,Wi B x→Wi B y→x≤y→Wi (K*((y-x)*(y-x))) (ev p y-ev p x-(y-x)*dv p x):=by
 induction p with
 |nil=>exact⟨1,by decide,fun x y _ _ _=>by
  have:=XJ (y-x);constructor<;>simp[ev,dv]<;>grind⟩
 |cons c t ih=>
  obtain⟨K,hK,h⟩:=ih;obtain⟨D,hD,hd⟩:=XU (Jd t) hB;refine⟨B*K+D+1,by have:=Rat.mul_nonneg hB (Rat.le_of_lt hK);grind,fun x y hx hy hxy=>?_⟩;have h0:=XJ (y-x);have h1:Wi ((y-x)*(y-x)) ((y-x)*(y-x)):=⟨by grind,by grind⟩;have hd':=hd x hx;rw[YZ]at hd';have h2:=(hy.mul (h x y hx hy hxy)).add (h1.mul hd');have e:ev (c::t) y-ev (c::t) x-(y-x)*dv (c::t) x=y*(ev t y-ev t x-(y-x)*dv t x)+(y-x)*(y-x)*dv t x:=by
   rw[IK,IK,show dv (c::t) x=ev t x+x*dv t x from rfl];grind
  rw[e];refine h2.mono ?_;grind
def Ej(p:List Rat)(x y:Rat):Nat:=if ev p x≠0∧ev p x*ev p y≤0 then 1 else 0
theorem Rc{p:List Rat}{x y:Rat}(h:Do p x y):Ej p x y=0:=by
 unfold Ej Do at *;rw[BE (fun q=>by have:=q.2;grind)]
theorem dH{R w y:List Rat}(h:Yun R w y){B:Rat}(hB:0≤B):Sh B fun x z=>¬Do w x z→x<z→0<ev (Jd w) x*(ev w z-ev w x):=by
 obtain⟨k,k0,s⟩:=RR _ _ _ _ (Aa _) h hB;obtain⟨Y,pY,hY⟩:=XU y hB;obtain⟨D,pD,hD⟩:=XU (Jd w) hB;obtain⟨K,pK,hK⟩:=dG w hB;obtain⟨e,e0,he⟩:=small (K:=(Y*Y)*(D*K)) (r:=k*k/2) (Rat.le_of_lt (Rat.mul_pos (Rat.mul_pos pY pY) (Rat.mul_pos pD pK))) (by have:=Rat.mul_pos k0 k0;grind);have s2:Sh B fun x z=>z-x≤e:=⟨e,e0,fun _ _ _ _ _ h=>h⟩;refine(s.and s2).mono fun x z hx hz hxz ⟨h1,h2⟩ hn hlt=>?_;obtain⟨h3,_⟩:=h1 hn;have h4:=hK x z hx hz hxz;rw[←YZ]at h4;have h5:=hY x hx;have h6:=hD x hx;generalize ev (Jd w) x=d at *;generalize ev y x=v at *;generalize ev w z-ev w x=t at *;obtain⟨u,hu⟩:=ex (z-x);rw[hu]at h2 h4;have u0:0<u:=by grind
 have h7:k*k≤(Y*Y)*(d*d):=by
  have i1:=Rat.mul_nonneg (a:=v*d-k) (b:=v*d+k) (by grind) (by grind);have i2:=Rat.mul_nonneg (a:=Y*Y-v*v) (b:=d*d) (by have:=I5 h5;grind) (XJ d);grind
 have h8:u*(d*d)-(D*K)*(u*u)≤d*t:=by
  have i1:=(h6.mul h4).1;grind
 have h9:=he u h2;have hp:0<(Y*Y)*(d*t):=by
  have i1:=Rat.mul_nonneg (a:=Y*Y) (b:=d*t-(u*(d*d)-(D*K)*(u*u))) (XJ Y) (by grind);have i2:=Rat.mul_nonneg (a:=u) (b:=(Y*Y)*(d*d)-k*k) (by grind) (by grind);have i3:=Rat.mul_nonneg (a:=u) (b:=k*k/2-(Y*Y)*(D*K)*u) (by grind) (by grind);have i4:=Rat.mul_pos u0 (Rat.mul_pos k0 k0);grind
 rcases Ye (d*t) 0 with q|q
 · have:=Rat.mul_nonneg (a:=Y*Y) (b:=-(d*t)) (XJ Y) (by grind);grind
 · rcases Rat.le_iff_lt_or_eq.1 q with q|q
   · exact q
   · rw[←q]at hp;grind
theorem OA{a b:Rat}(h:0<(a*a)*b):0<b:=by
 rcases Ye b 0 with q|q
 · have:=Rat.mul_nonneg (a:=a*a) (b:=-b) (XJ a) (by grind);grind
 · rcases Rat.le_iff_lt_or_eq.1 q with q|q
   · exact q
   · rw[←q]at h;grind
theorem dI{a b u v:Rat}(h1:0<a*(v-u))(h2:0<b*(v-u))(h3:u*v≤0):
 (if u*a<0 then 1 else 0)=(if v*b<0 then 1 else 0)+(if u≠0∧u*v≤0 then 1 else 0:Nat):=by
 by_cases u0:u=0
 · subst u0;rw[BE (by grind),BE (by grind),BE (by simp)]
 · have i1:u*a<0:=by
    rcases Ye 0 (u*a)with q|q
    · exfalso
      have a0:=(Yw h1).1;have q:0<u*a:=by
       rcases Rat.le_iff_lt_or_eq.1 q with q|q
       · exact q
       · rcases Ch.1 q.symm with q|q
         · exact absurd q u0
         · exact absurd q a0
      have:=Rat.mul_pos q (show 0<v*a by grind);have:=OA (a:=a) (b:=u*v) (by grind);grind
    · rcases Rat.le_iff_lt_or_eq.1 q with q|q
      · exact q
      · rcases Ch.1 q with q|q
        · exact absurd q u0
        · exact absurd q (Yw h1).1
   have i2:¬v*b<0:=fun q=>by
    have:=Rat.mul_pos (a:=-(v*b)) (b:=-(u*b)) (by grind) (by grind);have:=OA (a:=b) (b:=u*v) (by grind);grind
   rw[BH i1,BE i2,BH ⟨u0,h3⟩]
theorem dJ{w b f1:List Rat}{n:Nat}{m1:List (List Rat)}(hm:FI n w b=w::f1::m1):b≠[]∧f1=Yn b:=by
 cases n with
 |zero=>
  have h2:[w]=w::f1::m1:=hm;exact absurd (List.cons.inj h2).2 (by simp)
 |succ n=>
  by_cases w0:b=[]
  · rw[FI,BH w0]at hm;exact absurd (List.cons.inj hm).2 (by simp)
  · rw[FI,BE w0]at hm;have h2:=(List.cons.inj hm).2;obtain⟨t,ht⟩:=Ke n (Yn b) (DU (-1) (JE w (Yn b)));rw[ht]at h2;exact⟨w0,(List.cons.inj h2).1.symm⟩
theorem X8{p:List Rat}(tp:Jc p=p)(p0:p≠[]){B:Rat}(hB:0≤B):Sh B fun x z=>DR (JJ (YO p) x)=DR (JJ (YO p) z)+Ej (DW p) x z:=by
 have hy:Yun (JS p) (DW p) (IF p):=Yun.start (Ip p) (LZ tp p0) (KY tp);have hw:=Nv _ _ _ _ (Aa _) hy;have hr:=RW _ (DW p) (Jd (DW p)) (Aa _) hy.tw (J1 _) hw;refine((hr.gd hB).and (dH hy hB)).mono fun x z _ _ hxz ⟨d2,hs⟩=>?_;show DR (JJ (YO p) x)=DR (JJ (YO p) z)+Ej (DW p) x z;obtain⟨m,hm⟩:=Ke (Jd (DW p)).length (DW p) (Jd (DW p));unfold YO;rw[hm]at d2 ⊢;by_cases st:Do (DW p) x z
 · rw[Rc st,d2.stay st];rfl
 · cases m with
   |nil=>exact absurd d2.o st
   |cons f1 m1=>
    obtain⟨w0,hg⟩:=dJ hm;have sp:=Nw (J1 (DW p)) w0;obtain⟨c,hc⟩:∃c,1/Yl (cf (Jd (DW p)) ((Jd (DW p)).length-1))=c:=⟨_,rfl⟩;rw[hc]at sp;have Qc:ev f1 x=ev (Jd (DW p)) x*c:=by rw[hg,←hc];exact JH _ _ _
    have s1:=(d2.adj).resolve_left st;obtain⟨n1,n2⟩:=Yw s1;have sm:=d2.tail.same _ m1 f1 (Aa _) s1;rw[JY,JY,JY,JY,IL n1,IL n2,sm];clear sm hm hr hw hy d2 hg hc w0;have st':ev (DW p) x*ev (DW p) z≤0:=Rat.not_lt.1 st;rcases Rat.le_iff_lt_or_eq.1 hxz with hlt|heq
    · have Qa:0<ev f1 x*(ev (DW p) z-ev (DW p) x):=by
       rw[Qc];have:=Rat.mul_pos (hs st hlt) sp;grind
      have Qb:0<ev f1 z*(ev (DW p) z-ev (DW p) x):=OA (a:=ev f1 x) (by
       have:=Rat.mul_pos (show 0<ev f1 x*ev f1 z from s1) Qa;grind)
      have:=dI Qa Qb st';unfold Ej;rw[this];omega
    · subst heq;have u0:ev (DW p) x=0:=by
       have h9:=XJ (ev (DW p) x);rcases Ch.1 (Rat.le_antisymm st' h9)with q|q<;>exact q
      have j0:Ej (DW p) x x=0:=by
       unfold Ej;exact BE fun q=>q.1 u0
      rw[j0];omega
theorem dK{B:Rat}{F:Rat→Nat}(h:Sh B fun x y=>F y≤F x){a b:Rat}(ha:Wi B a)(hb:Wi B b)(hab:a≤b):F b≤F a:=by
 obtain⟨d,d0,h⟩:=h;obtain⟨n,hn⟩:=steps d0 a b
 have:∀(n:Nat) (a:Rat),Wi B a→a≤b→b-a≤(n:Rat)*d→F b≤F a:=by
  intro n;induction n with
  |zero=>
   intro a ha hab h0;have e:a=b:=by
    have:((0:Nat):Rat)=0:=rfl
    rw[this]at h0;grind
   rw[e];exact Aa _
  |succ n ih=>
   intro a ha hab h0;have e1:((n+1:Nat):Rat)=(n:Rat)+1:=by rw[Rat.natCast_add];rfl
   rw[e1]at h0;rcases Ye (b-a) d with h1|h1
   · exact h a b ha hb hab h1
   · have hc:Wi B (a+d):=⟨by have:=ha.1;grind,by have:=hb.2;grind⟩;have h2:=h a (a+d) ha hc (by grind) (by grind);have h3:=ih (a+d) hc (by grind) (by grind);omega
 exact this n a ha hab hn
theorem dL{p:List Rat}(tp:Jc p=p)(p0:p≠[]){a b:Rat}(hab:a≤b):DR (JJ (YO p) b)≤DR (JJ (YO p) a):=by
 obtain⟨A,A0,hA⟩:=Yt a;obtain⟨C,C0,hC⟩:=Yt b;refine dK (B:=A+C) (F:=fun x=>DR (JJ (YO p) x)) ?_ (hA.mono (by grind)) (hC.mono (by grind)) hab;refine(X8 tp p0 (B:=A+C) (by grind)).mono fun x y _ _ _ h=>?_;show DR (JJ (YO p) y)≤DR (JJ (YO p) x);omega
theorem Re{p:List Rat}(tp:Jc p=p)(p0:p≠[]){a b:Rat}(hab:a≤b):DR (JJ (Ju p) b)≤DR (JJ (Ju p) a):=by
 have h1:=X7 tp p0 hab;have h2:=dL tp p0 hab;omega
theorem Rf{p:List Rat}(tp:Jc p=p)(p0:p≠[])(x:Rat):DR (JJ (Ju p) x)≤DR (EB (Ju p)):=by
 obtain⟨B,B0,_,h1⟩:=Xv (Yp tp p0);obtain⟨X,X0,hX⟩:=Yt x;have:=Re tp p0 (a:=-(B+X)) (b:=x) (by have:=hX.1;clear h1;grind);rwa[h1 (-(B+X)) (by clear h1;grind)]at this
theorem Rg{p:List Rat}(tp:Jc p=p)(p0:p≠[])(x:Rat):DR (FJ (Ju p))≤DR (JJ (Ju p) x):=by
 obtain⟨B,B0,h1,_⟩:=Xv (Yp tp p0);obtain⟨X,X0,hX⟩:=Yt x;have:=Re tp p0 (a:=x) (b:=B+X) (by have:=hX.2;clear h1;grind);rwa[h1 (B+X) (by clear h1;grind)]at this
theorem Da.of_unit{a:List Rat}(h:Dv a [1])(c:List Rat):Da a c:=by
 obtain⟨d,hd⟩:=h;refine⟨d,[],fun x=>?_⟩;have:=hd x;rw[Js]at this;simp[ev];grind
theorem Da.mul_left{a b c:List Rat}(h:Da a c)(h2:Da b c):Da (Jn a b) c:=(h.symm.mul h2.symm).symm
theorem dM:∀(n:Nat) (R w y:List Rat),R.length≤n→Yun R w y→∀c,Da w c→Da R c:=by
 intro n;induction n with
 |zero=>intro R w y hn h;exact absurd (AE.1 (by omega)) h.R0
 |succ n ih=>
  intro R w y hn h c hc;by_cases hl:w.length≤1
  · obtain⟨d,hd⟩:=Kc h.tw h.w0 hl;refine Da.of_unit (Ns h.tR h.R0 ⟨Jn d y,fun x=>?_⟩) c;have h1:=h.eq x;have h2:=hd x;rw[Js]at h2;rw[Jh]
    have:ev (Jd R) x=(ev w x*ev d x)*ev (Jd R) x:=by rw[←h2,Cx]
    rw[this];grind
  · obtain⟨_,_,h2,eR,_,eW⟩:=h.step;have lR:(Jv R w).length≤n:=by
     have:=JD h.tw h2.tR h.w0 h2.R0;rw[←eR]at this;omega
    have Qa:Dv (Jv w (JK w (Ym y (Jd w)))) w:=⟨JK w (Ym y (Jd w)),fun x=>by
     have:=Jh (JK w (Ym y (Jd w))) (Jv w (JK w (Ym y (Jd w)))) x;rw[←eW]at this;rw[this];grind⟩
    have h3:=ih _ _ _ lR h2 c (hc.of_dv Qa);rw[eR];exact hc.mul_left h3
def Ga(u:List Rat):Prop:=Da u (Jd u)
theorem Ga.parts{a b:List Rat}(h:Ga (Jn a b)):Da a b:=by
 obtain⟨u,v,huv⟩:=h;refine⟨Y8 (Jn u b) (Jn v (Jd b)),Jn v (Jd a),fun x=>?_⟩;have h1:=huv x;have h2:=Yv a b x;rw[Jh]at h1;rw[h2]at h1;rw[Ys,Jh,Jh,Jh];grind
theorem Ga.dv{u v:List Rat}(tu:Jc u=u)(tv:Jc v=v)(v0:v≠[])(hv:Ga v)(h:∀c,Da u c→Da v c):Dv v u:=by
 have g0:=It tu tv (Or.inr v0);have tg:=YE u v;obtain⟨g1,g2,s,t,g3⟩:=Y6 tu tv;obtain⟨d,hd⟩:=ex (JK u v);rw[hd]at g0 tg g1 g2 g3;have e1:=(JO tg g0 g2).2;obtain⟨e,he⟩:=ex (Jv v d);rw[he]at e1;have Qe:v=Jn d e:=XH tv (J3 _ _) fun x=>by rw[Jh,e1]
 have Qc:Da d e:=Ga.parts (by rw[←Qe];exact hv);have Qd:Da u e:=by
  obtain⟨a,b,hab⟩:=Qc;have te:Jc e=e:=by rw[←he];exact YY _ _
  obtain⟨f1,f2,m,k,f3⟩:=Y6 tu te;have fd:Dv (JK u e) d:=f1.comb (f2.mul' d) s t fun x=>by
   rw[g3,Jh,e1]
  have fu:Dv (JK u e) [1]:=fd.comb f2 a b fun x=>by rw[Js,hab]
  obtain⟨r,hr⟩:=fu;refine⟨Jn r m,Jn r k,fun x=>?_⟩;have i1:=hr x;rw[Js,f3]at i1;rw[Jh,Jh];grind
 have Qa:=h e Qd;have Qb:Da e e:=Qa.of_dv ⟨d,fun x=>by rw[e1];grind⟩;obtain⟨r,hr⟩:=Qb.unit (Dv.refl e);obtain⟨q,hq⟩:=g1;refine⟨Jn r q,fun x=>?_⟩;have i1:=hr x;rw[Js]at i1;rw[Jh,hq,e1]
 have:ev d x*ev q x=ev d x*ev q x*(ev e x*ev r x):=by rw[←i1,Rat.mul_one]
 rw[this];grind
theorem Kf{p:List Rat}(tp:Jc p=p)(p0:p≠[]):Yun (JS p) (DW p) (IF p):=Yun.start (Ip p) (LZ tp p0) (KY tp)
theorem Rh{p:List Rat}(tp:Jc p=p)(p0:p≠[]):Ga (DW p):=Nv _ _ _ _ (Aa _) (Kf tp p0)
theorem Ri{p:List Rat}(tp:Jc p=p)(p0:p≠[]):Dv (JS p) p∧Dv p (JS p):=by
 obtain⟨lc0,hlc⟩:=RS tp p0;have h1:Dv (JS p) p:=⟨[cf p (p.length-1)],fun x=>by
  conv=>lhs;rw[hlc]
  rw[JH,Js]⟩
 exact⟨h1,⟨[1/cf p (p.length-1)],fun x=>by rw[Nm,Js]⟩⟩
theorem Rj{p:List Rat}(tp:Jc p=p)(p0:p≠[]):Dv (DW p) p:=(Kf tp p0).dv.trans (Ri tp p0).1
theorem OB{p:List Rat}(tp:Jc p=p)(p0:p≠[])(c:List Rat):Da (DW p) c↔Da p c:=by
 constructor
 · intro h;exact(dM _ _ _ _ (Aa _) (Kf tp p0) c h).of_dv (Ri tp p0).2
 · intro h;exact h.of_dv (Rj tp p0)

