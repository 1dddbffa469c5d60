import Derived.Test.YtakpoihdghihmaaGreatDoorP49
import Derived.Test.YtakpoihdghihmaaGreatDoorP35
section
set_option maxRecDepth 100000
set_option maxHeartbeats 16000000
namespace Go.Proofs.YtakpoihdghihmaaGreatDoor
section
open Go.RowKit Go.Shelf
def EX(p:List Rat):Int:=if p=[]then -1 else(DP (D6 (Ju p)):Int)-(DP (Eh (Ju p)):Int)
def EY(p:List Rat)(x:Rat):Int:=if p=[]then -1 else(DP (D6 (Ju p)):Int)-(DP (JM (Ju p) x):Int)
structure CtOk(K X:Nat)(p:List Rat):Prop where
 ch:M3.ChOk K p (Jc p)
 fit:max p.length (Jc p).length*(DZ K p (Jc p)+max p.length (Jc p).length*(DZ K p (Jc p)+1)+1+X+1)+1+X<=1000000
variable{p:List Rat}{K X:Nat}
theorem CtOk.sr(h:CtOk K X p)(p0:p≠[]):M3.SrOk K p:=⟨h.ch,p0⟩
theorem CtOk.sl(h:CtOk K X p)(i:Nat):Sq (GS p i):=by
 have a:=(show Cd K (Jc p)from h.ch.cq).smq i;unfold Jc at a;rw[Ye,IE]at a;exact Sq.of a h.ch.bd.2.1
theorem CtOk.row(h:CtOk K X p)(p0:p≠[]):∀y∈Ju p,DX y/\y≠[]/\y.length<=1000000/\∀x,DW X x->M3.KI y x/\Sq (ev y x):=by
 intro y b;have l:=(Yq h.ch.tp p0 y b).2;obtain⟨g,_,r,e⟩:=(h.sr p0).last;rw[e]at b;obtain⟨a,q,rfl⟩:=C3.1 b;obtain⟨ta,ca,la,m⟩:=(h.sr p0).mem a q;obtain⟨s,c,z,o⟩:=(h.sr p0).mem g r;have j:=h.fit;obtain⟨n,f⟩:=ex (max p.length (Jc p).length);obtain⟨A,d⟩:=ex (DZ K p (Jc p));rw[f,d]at j;rw[f]at la;rw[d]at ca c;have c1:=ca.quoG c s o;have t:a.length*(A+1)<=n*(A+1):=Aj _ la;have c2:Cd (A+n*(A+1)+1) (Js a g):=c1.mono Y;have l1:(Js a g).length<=a.length:=by
  unfold Js;refine An (Y3 _) ?_;rw[(YO _ _ _ _ _).1];omega
 have k:0<n:=by have:=Ah.2 m;omega
 have u:1*(A+n*(A+1)+1+X+1)<=n*(A+n*(A+1)+1+X+1):=Aj _ k;have v:(Js a g).length*(A+n*(A+1)+1+X+1)<=n*(A+n*(A+1)+1+X+1):=Aj _ Y;have w:n*1<=n*(A+n*(A+1)+1+X+1):=Ao _ Y;refine⟨c2.sqs Y,l,Y,λx i=>⟨cH i c2.smq Y,Sq.of (RB i _ c2.smq) Y⟩⟩
namespace M3
attribute [local go_sem] Oper.semAt_some
variable{p:List Rat}{K X:Nat}
theorem RE(e:CtOk K X p)(p0:p≠[])(w:World):Tells 47 #[] w (Ju p) Gb where
 plc:=λW v y _ d f=>by
  obtain⟨a,b,c,_⟩:=e.row p0 y f;have:=WK v y W d a b c;simpa using this
 ent:=Bj Tryz.func47 (by kernel_rfl) rfl
 sg:=λy _=>by
  have:=KK (cf y (y.length-1));unfold Gb Ee;split<;>omega
theorem cO(d:CtOk K X p)(p0:p≠[])(w:World):Tells 48 #[] w (Ju p) Ee where
 plc:=λW v y _ c e=>by
  obtain⟨a,b,f,_⟩:=d.row p0 y e;have:=Pd v y W c a b;simpa using this
 ent:=Bj Tryz.func48 (by kernel_rfl) rfl
 sg:=λy _=>KK _
theorem cP(i:CtOk K X p)(p0:p≠[])(w:World){B:Nat}{s t:Bool}{a b:Option Addr}{l c k d:Nat}{x:Rat}(e:DW X x)(n:JL w B 37 (.bool s) (.slice a l c) (.bool t) (.slice b k d))(q:Jg w (.agg #[.bool s,.slice a l c,.bool t,.slice b k d]) x):Tells 112 #[.pointer (some ⟨B,0,none⟩)] w (Ju p) (λy=>Dk (ev y x)) where
 plc:=λW v y g o r=>by
  obtain⟨j,u,z,f⟩:=i.row p0 y r;have m:X<=1000000:=by have:=i.fit;omega
  have:=WL v y x B s t a b l c k d W o (n.below g) (q.below g) j (Sq.of e m) (f x e).1 (f x e).2;simpa using this
 ent:=Bj Tryz.func112 (by kernel_rfl) rfl
 sg:=λy _=>KK _
theorem RH(tp:Jd p=p)(p0:p≠[]):F3 ((Ju p).map Gb)=DP (D6 (Ju p)):=by
 rw[cK _ λy a=>(Yq tp p0 y a).2,LI]
theorem cQ(l:List (List Rat)):F3 (l.map Ee)=DP (Eh l):=by rw[cI,LI]
theorem cR(l:List (List Rat))(x:Rat):F3 (l.map λy=>Dk (ev y x))=DP (JM l x):=by
 rw[<-LI];unfold JM;rw[List.map_map];rfl
theorem RI(v:Value)(w:World)(h:Je w v [])(f f2:Value):
 Calls Tryz.prog 46 #[v,f,f2] w λe j=>e=.returned (.int .i64 (-1))/\Bl w j:=by
 obtain⟨g,la,i,rfl⟩:=h.form;have b:Bl w (w.alloc (.cells #[.slice g la i] 25)):=Ba w _;have a:=Ja (J2 _ [] _ (h.below b));rw[show(([]:List Rat).length:Int)-1=-1 from rfl]at a;have c:=Ja b;clear h b;go_enter Tryz.func46,Tryz.ntmps46
 go_wp2_with(go_at_call 30;refine a.o.mono ?_;clear a;rintro e k ⟨rfl,d⟩)
 go_ret;exact⟨rfl,Bt c.o d⟩
theorem Iq(K X:Nat)(v:Value)(p:List Rat)(w:World)(h:Je w v p)(a:CtOk K X p):
 Calls Tryz.prog 13 #[v] w λe g=>e=.returned (.int .i64 (EX p))/\Bl w g:=by
 obtain⟨b,la,c,rfl⟩:=h.form;have d:Bl w (w.alloc (.cells #[.slice b la c] 25)):=Ba w _;have f:=Ja (show Calls Tryz.prog 46 #[.agg #[.slice b la c],.func (.func 47) #[] #[],.func (.func 48) #[] #[]] (w.alloc (.cells #[.slice b la c] 25)) λe g=>e=.returned (.int .i64 (EX p))/\Below (w.alloc (.cells #[.slice b la c] 25)).heap.size (w.alloc (.cells #[.slice b la c] 25)) g by
  unfold EX;by_cases p0:p=[]
  . rw[BH p0];rw[p0]at h;exact RI _ _ (h.below d) _ _
  . rw[BB p0];have i:=RD K _ p _ (h.below d) (a.sr p0) a.sl (RE a p0 _) (cO a p0 _);rw[RH a.ch.tp p0,cQ]at i;exact i)
 have k:=Ja d;obtain⟨n,j⟩:=ex (EX p);rw[j]at f ⊢;clear h a d j;go_enter Tryz.func13,Tryz.ntmps13
 go_wp2_with(go_at_call 46;refine f.o.mono ?_;clear f;rintro e m ⟨rfl,l⟩)
 go_ret;exact⟨rfl,Bt k.o l⟩
end M3
end
section
variable{p q u v w:List Rat}{B a b:Rat}
theorem cS(p:List Rat)(a:0<=B):∃K,0<K/\∀x y,Wi B x->Wi B y->x<=y->Wi (K*((y-x)*(y-x))) (ev p y-ev p x-(y-x)*dv p x):=by
 induction p with
 |nil=>exact⟨1,DI,λx y _ _ _=>by
  have:=Er (y-x);constructor<;>simp[ev,dv]<;>grind⟩
 |cons c t m=>
  obtain⟨K,j,h⟩:=m;obtain⟨D,hD,k⟩:=XE (Jc t) a;refine⟨B*K+D+1,by have:=Rat.mul_nonneg a (Rat.le_of_lt j);grind,λx y d f l=>?_⟩;have n:=Er (y-x);have g:Wi ((y-x)*(y-x)) ((y-x)*(y-x)):=⟨by grind,by grind⟩;have b:=k x d;rw[Xv]at b;have i:=(f.mul (h x y d f l)).add (g.mul b);have e:ev (c::t) y-ev (c::t) x-(y-x)*dv (c::t) x=y*(ev t y-ev t x-(y-x)*dv t x)+(y-x)*(y-x)*dv t x:=by
   rw[Iy,Iy,show dv (c::t) x=ev t x+x*dv t x from rfl];grind
  rw[e];refine i.mono ?_;grind
def Xz(p:List Rat)(x y:Rat):Nat:=if ev p x≠0/\ev p x*ev p y<=0 then 1 else 0
theorem Ir{x y:Rat}(h:Dl p x y):Xz p x y=0:=by
 unfold Xz Dl at *;rw[BB λq=>by have:=q.2;grind]
theorem cT{R y:List Rat}(h:Yun R w y)(f:0<=B):Sh B λx z=>¬Dl w x z->x<z->0<ev (Jc w) x*(ev w z-ev w x):=by
 obtain⟨k,g,s⟩:=QU _ _ _ _ (Aa _) h f;obtain⟨c,n,F⟩:=XE y f;obtain⟨D,P,hD⟩:=XE (Jc w) f;obtain⟨K,Q,E⟩:=cS w f;obtain⟨e,o,G⟩:=small (K:=(c*c)*(D*K)) (r:=k*k/2) (Rat.le_of_lt (Rat.mul_pos (Rat.mul_pos n n) (Rat.mul_pos P Q))) (by have:=Rat.mul_pos g g;grind);have S:Sh B λx z=>z-x<=e:=⟨e,o,λ_ _ _ _ _ h=>h⟩;refine(s.and S).mono λx z j M L ⟨p,l⟩ H X=>?_;obtain⟨T,_⟩:=p H;have i:=E x z j M L;rw[<-Xv]at i;have A:=F x j;have C:=hD x j;generalize ev (Jc w) x=d at *;generalize ev y x=v at *;generalize ev w z-ev w x=t at *;obtain⟨u,I⟩:=ex (z-x);rw[I]at l i;have u0:0<u:=by grind
 have U:k*k<=(c*c)*(d*d):=by
  have m:=Rat.mul_nonneg (a:=v*d-k) (b:=v*d+k) (by grind) (by grind);have N:=Rat.mul_nonneg (a:=c*c-v*v) (b:=d*d) (by have:=L1 A;grind) (Er d);grind
 have V:u*(d*d)-(D*K)*(u*u)<=d*t:=by
  have m:=(C.mul i).1;grind
 have W:=G u l;have hp:0<(c*c)*(d*t):=by
  have m:=Rat.mul_nonneg (a:=c*c) (b:=d*t-(u*(d*d)-(D*K)*(u*u))) (Er c) (by grind);have N:=Rat.mul_nonneg (a:=u) (b:=(c*c)*(d*d)-k*k) (by grind) (by grind);have i3:=Rat.mul_nonneg (a:=u) (b:=k*k/2-(c*c)*(D*K)*u) (by grind) (by grind);have i4:=Rat.mul_pos u0 (Rat.mul_pos g g);grind
 rcases Yv (d*t) 0 with q|q
 . have:=Rat.mul_nonneg (a:=c*c) (b:=-(d*t)) (Er c) (by grind);grind
 . rcases Rat.le_iff_lt_or_eq.1 q with q|q
   . exact q
   . rw[<-q]at hp;grind
theorem Nn(h:0<(a*a)*b):0<b:=by
 rcases Yv b 0 with q|q
 . have:=Rat.mul_nonneg (a:=a*a) (b:=-b) (Er a) (by grind);grind
 . rcases Rat.le_iff_lt_or_eq.1 q with q|q
   . exact q
   . rw[<-q]at h;grind
theorem cU{u v:Rat}(c:0<a*(v-u))(i:0<b*(v-u))(e:u*v<=0):
 (if u*a<0 then 1 else 0)=(if v*b<0 then 1 else 0)+(if u≠0/\u*v<=0 then 1 else 0:Nat):=by
 by_cases u0:u=0
 . subst u0;rw[BB (by grind),BB (by grind),BB Z]
 . have f:u*a<0:=by
    rcases Yv 0 (u*a)with q|q
    . exfalso
      have d:=(Ya c).1;have q:0<u*a:=by
       rcases Rat.le_iff_lt_or_eq.1 q with q|q
       . exact q
       . rcases Cj.1 q.symm with q|q
         . exact absurd q u0
         . exact absurd q d
      have:=Rat.mul_pos q (show 0<v*a by grind);have:=Nn (a:=a) (b:=u*v) (by grind);grind
    . rcases Rat.le_iff_lt_or_eq.1 q with q|q
      . exact q
      . rcases Cj.1 q with q|q
        . exact absurd q u0
        . exact absurd q (Ya c).1
   have g:¬v*b<0:=λq=>by
    have:=Rat.mul_pos (a:=-(v*b)) (b:=-(u*b)) (by grind) (by grind);have:=Nn (a:=b) (b:=u*v) (by grind);grind
   rw[BH f,BB g,BH ⟨u0,e⟩]
theorem cV{b f1:List Rat}{n:Nat}{d:List (List Rat)}(a:E0 n w b=w::f1::d):b≠[]/\f1=Yn b:=by
 cases n with
 |zero=>
  have c:[w]=w::f1::d:=a;exact absurd (List.cons.inj c).2 Z
 |succ n=>
  by_cases w0:b=[]
  . rw[E0,BH w0]at a;exact absurd (List.cons.inj a).2 Z
  . rw[E0,BB w0]at a;have c:=(List.cons.inj a).2;obtain⟨t,e⟩:=Kf n (Yn b) (DR (-1) (JH w (Yn b)));rw[e]at c;exact⟨w0,(List.cons.inj c).1.symm⟩
theorem XW{p:List Rat}(tp:Jd p=p)(p0:p≠[]){B:Rat}(j:0<=B):Sh B λx z=>DP (JM (YR p) x)=DP (JM (YR p) z)+Xz (DL p) x z:=by
 have d:Yun (Jz p) (DL p) (IB p):=Yun.start (Xg p) (Ij tp p0) (Ik tp);have n:=Nj _ _ _ _ (Aa _) d;have l:=RA _ (DL p) (Jc (DL p)) (Aa _) d.tw (JF _) n;refine((l.gd j).and (cT d j)).mono λx z _ _ A ⟨b,y⟩=>?_;show DP (JM (YR p) x)=DP (JM (YR p) z)+Xz (DL p) x z;obtain⟨m,f⟩:=Kf (Jc (DL p)).length (DL p) (Jc (DL p));unfold YR;rw[f]at b ⊢;by_cases st:Dl (DL p) x z
 . rw[Ir st,b.stay st];rfl
 . cases m with
   |nil=>cases b with|one h=>exact absurd h st
   |cons f1 D=>
    obtain⟨w0,k⟩:=cV f;have o:=Nk (JF (DL p)) w0;obtain⟨c,e⟩:∃c,1/Xk (cf (Jc (DL p)) ((Jc (DL p)).length-1))=c:=⟨_,rfl⟩;rw[e]at o;have t:ev f1 x=ev (Jc (DL p)) x*c:=by rw[k,<-e];exact JJ _ _ _
    have g:=(b.adj).resolve_left st;obtain⟨E,F⟩:=Ya g;have sm:=b.tail.same _ D f1 (Aa _) g;rw[JZ,JZ,JZ,JZ,IG E,IG F,sm];clear sm f l n d b k e w0;have r:ev (DL p) x*ev (DL p) z<=0:=Rat.not_lt.1 st;rcases Rat.le_iff_lt_or_eq.1 A with w|v
    . have i:0<ev f1 x*(ev (DL p) z-ev (DL p) x):=by
       rw[t];have:=Rat.mul_pos (y st w) o;grind
      have s:0<ev f1 z*(ev (DL p) z-ev (DL p) x):=Nn (a:=ev f1 x) (by
       have:=Rat.mul_pos (show 0<ev f1 x*ev f1 z from g) i;grind)
      have:=cU i s r;unfold Xz;rw[this];omega
    . subst v;have u0:ev (DL p) x=0:=by
       have u:=Er (ev (DL p) x);rcases Cj.1 (Rat.le_antisymm r u)with q|q<;>exact q
      have C:Xz (DL p) x x=0:=by
       unfold Xz;exact BB λq=>q.1 u0
      rw[C];omega
theorem Np(h:DV u v)(i:0<=B):Sh B λx z=>Xz (Jm u v) x z=Xz u x z+Xz v x z:=by
 obtain⟨s,t,w⟩:=h;obtain⟨S,k,o⟩:=XE s i;obtain⟨T,l,p⟩:=XE t i;have d:∀ {r K:Rat},0<K->K*(r/K)=r:=λC=>by rw[CI,Ap (by grind)]
 refine((Gn u i (YF Gp k)).and (Gn v i (YF Gp l))).mono λx z j _ _ ⟨m,n⟩=>?_;have e:∀y,ev (Jm u v) y=ev u y*ev v y:=λy=>Jh _ _ _;by_cases g:Dl u x z
 . by_cases c:Dl v x z
   . have:Dl (Jm u v) x z:=by
      unfold Dl at *;rw[e,e];have:=Rat.mul_pos g c;grind
     rw[Ir this,Ir g,Ir c]
   . rw[Ir g,Ce];unfold Xz Dl at *;rw[e,e];obtain⟨u1,u2⟩:=Ya g;by_cases q:ev v x≠0/\ev v x*ev v z<=0
     . rw[BH q,BH ⟨λf=>by rcases Cj.1 f with f|f;exact u1 f;exact q.1 f,by have:=Rat.mul_nonneg (a:=ev u x*ev u z) (b:=-(ev v x*ev v z)) (by grind) (by grind);grind⟩]
     . rw[BB q,BB];rintro⟨f1,f2⟩;refine q ⟨λf=>f1 (by rw[f];grind),?_⟩;exact Rat.not_lt.1 c
 . have c:Dl v x z:=Classical.byContradiction λc=>by
    have D:=L0 (w x) (o x j) (m g).1 (by rw[d k];exact Rat.le_refl);have A:=((p x j).mul (n c).1).2;rw[d l]at A;grind
   rw[Ir c,Co];unfold Xz Dl at *;rw[e,e];obtain⟨u1,u2⟩:=Ya c;by_cases q:ev u x≠0/\ev u x*ev u z<=0
   . rw[BH q,BH ⟨λf=>by rcases Cj.1 f with f|f;exact q.1 f;exact u1 f,by have:=Rat.mul_nonneg (a:=ev v x*ev v z) (b:=-(ev u x*ev u z)) (by grind) (by grind);grind⟩]
   . rw[BB q,BB];rintro⟨f1,f2⟩;refine q ⟨λf=>f1 (by rw[f];grind),?_⟩;exact Rat.not_lt.1 g
theorem DV.of_unit{a:List Rat}(h:Dv a [1])(c:List Rat):DV a c:=by
 obtain⟨d,b⟩:=h;refine⟨d,[],λx=>?_⟩;have:=b x;rw[Jy]at this;simp[ev];grind
theorem DV.mul_left{a b c:List Rat}(h:DV a c)(d:DV b c):DV (Jm a b) c:=(h.symm.mul d.symm).symm
theorem cW:∀(n:Nat) (R w y:List Rat),R.length<=n->Yun R w y->∀c,DV w c->DV R c:=by
 intro n;induction n with
 |zero=>intro R w y k h;exact absurd (AM.1 Y) h.R0
 |succ n l=>
  intro R w y k h c e;by_cases hl:w.length<=1
  . obtain⟨d,j⟩:=Ka h.tw h.w0 hl;refine DV.of_unit (NX h.tR h.R0 ⟨Jm d y,λx=>?_⟩) c;have o:=h.eq x;have a:=j x;rw[Jy]at a;rw[Jh];have:ev (Jc R) x=(ev w x*ev d x)*ev (Jc R) x:=by rw[<-a,CG]
    rw[this];grind
  . obtain⟨_,_,a,b,_,g⟩:=h.step;have m:(Js R w).length<=n:=by
     have:=JG h.tw a.tR h.w0 a.R0;rw[<-b]at this;omega
    have f:Dv (Js w (Jr w (Ym y (Jc w)))) w:=⟨Jr w (Ym y (Jc w)),λx=>by
     have:=Jh (Jr w (Ym y (Jc w))) (Js w (Jr w (Ym y (Jc w)))) x;rw[<-g]at this;rw[this];grind⟩
    have i:=l _ _ _ m a c (e.of_dv f);rw[b];exact e.mul_left i
def D7(u:List Rat):Prop:=DV u (Jc u)
theorem D7.parts{a b:List Rat}(h:D7 (Jm a b)):DV a b:=by
 obtain⟨u,v,e⟩:=h;refine⟨XA (Jm u b) (Jm v (Jc b)),Jm v (Jc a),λx=>?_⟩;have c:=e x;have d:=Yd a b x;rw[Jh]at c;rw[d]at c;rw[YA,Jh,Jh,Jh];grind
theorem D7.of_dv{a b:List Rat}(h:D7 b)(tb:Jd b=b)(i:Dv a b):D7 a:=by
 obtain⟨c,_,e⟩:=i.some tb;obtain⟨u,v,d⟩:=h;rw[e]at d;refine⟨XA (Jm u c) (Jm v (Jc c)),Jm v c,λx=>?_⟩;have f:=d x;have g:=Yd a c x;rw[Jh,g]at f;rw[YA,Jh,Jh,Jh];grind
theorem D7.mul{a b:List Rat}(e:D7 a)(f:D7 b)(h:DV a b):D7 (Jm a b):=by
 have c:=Yd a b;have c1:DV a (Jc (Jm a b)):=(DV.mul e h).shift (d:=Jm [-1] (Jc b)) λx=>by
  rw[Jh,Jh,Jy,c];grind
 have c2:DV b (Jc (Jm a b)):=(h.symm.mul f).shift (d:=Jm [-1] (Jc a)) λx=>by
  rw[Jh,Jh,Jy,c];grind
 exact c1.mul_left c2
theorem D7.dv(j:Jd u=u)(l:Jd v=v)(M:v≠[])(K:D7 v)(h:∀c,DV u c->DV v c):Dv v u:=by
 have n:=YN j l (Or.inr M);have z:=JO u v;obtain⟨o,p,s,t,w⟩:=YB j l;obtain⟨d,I⟩:=ex (Jr u v);rw[I]at n z o p w;have f:=(JP z n p).2;obtain⟨e,y⟩:=ex (Js v d);rw[y]at f;have E:v=Jm d e:=XD l (JY _ _) λx=>by rw[Jh,f]
 have C:DV d e:=D7.parts (by rw[<-E];exact K);have D:DV u e:=by
  obtain⟨a,b,H⟩:=C;have L:Jd e=e:=by rw[<-y];exact Ys _ _
  obtain⟨f1,f2,m,k,f3⟩:=YB j L;have F:Dv (Jr u e) d:=f1.comb (f2.mul' d) s t λx=>by
   rw[w,Jh,f]
  have G:Dv (Jr u e) [1]:=F.comb f2 a b λx=>by rw[Jy,H]
  obtain⟨r,i⟩:=G;refine⟨Jm r m,Jm r k,λx=>?_⟩;have g:=i x;rw[Jy,f3]at g;rw[Jh,Jh];grind
 have A:=h e D;have B:DV e e:=A.of_dv ⟨d,λx=>by rw[f];grind⟩;obtain⟨r,i⟩:=B.unit (Dv.refl e);obtain⟨q,hq⟩:=o;refine⟨Jm r q,λx=>?_⟩;have g:=i x;rw[Jy]at g;rw[Jh,hq,f];have:ev d x*ev q x=ev d x*ev q x*(ev e x*ev r x):=by rw[<-g,Rat.mul_one]
 rw[this];grind
theorem Xm(tp:Jd p=p)(p0:p≠[]):Yun (Jz p) (DL p) (IB p):=Yun.start (Xg p) (Ij tp p0) (Ik tp)
theorem Kg(tp:Jd p=p)(p0:p≠[]):D7 (DL p):=Nj _ _ _ _ (Aa _) (Xm tp p0)
theorem RJ(tp:Jd p=p)(p0:p≠[]):Dv (Jz p) p/\Dv p (Jz p):=by
 obtain⟨c,b⟩:=Nh tp p0;have a:Dv (Jz p) p:=⟨[cf p (p.length-1)],λx=>by
  conv=>lhs;rw[b]
  rw[JJ,Jy]⟩
 exact⟨a,⟨[1/cf p (p.length-1)],λx=>by rw[Lc,Jy]⟩⟩
theorem Gk(tp:Jd p=p)(p0:p≠[]):Dv (DL p) p:=(Xm tp p0).dv.trans (RJ tp p0).1
theorem Gl(tp:Jd p=p)(p0:p≠[])(c:List Rat):DV (DL p) c↔DV p c:=by
 constructor
 . intro h;exact(cW _ _ _ _ (Aa _) (Xm tp p0) c h).of_dv (RJ tp p0).2
 . intro h;exact h.of_dv (Gk tp p0)
theorem cY(tp:Jd p=p)(p0:p≠[])(tq:Jd q=q)(q0:q≠[]):
 ∃a b c:List Rat,DV a b/\DV a c/\DV (Jm a b) c/\DL p=Jm a b/\DL q=Jm a c/\DL (Jm p q)=Jm (Jm a b) c/\DL (Jr p q)=a:=by
 have e:=Xm tp p0;have f:=Xm tq q0;have C:=Kg tp p0;have N:=Kg tq q0;have y:=JY p q;have z:Jm p q≠[]:=Xs tp tq p0 q0;have r:=JO p q;have o:=YN tp tq (Or.inl p0);have n:=Xm y z;have l:=Xm r o;obtain⟨t,A,_⟩:=YB e.tw f.tw;have ta:=JO (DL p) (DL q);have ma:=XU e.tw f.tw;have m:=YN e.tw f.tw (Or.inl e.w0);have s:=Ld e.tw f.tw m;obtain⟨mb,_,b0,i⟩:=Kb e.tw e.w0 e.mw ta ma t;obtain⟨B,_,c0,j⟩:=Kb f.tw f.w0 f.mw ta ma A;have I:∀d,Dv d (DL p)->Dv d (DL q)->Dv d (Jr (DL p) (DL q)):=λd g k=>KY e.tw f.tw g k;obtain⟨a,X⟩:=ex (Jr (DL p) (DL q));rw[X]at t A ta ma m s mb b0 i B c0 j I;obtain⟨b,L⟩:=ex (Js (DL p) a);obtain⟨c,M⟩:=ex (Js (DL q) a);have tb:Jd b=b:=by rw[<-L];exact Ys _ _
 have D:Jd c=c:=by rw[<-M];exact Ys _ _
 rw[L]at s mb b0 i;rw[M]at s B c0 j;have S:DV a b:=D7.parts (by rw[<-i];exact C);have G:DV a c:=D7.parts (by rw[<-j];exact N);have E:DV (Jm a b) c:=G.mul_left s;have sc:D7 c:=N.of_dv f.tw ⟨a,λx=>by rw[j,Jh];grind⟩;have R:D7 (Jm (Jm a b) c):=(by rw[<-i];exact C:D7 (Jm a b)).mul sc E;refine⟨a,b,c,S,G,E,i,j,?_,?_⟩
 . have w:=JY (Jm a b) c;have H:Jm a b≠[]:=Xs ta tb m b0;have T:Jm (Jm a b) c≠[]:=Xs (JY _ _) D H c0;have mX:Jz (Jm (Jm a b) c)=Jm (Jm a b) c:=by
    have g:=Q4 (JY a b) D H c0;have k:=Q4 ta tb m b0;rw[k,Kc ta m ma,Kc tb b0 mb,Kc D c0 B]at g;exact XD (Xg _) w λx=>by rw[Lc,g];grind
   have F:∀d,DV (DL (Jm p q)) d↔DV (Jm (Jm a b) c) d:=λd=>by
    rw[Gl y z];constructor
    . intro h;have g:DV p d:=h.of_dv ((Dv.refl p).mul q);have k:DV q d:=h.of_dv ((Dv.refl q).mul' p);have K:=(Gl tp p0 d).2 g;have W:=(Gl tq q0 d).2 k;rw[i]at K;exact K.mul_left (W.of_dv ⟨a,λx=>by rw[j,Jh];grind⟩)
    . intro h;have g:DV (DL p) d:=h.of_dv (by rw[i];exact(Dv.refl _).mul c);have k:DV (DL q) d:=h.of_dv (by rw[j];exact⟨b,λx=>by rw[Jh,Jh,Jh];grind⟩);exact((Gl tp p0 d).1 g).mul_left ((Gl tq q0 d).1 k)
   have d1:=D7.dv (u:=DL (Jm p q)) (v:=Jm (Jm a b) c) n.tw w T R λd h=>(F d).1 h;have U:=D7.dv (u:=Jm (Jm a b) c) (v:=DL (Jm p q)) w n.tw n.w0 (Kg y z) λd h=>(F d).2 h;exact Dv.eq n.tw w n.mw mX U d1
 . have sa:D7 a:=C.of_dv e.tw t;have sg:=Kg r o;obtain⟨P,Q,_⟩:=YB tp tq;have f1:Dv (DL (Jr p q)) (DL p):=D7.dv e.tw l.tw l.w0 sg λd h=>((Gl tp p0 d).1 h).of_dv ((Gk r o).trans P);have f2:Dv (DL (Jr p q)) (DL q):=D7.dv f.tw l.tw l.w0 sg λd h=>((Gl tq q0 d).1 h).of_dv ((Gk r o).trans Q);have f3:=I _ f1 f2;have V:Dv a (DL (Jr p q)):=D7.dv l.tw ta m sa λd h=>((Gl r o d).1 h).of_dv (KY tp tq (t.trans (Gk tp p0)) (A.trans (Gk tq q0)));exact Dv.eq l.tw ta l.mw ma f3 V
theorem cg(tp:Jd p=p)(p0:p≠[])(tq:Jd q=q)(q0:q≠[])(d:0<=B):
 Sh B λx z=>Xz (DL (Jm p q)) x z+Xz (DL (Jr p q)) x z=Xz (DL p) x z+Xz (DL q) x z:=by
 obtain⟨a,b,c,j,k,l,e,f,g,i⟩:=cY tp p0 tq q0;refine(((Np j d).and (Np k d)).and (Np l d)).mono λx z _ _ _ ⟨⟨m,n⟩,o⟩=>?_;show Xz (DL (Jm p q)) x z+Xz (DL (Jr p q)) x z=Xz (DL p) x z+Xz (DL q) x z;rw[e,f,g,i,o,m,n];omega
theorem Li(l:List Rat):∀a,EL a l<=l.length:=by
 induction l with
 |nil=>intro a;exact Aa _
 |cons b l c=>
  intro a;have d:=c a;have e:=c b;unfold EL;rw[Af];split
  . omega
  . split<;>omega
theorem cx(l:List Rat):DP l<=l.length-1:=by
 cases l with
 |nil=>exact Aa _
 |cons a l=>
  have c:=Li l a;have d:=Li l 0;unfold DP EL;rw[Af,CC,BB (show ¬(0:Rat)<0 by decide)];split
  . induction l generalizing a with
    |nil=>exact Aa _
    |cons b l g=>
     have e:=Li l b;have f:=Li l 0;unfold EL;rw[Af,CC,BB (show ¬(0:Rat)<0 by decide)];split<;>omega
  . omega
theorem dA:∀(n:Nat) (a b:List Rat),b.length<=n->Jd b=b->(Eb a b).length<=b.length+1:=by
 intro n;induction n with
 |zero=>
  intro a b c _;have:b=[]:=AM.1 Y;subst this;exact Aa _
 |succ n d=>
  intro a b c tb;by_cases b0:b=[]
  . subst b0;exact Aa _
  . have hl:=YT (a:=a) tb b0;have:=d b (YL a b) Y (X9 _ _);rw[Xy tb b0,Af];omega
theorem RK(p0:p≠[]):(Ju p).length<=p.length:=by
 unfold Ju XT;rw[C5];have a:=dA _ (JE p) (JE (Jc p)) (Aa _) (Yf _);rw[J0 (JF p)]at a;have:=QT p0;omega
theorem dB(tp:Jd p=p)(p0:p≠[])(tq:Jd q=q)(q0:q≠[])(d:a<=b):
 (DP (JM (Ju (Jm p q)) a)+DP (JM (Ju (Jr p q)) a))+(DP (JM (Ju p) b)+DP (JM (Ju q) b))=(DP (JM (Ju (Jm p q)) b)+DP (JM (Ju (Jr p q)) b))+(DP (JM (Ju p) a)+DP (JM (Ju q) a)):=by
 have e:=JY p q;have f:Jm p q≠[]:=Xs tp tq p0 q0;have i:=JO p q;have g:=YN tp tq (Or.inl p0);obtain⟨A,l,j⟩:=XY a;obtain⟨C,m,k⟩:=XY b;have c:0<=A+C:=by grind
 have h:=glue (B:=A+C) (F:=λx=>DP (JM (YR (Jm p q)) x)+DP (JM (YR (Jr p q)) x)) (G:=λx=>DP (JM (YR p) x)+DP (JM (YR q) x)) (((((XW e f c).and (XW i g c)).and ((XW tp p0 c).and (XW tq q0 c))).and (cg tp p0 tq q0 c)).mono λx z _ _ _ ⟨⟨⟨n,o⟩,r,s⟩,t⟩=>by
  show(DP (JM (YR (Jm p q)) x)+DP (JM (YR (Jr p q)) x))+(DP (JM (YR p) z)+DP (JM (YR q) z))=(DP (JM (YR (Jm p q)) z)+DP (JM (YR (Jr p q)) z))+(DP (JM (YR p) x)+DP (JM (YR q) x));omega) (j.mono (by grind)) (k.mono (by grind)) d
 have h:(DP (JM (YR (Jm p q)) a)+DP (JM (YR (Jr p q)) a))+(DP (JM (YR p) b)+DP (JM (YR q) b))=(DP (JM (YR (Jm p q)) b)+DP (JM (YR (Jr p q)) b))+(DP (JM (YR p) a)+DP (JM (YR q) a)):=h;have u:=XV e f d;have v:=XV i g d;have w:=XV tp p0 d;have y:=XV tq q0 d;omega
theorem RL(tp:Jd p=p)(p0:p≠[])(tq:Jd q=q)(q0:q≠[])(x:Rat):
 (DP (D6 (Ju (Jm p q)))+DP (D6 (Ju (Jr p q))))+(DP (JM (Ju p) x)+DP (JM (Ju q) x))=(DP (JM (Ju (Jm p q)) x)+DP (JM (Ju (Jr p q)) x))+(DP (D6 (Ju p))+DP (D6 (Ju q))):=by
 have g:=JY p q;have i:Jm p q≠[]:=Xs tp tq p0 q0;have l:=JO p q;have j:=YN tp tq (Or.inl p0);obtain⟨d,n,_,f1⟩:=Xl (Yq g i);obtain⟨e,o,_,f2⟩:=Xl (Yq l j);obtain⟨f,r,_,f3⟩:=Xl (Yq tp p0);obtain⟨B4,s,_,c⟩:=Xl (Yq tq q0);obtain⟨X,m,k⟩:=XY x;obtain⟨y,t⟩:∃y,-(d+e+f+B4+X)=y:=⟨_,rfl⟩;have h:=dB tp p0 tq q0 (a:=y) (b:=x) (by have:=k.1;clear f1 f2 f3 c;grind);rw[f1 y (by clear f1 f2 f3 c;grind),f2 y (by clear f1 f2 f3 c;grind),f3 y (by clear f1 f2 f3 c;grind),c y (by clear f1 f2 f3 c;grind)]at h;exact h
theorem dC(tp:Jd p=p)(p0:p≠[])(tq:Jd q=q)(q0:q≠[]):
 (DP (D6 (Ju (Jm p q)))+DP (D6 (Ju (Jr p q))))+(DP (Eh (Ju p))+DP (Eh (Ju q)))=(DP (Eh (Ju (Jm p q)))+DP (Eh (Ju (Jr p q))))+(DP (D6 (Ju p))+DP (D6 (Ju q))):=by
 have e:=JY p q;have f:Jm p q≠[]:=Xs tp tq p0 q0;have i:=JO p q;have g:=YN tp tq (Or.inl p0);obtain⟨b,j,f1,_⟩:=Xl (Yq e f);obtain⟨c,k,f2,_⟩:=Xl (Yq i g);obtain⟨d,l,f3,_⟩:=Xl (Yq tp p0);obtain⟨B4,m,a,_⟩:=Xl (Yq tq q0);obtain⟨y,n⟩:=ex (b+c+d+B4);have h:=RL tp p0 tq q0 y;rw[f1 y (by clear f1 f2 f3 a;grind),f2 y (by clear f1 f2 f3 a;grind),f3 y (by clear f1 f2 f3 a;grind),a y (by clear f1 f2 f3 a;grind)]at h;exact h
theorem dD(tw:Jd w=w)(w0:w≠[])(mw:Jz w=w)(h:D7 w):DL w=w:=by
 have y:=Xm tw w0;have d1:Dv (DL w) w:=Gk tw w0;have a:Dv w (DL w):=D7.dv y.tw tw w0 h λc b=>(Gl tw w0 c).1 b;exact Dv.eq y.tw tw y.mw mw d1 a
theorem dE(tp:Jd p=p)(p0:p≠[]):DL (DL p)=DL p:=by
 have y:=Xm tp p0;exact dD y.tw y.w0 y.mw (Kg tp p0)
theorem dF(tp:Jd p=p)(p0:p≠[])(tq:Jd q=q)(q0:q≠[])(h:DL p=DL q)(c:a<=b):
 DP (JM (Ju p) a)+DP (JM (Ju q) b)=DP (JM (Ju p) b)+DP (JM (Ju q) a):=by
 obtain⟨A,j,f⟩:=XY a;obtain⟨C,k,g⟩:=XY b;have e:0<=A+C:=by grind
 have d:=glue (B:=A+C) (F:=λx=>DP (JM (YR p) x)) (G:=λx=>DP (JM (YR q) x)) (((XW tp p0 e).and (XW tq q0 e)).mono λx z _ _ _ ⟨i,l⟩=>by
  show DP (JM (YR p) x)+DP (JM (YR q) z)=DP (JM (YR p) z)+DP (JM (YR q) x);rw[h]at i;omega) (f.mono (by grind)) (g.mono (by grind)) c
 have d:DP (JM (YR p) a)+DP (JM (YR q) b)=DP (JM (YR p) b)+DP (JM (YR q) a):=d;have m:=XV tp p0 c;have n:=XV tq q0 c;omega
theorem RM(tp:Jd p=p)(p0:p≠[])(tq:Jd q=q)(q0:q≠[])(h:DL p=DL q)(x:Rat):
 DP (D6 (Ju p))+DP (JM (Ju q) x)=DP (JM (Ju p) x)+DP (D6 (Ju q)):=by
 obtain⟨e,i,_,f3⟩:=Xl (Yq tp p0);obtain⟨B4,j,_,c⟩:=Xl (Yq tq q0);obtain⟨X,g,f⟩:=XY x;obtain⟨y,k⟩:∃y,-(e+B4+X)=y:=⟨_,rfl⟩;have d:=dF tp p0 tq q0 h (a:=y) (b:=x) (by have:=f.1;clear f3 c;grind);rw[f3 y (by clear f3 c;grind),c y (by clear f3 c;grind)]at d;exact d
theorem dG(tp:Jd p=p)(p0:p≠[])(tq:Jd q=q)(q0:q≠[])(h:DL p=DL q):
 DP (D6 (Ju p))+DP (Eh (Ju q))=DP (Eh (Ju p))+DP (D6 (Ju q)):=by
 obtain⟨c,d,f3,_⟩:=Xl (Yq tp p0);obtain⟨B4,e,a,_⟩:=Xl (Yq tq q0);obtain⟨y,f⟩:=ex (c+B4);have b:=RM tp p0 tq q0 h y;rw[f3 y (by clear f3 a;grind),a y (by clear f3 a;grind)]at b;exact b
theorem dH(tp:Jd p=p)(p0:p≠[])(tq:Jd q=q)(q0:q≠[])(b:Jm p q≠[]):EX (Jm p q)=EX p+EX q-EX (Jr p q):=by
 have a:=YN tp tq (Or.inl p0);have h:=dC tp p0 tq q0;unfold EX;rw[BB p0,BB q0,BB a,BB b];omega
theorem dI(tp:Jd p=p)(p0:p≠[])(tq:Jd q=q)(q0:q≠[])(b:Jm p q≠[])(x:Rat):EY (Jm p q) x=EY p x+EY q x-EY (Jr p q) x:=by
 have a:=YN tp tq (Or.inl p0);have h:=RL tp p0 tq q0 x;unfold EY;rw[BB p0,BB q0,BB a,BB b];omega
theorem Nq(tp:Jd p=p)(p0:p≠[]):Gj p=DL p/\EX (DL p)=EX p/\∀x,EY (DL p) x=EY p x:=by
 have a:=Xm tp p0;have e:=dE tp p0;refine⟨?_,?_,λx=>?_⟩
 . rw[bW tp p0];exact BB (YN (Xg p) (JF (Jz p)) (Or.inl (Ij tp p0)))
 . have h:=dG a.tw a.w0 tp p0 e;unfold EX;rw[BB p0,BB a.w0];omega
 . have h:=RM a.tw a.w0 tp p0 e x;unfold EY;rw[BB p0,BB a.w0];omega
end
namespace M3
open Go.RowKit Go.Shelf
attribute [local go_sem] Oper.semAt_some
end M3
section
open Go.RowKit Go.Shelf
structure Shn(f s:List Rat)(A M:Nat)(a b:List Rat):Prop where
 ta:Jd a=a
 tb:Jd b=b
 ca:Cd (A+1) a
 cb:Cd M b
 lb:Ln A b
 la:a.length<=f.length
 ll:b.length<=f.length
 eu:Eu f (Yn s) a (Yn b)
structure RwOk(J K:Nat)(p:List Rat):Prop where
 fr:M3.FrOk J p
 p0:p≠[]
 cf:Cd K (DL p)
 cs:Cd K (Jc (DL p))
 ln:(DL p).length<=1000
 fit:4*(((DL p).length+3)*(DZ K (DL p) (Jc (DL p))+2))<=1000000
section
variable {J K:Nat} {p a b:List Rat}
end
end
namespace M3
open Go.RowKit Go.Shelf
attribute [local go_sem] Oper.semAt_some
end M3
namespace M3
open Go.RowKit Go.Shelf
attribute [local go_sem] Oper.semAt_some
end M3
end Go.Proofs.YtakpoihdghihmaaGreatDoor
end
section
open Go.Value renaming slice->C,bool->D
open Go.Obj renaming cells->E
open Go.Proofs.Tryz renaming prog->F
set_option maxRecDepth 100000
set_option maxHeartbeats 16000000
namespace Go.Proofs.YtakpoihdghihmaaGreatDoor
namespace M3
open Go.RowKit Go.Shelf
attribute [local go_sem] Oper.semAt_some
theorem Is(K X:Nat)(v W:Value)(p:List Rat)(x:Rat)(w:World)(h:Je w v p)(L:Jg w W x)(g:CtOk K X p)(R:DW X x):
 Calls F 15 #[v,W] w λe f=>e=.returned (.int .i64 (EY p x))/\Bl w f:=by
 obtain⟨i,la,j,rfl⟩:=h.form;obtain⟨s,a,l,c,t,b,k,d,rfl⟩:=Jg.form L;have o:Bl w ((w.alloc (E #[C i la j] 25)).alloc (E #[D s,C a l c,D t,C b k d] 37)):=(Ba w _).alloc (by rw[Ax];omega) _;have z:=(BI w 25 (C i la j)).alloc (E #[D s,C a l c,D t,C b k d] 37);have q:=JL.new (w.alloc (E #[C i la j] 25)) 37 (D s) (C a l c) (D t) (C b k d);rw[Ax]at q;obtain⟨W0,I⟩:=ex ((w.alloc (E #[C i la j] 25)).alloc (E #[D s,C a l c,D t,C b k d] 37));rw[I]at o z q;obtain⟨N,Q,M,HA⟩:=Dx I z q o;have m:=z.cell;obtain⟨x0,x1,r,u⟩:=q.cq;have P:=Ja λ(V:World) (H:Bl W0 V)=>WM _ x V ((L.below o).below H);have A:=Ja (λ(V:World) (H:Bl W0 V) (B:Nat) (s t:Bool) (a b:Option Addr) (l c k d:Nat) (y:JL V B 37 (D s) (C a l c) (D t) (C b k d)) (h2:Jg V (.agg #[D s,C a l c,D t,C b k d]) x)=>show Calls F 46 #[.agg #[C i la j],.func (.func 47) #[] #[],.func (.func 112) #[] #[.pointer (some ⟨B,0,none⟩)]] V λe f=>e=.returned (.int .i64 (EY p x))/\Bl V f by
  have G:=(h.below o).below H;unfold EY;by_cases p0:p=[]
  . rw[BH p0];rw[p0]at G;exact RI _ _ G _ _
  . rw[BB p0];have y:=RD K _ p _ G (g.sr p0) g.sl (RE g p0 _) (cP g p0 V R y h2);rw[RH g.ch.tp p0,cR]at y;exact y)
 obtain⟨n,S⟩:=ex (EY p x);rw[S]at A ⊢;clear h L g R o z q I S;go_enter Tryz.func15,Tryz.ntmps15
 go_upto_region 1 with fail
 rw[N.o];clear N;have hq:Bl W0 W0.drew:=(BE _ W0).drew;go_region_held3 (λf=>f.cell? ⟨w.heap.size,0,none⟩=some (C i la j)/\f.cell? ⟨w.heap.size+1,0,none⟩=some (D s)/\f.cell? ⟨w.heap.size+1,1,none⟩=some (C a l c)/\f.cell? ⟨w.heap.size+1,2,none⟩=some (D t)/\f.cell? ⟨w.heap.size+1,3,none⟩=some (C b k d)) (first|(with_reducible exact⟨m,x0,x1,r,u⟩)|(go_keep;done))
  (first
   |(go_at_call 51;refine(P.o _ hq).mono ?_;clear P;rintro e w5 ⟨B5,s5,t5,a5,b5,l5,c5,k5,d5,rfl,T,U,ad⟩;have hq:=Bt hq ad;clear m x0 x1 r u;have m:=(boxed_below Q.o hq).cell;obtain⟨x0,x1,r,u⟩:=(M.o.below hq).cq)
   |(go_at_call 46;refine(A.o _ hq _ _ _ _ _ _ _ _ _ T U).mono ?_;clear A T U;rintro e w6 ⟨rfl,ae⟩;have hq:=Bt hq ae;clear m x0 x1 r u;have m:=(boxed_below Q.o hq).cell;obtain⟨x0,x1,r,u⟩:=(M.o.below hq).cq))
 go_wp2_with fail
 go_ret;exact⟨rfl,Bt HA.o hq⟩
theorem dJ(v:Value)(p:List Rat)(w:World)(h:Je w v p):
 Calls F 56 #[v] w λe d=>∃B a l c,e=.returned (.func (.func 117) #[] #[.pointer (some ⟨B,0,none⟩)])/\Boxed d B 25 (C a l c)/\Je d (.agg #[C a l c]) p/\Bl w d:=by
 obtain⟨f,la,g,rfl⟩:=h.form;have b:Bl w (w.alloc (E #[C f la g] 25)):=Ba w _;have j:=Ja (h.below b);have i:=Ja b;clear h b;go_enter Tryz.func56,Tryz.ntmps56
 go_wp2_with fail
 go_ret;exact⟨_,f,la,g,rfl,BI w _ _,j.o,i.o⟩
theorem dK(v:Value)(p:List Rat)(w:World)(h:Je w v p)(f:DX p)(hl:p.length<=1000000):
 Calls F 18 #[v] w λe r=>e=.returned (.int .i64 (DP p.reverse:Int))/\Bl w r:=by
 obtain⟨R,la,S,rfl⟩:=h.form;have k:Bl w (w.alloc (E #[C R la S] 25)):=Ba w _;have t:=Ja (dJ _ p _ (h.below k));have j:=Ja (λ(V:World) (B Bu b:Nat) (a:Option Addr) (l c:Nat) (z:Boxed V B 25 (C a l c)) (A:Je V (.agg #[C a l c]) p) (G:Boxed V Bu 96 (.func (.func 117) #[] #[.pointer (some ⟨B,0,none⟩)])) (H:Boxed V b 61 (.func (.func 57) #[] #[]))=>show Calls F 54 #[.func (.func 116) #[] #[.pointer (some ⟨Bu,0,none⟩),.pointer (some ⟨b,0,none⟩)]] V λe r=>e=.returned (.int .i64 (DP p.reverse:Int))/\Bl V r by
  have u:=Pc V (p.reverse.map Dk) (WJ V p.reverse Dk Bu b (cE V p B a l c z A hl) (Bj Tryz.func117 (by kernel_rfl) rfl) (Bj Tryz.func57 (by kernel_rfl) rfl) G H (λW v x _ N Q=>by
   have I:Sq x:=by
    obtain⟨i,P,rfl⟩:=FO.1 (List.mem_reverse.1 Q);have:=f.at i;rw[cf]at this;simpa[List.getD,P]using this
   have:=Mz v x W N I;simpa using this)) (Bj Tryz.func116 (by kernel_rfl) rfl) (λs f=>by obtain⟨x,_,rfl⟩:=C3.1 f;exact KK x) (by rw[C5,List.length_reverse];exact hl)
  rw[LI]at u;exact u)
 have g:=Ja k;obtain⟨n,y⟩:=ex (DP p.reverse);rw[y]at j ⊢;clear h f hl k y;go_enter Tryz.func18,Tryz.ntmps18
 go_wp2_with(first
  |(go_at_call 56;refine t.o.mono ?_;clear t;rintro e w5 ⟨B5,T,X,U,rfl,o,q,m⟩)
  |(go_at_call 55;refine(cN _ _ _ _ _).mono ?_;rintro e w6 ⟨Bu,b,rfl,M,L,d⟩;have o:=boxed_below o d;have q:=q.below d)
  |(go_at_call 54;refine(j.o _ _ _ _ _ _ _ o q M L).mono ?_;clear j;rintro e w7 ⟨rfl,K⟩))
 go_ret;exact⟨rfl,((Bt g.o m).trans (d.mono (An g.o.size m.size))).trans (K.mono (An (An g.o.size m.size) d.size))⟩
end M3
section
open Go.RowKit Go.Shelf
structure RtOk(J K X:Nat)(p:List Rat):Prop where
 rw:RwOk J K p
 fit:(DL p).length*(DZ K (DL p) (Jc (DL p))+1+X+1)+1+X<=1000000
namespace M3
attribute [local go_sem] Oper.semAt_some
end M3
end
namespace M3
open Go.RowKit Go.Shelf
attribute [local go_sem] Oper.semAt_some
end M3
section
open Go.RowKit Go.Shelf
theorem RO(p:List Rat)(a:List Int)(e:p=a.map (λz:Int=>(z:Rat)))(h:a.all (λz=>decide (z.natAbs<100))=true):Cd 1 p:=by
 refine⟨1,DI,Sm.one 1 Y,EM.cdl λi=>?_⟩;rw[e];by_cases b:i<a.length
 . refine⟨a[i],?_,?_⟩
   . have c:=Cb.1 h a[i] (FA b);have d:a[i].natAbs<100:=Bh c;unfold Sm O;omega
   . unfold cf;rw[Fa,Am b];rfl
 . exact⟨0,Sm.zero 1,by rw[Yj si];rfl⟩
def eP:List Rat:=[-2,0,1]
theorem dL:Yz [120,94,50,45,50]=(eP,0,0):=dk
theorem RR:Eo [49]=1/\(Xa [49]).isSome=true:=dk
theorem RS:Jc eP=[0,2]:=dk
theorem dM:EX eP=2:=dk
theorem dN:EY eP 1=1:=dk
theorem dO:DP eP.reverse=1:=dk
theorem RT:Cd 1 eP:=RO eP [-2,0,1] dk DI
theorem RU:CtOk 1 1 eP:=by
 refine⟨?_,?_⟩
 . rw[RS];exact⟨dk,dk,RT,RO _ [0,2] dk DI,DI,DI⟩
 . rw[RS];decide
theorem dP:DW 1 (1:Rat):=⟨Sm.one 1 Y,Sm.one 1 Y⟩
namespace M3
attribute [local go_sem] Oper.semAt_some
theorem dQ(w:World):Calls F 22 #[] w λr a=>r=.returned (D true)/\Bl w a:=by
 have R:=Ja (λ(V:World)=>show Calls F 23 #[.string ⟨#[120,94,50,45,50]⟩] V λr a=>∃u,r=.returned (.tuple #[u,.int .i64 0,.int .i64 0])/\Je a u eP/\Bl V a from
  (Py ⟨#[120,94,50,45,50]⟩ V).mono (λr a h=>by
   obtain⟨u,e,p,i,c,L⟩:=h;rw[Ic,show Ji ⟨#[120,94,50,45,50]⟩=[120,94,50,45,50]from rfl,dL]at c;obtain⟨rfl,rfl,h4⟩:=c;exact⟨u,i,h4,L⟩))
 have S:=Ja (λ(V:World)=>show Calls F 24 #[.string ⟨#[49]⟩] V λr a=>∃u,r=.returned (.tuple #[u,D true])/\Jg a u 1/\Bl V a from
  (LS ⟨#[49]⟩ V).mono (λr a h=>by
   obtain⟨u,i,c,L⟩:=h;rw[show Ji ⟨#[49]⟩=[49]from rfl]at i c;rw[RR.2]at i;rw[RR.1]at c;exact⟨u,i,c,L⟩))
 obtain⟨s,t,v⟩:=Dh (λ(V:World) (x:Value) (j:Je V x eP)=>Iq 1 1 x eP V j RU) (λ(V:World) (x y:Value) (j:Je V x eP) (hy:Jg V y 1)=>Is 1 1 x y eP 1 V j hy RU dP) λ(V:World) (x:Value) (j:Je V x eP)=>dK x eP V j (RT.sqs Y) DI;rw[dM]at s;rw[dN]at t;rw[dO]at v;go_enter Tryz.func22,Tryz.ntmps22
 go_upto_region 2 with(go_at_call 23;refine(R.o _).mono ?_;clear R;rintro e d ⟨u1,rfl,I,ai⟩;obtain⟨A,l1,c1,rfl⟩:=I.form)
 have l:Bl d (d.alloc (E #[C A l1 c1] 25)):=Ba d _;have b:=BI d 25 (C A l1 c1);obtain⟨V1,af⟩:=ex (d.alloc (E #[C A l1 c1] 25));have r1:=I.below l;rw[af]at l b r1 ⊢;obtain⟨B1,ad⟩:=ex (d.heap.size);have W:Bl w V1:=Bt ai l;rw[ad]at b ⊢;clear af ad I l ai;go_upto_region 3 with(go_at_call 24;refine(S.o _).mono ?_;clear S;rintro e f ⟨u2,rfl,K,aj⟩;obtain⟨P,B,l2,c2,Q,G,M,H,rfl⟩:=Jg.form K)
 have m:Bl f (f.alloc (E #[D P,C B l2 c2,D Q,C G M H] 37)):=Ba f _;have k:=JL.new f 37 (D P) (C B l2 c2) (D Q) (C G M H);have N:=K.below m;have g:=Bt aj m
 obtain⟨X,ah⟩:=ex (f.alloc (E #[D P,C B l2 c2,D Q,C G M H] 37));rw[ah]at m k N g ⊢;obtain⟨B2,ae⟩:=ex (f.heap.size);rw[ae]at k ⊢;replace b:=boxed_below b g;replace r1:=r1.below g;have HQ:=Ja (Bt W g);clear ah ae K m aj g W;have hq:=BE X.heap.size X;have n:=b.cell;obtain⟨x0,x1,o,q⟩:=k.cq;obtain⟨T,U,z,R2⟩:=Dx b k r1 N;clear b k r1 N;go_wp2_with(first
  |(go_at_call 13;refine(s.o _ _ (z.o.below hq)).mono ?_;clear s;rintro e w5 ⟨rfl,ak⟩;have hq:=Bt hq ak;clear n x0 x1 o q;have n:=(boxed_below T.o hq).cell;obtain⟨x0,x1,o,q⟩:=(U.o.below hq).cq)
  |(go_at_call 15;refine(t.o _ _ _ (z.o.below hq) (R2.o.below hq)).mono ?_;clear t;rintro e w6 ⟨rfl,am⟩;have hq:=Bt hq am;clear n x0 x1 o q;have n:=(boxed_below T.o hq).cell;obtain⟨x0,x1,o,q⟩:=(U.o.below hq).cq)
  |(go_at_call 18;refine(v.o _ _ (z.o.below hq)).mono ?_;clear v;rintro e w7 ⟨rfl,an⟩;have hq:=Bt hq an))
 go_ret;exact⟨rfl,Bt HQ.o hq⟩
end M3
end
section
open Go.RowKit Go.Shelf
attribute [local go_sem] Oper.semAt_some
def aP:List Rat:=[1,-1,-1,1]
end
section
variable{S:List Rat}{l:List UInt8}{i k n x:Nat}{c:Rat}
theorem RV(h:l.all DY=true):num l<10^l.length:=by
 have:=YI (Kl h);rwa[I2]at this
def Fr(x:Nat)(c:Rat):Prop:=∃(a b:Nat) (y z:Nat),c=Rat.divInt a b/\a<=10^y/\b<=10^z/\b≠0/\y+z<=x
theorem Fr.mono{y:Nat}(h:Fr x c)(j:x<=y):Fr y c:=by
 obtain⟨a,b,u,v,d,e,f,g,i⟩:=h;exact⟨a,b,u,v,d,e,f,g,Y⟩
theorem Fr.one:Fr 0 1:=⟨1,1,0,0,DI,DI,DI,DI,DI⟩
theorem dR(r:i<=l.length)(h:YS l i=.ok c k):Fr (k-i) c:=by
 unfold YS at h;split at h
 . cases h
 . rename_i ds p a g;have b:=GV r g;have t:=F8 l a;have q:=RV b.2.2.2.2.2.2.2.2;rw[b.2.2.2.2.2.2.2.1]at q;split at h
   . rename_i d;have d:=Yc d;split at h
     . cases h
     . rename_i f s m n;have e:=GV Y n;have o:=RV e.2.2.2.2.2.2.2.2;rw[e.2.2.2.2.2.2.2.1]at o;split at h
       . cases h
       . rename_i j;cases h;exact⟨num ds,num f,a-p,k-s,rfl,Y,Y,j,Y⟩
   . cases h;exact⟨num ds,1,a-p,0,(Pj _).symm,Y,DI,DI,Y⟩
theorem dS(g:i<=l.length)(h:YC l i=.ok (c,n) k):Fr (k-i) c:=by
 unfold YC at h;have p:=F8 l i;have d:=Xn g;split at h
 . split at h
   . cases h
   . rename_i c' j b;have o:=MF d b;have a:=dR d b;have q:=F8 l j;split at h
     . rename_i e;have e:=Yc e;split at h
       . cases h
       . rename_i s m f;have r:=MG Y f;cases h;exact a.mono Y
     . cases h;exact a.mono Y
 . split at h
   . split at h
     . cases h
     . cases h;exact Fr.one.mono Y
   . cases h
def FW(i:Nat)(S:List Rat):Prop:=S.length=9/\∃D:Int,D≠0/\D.natAbs<=10^i/\∀j,∃z:Int,z.natAbs<=10^i/\cf S j=Rat.divInt z D
theorem FW.mono(h:FW i S)(e:i<=k):FW k S:=by
 obtain⟨a,D,b,f,c⟩:=h;have hp:(10:Nat)^i<=10^k:=AE Y e;exact⟨a,D,b,Y,λj=>by obtain⟨z,g,d⟩:=c j;exact⟨z,Y,d⟩⟩
theorem FW.start(i:Nat):FW i (List.replicate 9 0):=⟨rfl,1,DI,by have:1<=10^i:=CU Y;simpa using this,λj=>⟨0,Z,by rw[JW,Rat.zero_divInt]⟩⟩
theorem FW.next(h:FW i S)(s:Fr x c)(H:n<=8)(b:Bool):FW (i+x+1) (S.set n (if b then cf S n-c else cf S n+c)):=by
 obtain⟨m,D,g,o,p⟩:=h;obtain⟨a,d,y,z,rfl,r,t,G,I⟩:=s;have f:(d:Int)≠0:=Y
 have u:(10:Nat)^i*10^z<=10^(i+x):=by rw[<-CQ];exact AE Y Y
 have v:(10:Nat)^y*10^i<=10^(i+x):=by rw[<-CQ];exact AE Y Y
 have e:∀w:Int,w.natAbs<=10^i->(w*(d:Int)).natAbs<=10^(i+x):=λw e=>by
  rw[CF,AY];exact An (Cr e t) u
 have B:((a:Int)*D).natAbs<=10^(i+x):=by
  rw[CF,AY];exact An (Cr r o) v
 refine⟨by rw[CK];exact m,D*d,CJ g f,by have:=e D o;omega,λj=>?_⟩;rw[XN _ _ _ _ (by rw[m];omega)];by_cases q:j=n
 . rw[BH q];obtain⟨w,k,l⟩:=p n;have A:=e w k;rw[l];cases b with
   |true=>
    refine⟨w*d-a*D,by have:=Int.natAbs_sub_le (w*(d:Int)) ((a:Int)*D);omega,?_⟩;rw[BH rfl,Rat.sub_eq_add_neg,Rat.neg_divInt,FH _ _ g f];congr 1;rw[Int.neg_mul];rfl
   |false=>
    refine⟨w*d+a*D,by have:=FK (w*(d:Int)) ((a:Int)*D);omega,?_⟩;rw[BB DI,FH _ _ g f]
 . rw[BB q];obtain⟨w,k,l⟩:=p j;exact⟨w*d,by have:=e w k;omega,by rw[l,Fw f]⟩
theorem RW:∀(f:Nat) (b:Bool) (I:Nat) (S d:List Rat) (k:Nat),I<=l.length->FW I S->ES l f b I S=.ok d k->FW (l.length+1) d:=by
 intro f;induction f with
 |zero=>intro b I S d k _ _ h;cases h
 |succ f o=>
  intro b I S d k m r h;cases g:YC l I with
  |bad e p=>rw[LM g]at h;cases h
  |ok a s=>
   obtain⟨c,n⟩:=a;have q:=Kp m g;have i:=r.next (dS m g) q.2.2 b;have t:=F8 l s;rw[LN g]at h;split at h
   . rename_i j;have:=Yc j;exact o _ _ _ _ _ Y (i.mono Y) h
   . split at h
     . rename_i j;have:=Yc j;exact o _ _ _ _ _ Y (i.mono Y) h
     . split at h
       . cases h;exact i.mono Y
       . cases h
theorem dT(h:X7 l=.ok S k):FW (l.length+1) S:=by
 unfold X7 at h;have a:=Xn (l:=l) (i:=0) Y;split at h
 . rename_i b;have:=Yc b;exact RW _ _ _ _ _ _ Y (FW.start _) h
 . exact RW _ _ _ _ _ _ a (FW.start _) h
theorem dU(a b c:Nat)(h:a*b<64*c):((2:Nat)^a)^b<O^c:=by
 rw[show O=2^64 from by decide,<-Nat.pow_mul,<-Nat.pow_mul];exact Nat.pow_lt_pow_right Y h
theorem dV(h:n<=43*k)(c:k<=7):(10:Nat)^n<O^16:=by
 have b:((10:Nat)^43)^k<=(2^143)^k:=Fe DI k;have a:(10:Nat)^n<=10^(43*k):=AE Y h;rw[Nat.pow_mul]at a;exact Cl (An a b) (dU 143 k 16 Y)
theorem dW(l:List UInt8):∃D:Int,D≠0/\Sm 16 D/\EE D 16 (Yz l).1:=by
 have a:∃D:Int,D≠0/\Sm 16 D/\EE D 16 []:=⟨1,DI,Sm.one _ Y,λi=>by rw[YH];exact CD.zero _ _⟩;by_cases h:300<l.length
 . rw[show Yz l=([],1,0)by unfold Yz;rw[BH h]];exact a
 . rw[LO h];cases b:X7 l with
   |bad e p=>exact a
   |ok S k=>
    rw[show(IZ (Rd.ok S k)).1=Jd S from rfl];obtain⟨_,D,c,g,d⟩:=dT b;have b:=dV (n:=l.length+1) (k:=7) Y Y;exact⟨D,c,by unfold Sm;omega,λi=>by
     obtain⟨z,j,f⟩:=d i;exact⟨z,by rw[Ye];exact f,by unfold Sm;omega⟩⟩
open Go.RowKit Go.Shelf
attribute [local go_sem] Oper.semAt_some
theorem RY(l:List UInt8):Jd (Yz l).1=(Yz l).1:=by
 by_cases h:300<l.length
 . rw[show Yz l=([],1,0)by unfold Yz;rw[BH h]];rfl
 . rw[LO h];cases X7 l with
   |bad e p=>rfl
   |ok S k=>exact J3 _
theorem Ra(s:ByteArray)(w:World):
 Calls F 8 #[.string s] w λe x=>∃u,e=.returned u/\Je x u (Yz (Ji s)).1/\Bl w x:=by
 have q:=Ja λ(V:World)=>Py s V;have b0:=BI w 25 (C none 0 0);have i:Bl w (w.alloc (E #[C none 0 0] 25)):=Ba w _;obtain⟨I,m⟩:=ex (w.alloc (E #[C none 0 0] 25));obtain⟨y,k⟩:=ex (w.heap.size);rw[m]at b0 i;rw[k]at b0;obtain⟨z,r,G,t⟩:=Dx b0 i m k;clear b0 i m k;go_enter Tryz.func8,Tryz.ntmps8
 go_upto_region 1 with fail
 rw[G.o,t.o];go_upto_region 2 with(go_at_call 23;refine(q.o _).mono ?_;clear q;rintro e b ⟨u,L,M,rfl,⟨rfl,rfl,n⟩,g⟩;obtain⟨a,l1,c1,rfl⟩:=n.form)
 have d:Bl b (b.alloc (E #[C a l1 c1] 25)):=Ba b _;have o:=BI b 25 (C a l1 c1);have c:=(z.o.bel g).bel d;have r1:=n.row.below d;have j:=(Bt r.o g).trans (d.mono (Bt r.o g).size);obtain⟨K,f⟩:=ex (b.alloc (E #[C a l1 c1] 25));obtain⟨H,l⟩:=ex (b.heap.size);rw[f,l]at o;rw[f]at c r1 j;rw[f,l];have x1:=o.cell;have x0:=c.cell;have f0:=c.frozen;have A:=Ja (El c (C a l1 c1) r1);have B:=Ja (j.setCell (p:=⟨y,0,none⟩) (by rw[t.o];exact Aa _) (C a l1 c1));clear d o c r1 j f l n g;go_wp2_with fail
 exact BA (v:=.agg #[C a l1 c1]) (by simp[results,Tryz.results8,go_sem,x0]) rfl ⟨_,rfl,⟨_,rfl,A.o⟩,B.o⟩
end
section
open Go.RowKit Go.Shelf
variable{p:List Rat}{M:Nat}
theorem Rb(l:List UInt8):Cd 16 (Yz l).1:=dW l
theorem Cd.mul{M N:Nat}{p q:List Rat}(h:Cd M p)(g:Cd N q):Cd (M+N+p.length) (Jm p q):=by
 obtain⟨D,d1,b,c⟩:=h;obtain⟨E,d,e,f⟩:=g;have a:D*E≠0:=CJ d1 d;exact⟨D*E,a,(b.mul e).mono Y,λi=>Zg a (λi j=>(c i).mul (f j)) i⟩
theorem Cd.times{N:Nat}{q:List Rat}(h:Cd M p)(f:Cd N q)(hl:M+N+p.length+1<=1000000):M3.KH p q:=by
 obtain⟨D,d1,a,b⟩:=h;obtain⟨E,c,d,e⟩:=f;exact Zf (CJ d1 c) ((a.mul d).mono Y) (λi j=>(b i).mul (e j)) hl
theorem Cd.slope(h:Cd M p)(hl:p.length<=1000000):Cd (M+1) (Jc p):=by
 obtain⟨D,d1,a,b⟩:=h;refine⟨D,d1,a.mono Y,λi=>?_⟩;rw[KZ];by_cases e:i+1<p.length
 . have c:=(b (i+1)).mul (E:=1) (M:=1) (d:=(((i+1:Nat):Int):Rat)) ⟨((i+1:Nat):Int),by rw[CW,show((1:Int):Rat)=1 from rfl];grind,by unfold Sm O;rw[AY];omega⟩;rwa[Int.mul_one]at c
 . rw[Yj Y,CC];exact CD.zero _ _
namespace M3
theorem dY(a b:Value)(ps qs:List Rat)(w:World)(i:Je w a ps)(j:Je w b qs)(m:DX ps)(n:DX qs)(l:KH ps qs)(k:ps.length+qs.length<=1099511627776):
 Calls F 9 #[a,b] w λe c=>∃u,e=.returned u/\Je c u (Jm ps qs)/\Bl w c:=by
 refine(Vw a b ps qs w i j m n l k).mono ?_;rintro e c ⟨u,d,f,_,g⟩;exact⟨u,d,f,g⟩
theorem ChOk.of{K:Nat}{p q:List Rat}(tp:Jd p=p)(tq:Jd q=q)(cp:Cd K p)(cq:Cd K q){n:Nat}(lp:p.length<=n)(lq:q.length<=n)(hle:4*((n+2)*((K+1)*(n+n+1)+1))<=1000000)(c:n<=1000):ChOk K p q:=by
 refine⟨tp,tq,cp,cq,?_,Y⟩;have a:DZ K p q<=(K+1)*(n+n+1):=Ao _ Y;have b:(max p.length q.length+2)*(DZ K p q+1)<=(n+2)*((K+1)*(n+n+1)+1):=Cr Y Y;omega
attribute [local go_sem] Oper.semAt_some
end M3
end
open Go.RowKit Go.Shelf
variable{p:List Rat}
theorem Nr(x:List Rat):(Jc x).length<=x.length:=An (Y3 _) (by simp[Hf])
theorem Kh{K n:Nat}(tp:Jd p=p)(cp:Cd K p)(lp:p.length<=n)(b:4*((n+2)*((K+1+1)*(n+n+1)+1))<=1000000)(c:n<=1000){X:Nat}(g:n*((K+1+1)*(n+n+1)+n*((K+1+1)*(n+n+1)+1)+1+X+1)+1+X<=1000000):CtOk (K+1) X p:=by
 have sl:=Nr p;refine⟨M3.ChOk.of tp (JF _) (cp.mono Y) (cp.slope Y) (n:=n) lp Y b c,?_⟩;have d:DZ (K+1) p (Jc p)<=(K+1+1)*(n+n+1):=Ao _ Y;have a:max p.length (Jc p).length<=n:=Y
 have e:max p.length (Jc p).length*(DZ (K+1) p (Jc p)+1)<=n*((K+1+1)*(n+n+1)+1):=Cr a Y;have f:max p.length (Jc p).length*(DZ (K+1) p (Jc p)+max p.length (Jc p).length*(DZ (K+1) p (Jc p)+1)+1+X+1)<=n*((K+1+1)*(n+n+1)+n*((K+1+1)*(n+n+1)+1)+1+X+1):=Cr a Y;omega
theorem dZ(tp:Jd p=p)(cp:Cd 41 p)(lp:p.length<=17)(p0:p≠[]):RtOk 42 81 2000 p:=by
 have sl:=Nr p;have ch:M3.ChOk 42 p (Jc p):=M3.ChOk.of tp (JF _) (cp.mono Y) (cp.slope Y) (n:=17) lp Y DI Y;have fr:M3.FrOk 42 p:=⟨ch,by
  have c:DZ 42 p (Jc p)<=(42+1)*(17+17+1):=Ao _ Y;have e:(p.length+3)*(DZ 42 p (Jc p)+1)<=(17+3)*((42+1)*(17+17+1)+1):=Cr Y Y;omega⟩
 have a:=Xm tp p0;have d:=Gk tp p0;have mf:Jz (DL p)=DL p:=a.mw;have b:Cd 80 (DL p):=Q6 tp p0 Y (cp.mono Y) a.tw mf d;have lf:(DL p).length<=p.length:=(Dv.len a.tw tp p0 d).1;have f:=Nr (DL p);have cs:Cd 81 (Jc (DL p)):=b.slope Y;have c:DZ 81 (DL p) (Jc (DL p))<=(81+1)*(17+17+1):=Ao _ Y;refine⟨⟨fr,p0,b.mono Y,cs,Y,?_⟩,?_⟩
 . have e:((DL p).length+3)*(DZ 81 (DL p) (Jc (DL p))+2)<=(17+3)*((81+1)*(17+17+1)+2):=Cr Y Y;omega
 . exact An (C9 (C9 (Cr (An lf lp) (C9 (C9 (C9 c 1) 2000) 1)) 1) 2000) DI
namespace M3
attribute [local go_sem] Oper.semAt_some
end M3
end Go.Proofs.YtakpoihdghihmaaGreatDoor
end
open Go.Value renaming slice->B
open Go.Obj renaming cells->C
open Go renaming World->D,Value->E
set_option maxRecDepth 100000
set_option maxHeartbeats 16000000
namespace Go.Proofs.YtakpoihdghihmaaGreatDoor
open Go.RowKit Go.Shelf
variable{p:List Rat}{n:Nat}
theorem Lj(l:List Rat):DP l<=l.length:=An (cx l) Y
theorem Ns(p0:p≠[])(hl:p.length<=n):-(n:Int)<=EX p/\EX p<=n:=by
 have c:=RK p0;have a:=Lj (D6 (Ju p));have b:=Lj (Eh (Ju p));unfold D6 at a;unfold Eh at b;rw[C5]at a b;unfold EX;rw[BB p0];unfold D6 Eh;omega
theorem Nt(p0:p≠[])(hl:p.length<=n)(x:Rat):-(n:Int)<=EY p x/\EY p x<=n:=by
 have c:=RK p0;have a:=Lj (D6 (Ju p));have b:=Lj (JM (Ju p) x);unfold D6 at a;unfold JM at b;rw[C5]at a b;unfold EY;rw[BB p0];unfold D6 JM;omega
namespace M3
attribute [local go_sem] Oper.semAt_some
theorem dc(s t a:ByteArray)(_hs:s.size<=140737488351232)(_ht:t.size<=140737488351232)(_ha:a.size<=140737488351232)(w:D):
 Calls Tryz.prog 6 #[.string s,.string t,.string a] w λr K=>r=.returned (.bool true)/\Bl w K:=by
 have y:=Rb (Ji s);have z:=Rb (Ji t);have F:=(Px (Ji s)).1;have H:=(Px (Ji t)).1;have tP:=RY (Ji s);have tQ:=RY (Ji t);have Qm:=Ja λ(V:D)=>Ra s V;have Qj:=Ja λ(V:D)=>Ra t V;obtain⟨p,hp⟩:=ex ((Yz (Ji s)).1);obtain⟨q,hq⟩:=ex ((Yz (Ji t)).1);rw[hp]at y F tP Qm;rw[hq]at z H tQ Qj;obtain⟨Qh,Qn,AL⟩:=Dh (λ(V:D) (x:E) (hx:Je V x p)=>J2 x p V hx) (λ(V:D) (x:E) (hx:Je V x q)=>J2 x q V hx) λ(V:D)=>dQ V;have Qt:p=[]\/(p≠[]/\q=[])\/(p≠[]/\q≠[]):=by
  by_cases p0:p=[]
  . exact Or.inl p0
  . by_cases q0:q=[]
    . exact Or.inr (Or.inl ⟨p0,q0⟩)
    . exact Or.inr (Or.inr ⟨p0,q0⟩)
 rcases Qt with p0|⟨p0,q0⟩|⟨p0,q0⟩
 . rw[p0,show(([]:List Rat).length:Int)-1=-1 from rfl]at Qh;rw[p0]at Qm;clear y z F H tP tQ hp hq p0;go_enter Tryz.func6,Tryz.ntmps6
   go_upto_region 2 with(go_at_call 8;refine(Qm.o _ ).mono ?_;clear Qm;rintro e N ⟨uP,rfl,gP,ai⟩;obtain⟨aP,F,y,rfl⟩:=gP.form)
   have Qd:Bl N (N.alloc (C #[B aP F y] 25)):=Ba N _;have G:=BI N 25 (B aP F y);have L:=gP.below Qd;have Qb:=Bt ai Qd
   obtain⟨VP,af⟩:=ex (N.alloc (C #[B aP F y] 25));rw[af]at G L Qb ⊢;obtain⟨BP,ad⟩:=ex (N.heap.size);rw[ad]at G ⊢;clear af ad gP Qd ai;go_upto_region 3 with(go_at_call 8;refine(Qj.o _ ).mono ?_;clear Qj;rintro e P ⟨uQ,rfl,gQ,aj⟩;obtain⟨aQ,H,z,rfl⟩:=gQ.form)
   have Qf:Bl P (P.alloc (C #[B aQ H z] 25)):=Ba P _;have l:=BI P 25 (B aQ H z);have M:=gQ.below Qf;have Q:=Bt aj Qf
   obtain⟨VQ,ah⟩:=ex (P.alloc (C #[B aQ H z] 25));rw[ah]at l M Q ⊢;obtain⟨BQ,ae⟩:=ex (P.heap.size);rw[ae]at l ⊢;clear ah ae gQ Qf aj;have Qg:=boxed_below G Q;have Qk:=L.below Q;have Ql:Bl w VQ:=Bt Qb Q;have A:=Qg.cell;have I:=l.cell;have k:=Ja (And.intro Qg (And.intro l (And.intro Qk M)));have HQ:=Ja Ql;clear G l L M Qg Qk Qb Q Ql;have hq:=BE VQ.heap.size VQ;go_wp2_with(first
    |(go_at_call 30;refine(Qh.o _ _ (k.o.2.2.1.below hq)).mono ?_;clear Qh;rintro e v1 ⟨rfl,b⟩;have hq:=Bt hq b;clear b;clear A I;have A:=(boxed_below k.o.1 hq).cell;have I:=(boxed_below k.o.2.1 hq).cell)
    |(go_at_call 22;refine(AL.o _).mono ?_;clear AL;rintro e v3 ⟨rfl,b⟩;have hq:=Bt hq b;clear b;clear A I;have A:=(boxed_below k.o.1 hq).cell;have I:=(boxed_below k.o.2.1 hq).cell))
   go_ret;exact⟨rfl,Bt HQ.o hq⟩
 . obtain⟨m,hm⟩:=ex (p.length-1:Nat);have Qo:(p.length:Int)-1=(m:Int):=by have:=Ah.2 p0;omega
   have Uc:¬(m:Int)<0:=Y
   rw[Qo]at Qh;rw[q0,show(([]:List Rat).length:Int)-1=-1 from rfl]at Qn;rw[q0]at Qj;clear y z F H tP tQ hp hq p0 q0 hm Qo;go_enter Tryz.func6,Tryz.ntmps6
   go_upto_region 2 with(go_at_call 8;refine(Qm.o _ ).mono ?_;clear Qm;rintro e N ⟨uP,rfl,gP,ai⟩;obtain⟨aP,F,y,rfl⟩:=gP.form)
   have Qd:Bl N (N.alloc (C #[B aP F y] 25)):=Ba N _;have G:=BI N 25 (B aP F y);have L:=gP.below Qd;have Qb:=Bt ai Qd
   obtain⟨VP,af⟩:=ex (N.alloc (C #[B aP F y] 25));rw[af]at G L Qb ⊢;obtain⟨BP,ad⟩:=ex (N.heap.size);rw[ad]at G ⊢;clear af ad gP Qd ai;go_upto_region 3 with(go_at_call 8;refine(Qj.o _ ).mono ?_;clear Qj;rintro e P ⟨uQ,rfl,gQ,aj⟩;obtain⟨aQ,H,z,rfl⟩:=gQ.form)
   have Qf:Bl P (P.alloc (C #[B aQ H z] 25)):=Ba P _;have l:=BI P 25 (B aQ H z);have M:=gQ.below Qf;have Q:=Bt aj Qf
   obtain⟨VQ,ah⟩:=ex (P.alloc (C #[B aQ H z] 25));rw[ah]at l M Q ⊢;obtain⟨BQ,ae⟩:=ex (P.heap.size);rw[ae]at l ⊢;clear ah ae gQ Qf aj;have Qg:=boxed_below G Q;have Qk:=L.below Q;have Ql:Bl w VQ:=Bt Qb Q;have A:=Qg.cell;have I:=l.cell;have k:=Ja (And.intro Qg (And.intro l (And.intro Qk M)));have HQ:=Ja Ql;clear G l L M Qg Qk Qb Q Ql;have hq:=BE VQ.heap.size VQ;go_wp2_with(first
    |(go_at_call 30;refine(Qh.o _ _ (k.o.2.2.1.below hq)).mono ?_;clear Qh;rintro e v1 ⟨rfl,b⟩;have hq:=Bt hq b;clear b;clear A I;have A:=(boxed_below k.o.1 hq).cell;have I:=(boxed_below k.o.2.1 hq).cell)
    |(go_at_call 30;refine(Qn.o _ _ (k.o.2.2.2.below hq)).mono ?_;clear Qn;rintro e v2 ⟨rfl,b⟩;have hq:=Bt hq b;clear b;clear A I;have A:=(boxed_below k.o.1 hq).cell;have I:=(boxed_below k.o.2.1 hq).cell)
    |(go_at_call 22;refine(AL.o _).mono ?_;clear AL;rintro e v3 ⟨rfl,b⟩;have hq:=Bt hq b;clear b;clear A I;have A:=(boxed_below k.o.1 hq).cell;have I:=(boxed_below k.o.2.1 hq).cell))
   go_ret;exact⟨rfl,Bt HQ.o hq⟩
 . obtain⟨m,hm⟩:=ex (p.length-1:Nat);have Qo:(p.length:Int)-1=(m:Int):=by have:=Ah.2 p0;omega
   have Uc:¬(m:Int)<0:=Y
   rw[Qo]at Qh;obtain⟨m',ck⟩:∃m:Nat,q.length-1=m:=⟨_,rfl⟩;have cj:(q.length:Int)-1=(m':Int):=by have:=Ah.2 q0;omega
   have cl:¬(m':Int)<0:=Y
   rw[cj]at Qn;have Qw:ChOk 16 p q:=ChOk.of tP tQ y z (n:=9) F H DI Y;have cG:Cd 323 (Jr p q):=Qw.gcd.mono (Ao (16+1) (show p.length+q.length+1<=19 by omega));have g0:=YN tP tQ (Or.inl p0);have lG:(Jr p q).length<=9:=An (Dv.len (JO p q) tP p0 (YB tP tQ).1).1 F;have z0:=Xs tP tQ p0 q0;have cZ:Cd 41 (Jm p q):=(y.mul z).mono Y;have lZ:(Jm p q).length<=17:=by have:=JG tP tQ p0 q0;omega
   have tZ:=JY p q;have Qp:=Xm tZ z0;have cF:Cd 80 (DL (Jm p q)):=Q6 tZ z0 Y (cZ.mono Y) Qp.tw Qp.mw (Gk tZ z0);have lF:(DL (Jm p q)).length<=17:=An (Dv.len Qp.tw tZ z0 (Gk tZ z0)).1 lZ;have Qv:CtOk 17 2000 p:=Kh tP y F DI Y DI;have Qu:CtOk 17 2000 q:=Kh tQ z H DI Y DI;have Qq:CtOk 324 2000 (Jr p q):=Kh (JO p q) cG lG DI Y DI;have Qz:CtOk 42 2000 (Jm p q):=Kh tZ cZ lZ DI Y DI;have bf:CtOk 81 2000 (DL (Jm p q)):=Kh Qp.tw cF lF DI Y DI;have vA:=Wy (Ji a);have KG:=Ja λ(V:D)=>ZN a V;obtain⟨x,hx⟩:=ex (Eo (Ji a));rw[hx]at vA KG;obtain⟨GC,TM,FE⟩:=Dh (λ(V:D) (u v:E) (o:Je V u p) (hv:Je V v q)=>QS 16 u v p q V o hv Qw) (λ(V:D) (u v:E) (o:Je V u p) (hv:Je V v q)=>dY u v p q V o hv (y.sqs Y) (z.sqs Y) (y.times z Y) Y) λ(V:D) (u:E) (o:Je V u (Jm p q))=>bF 42 u (Jm p q) V o (dZ tZ cZ lZ z0).rw.fr;rw[(Nq tZ z0).1]at FE;obtain⟨AP,AQ,AG,AZ,AF,ap,aq,an⟩:=GN (λ(V:D) (u:E) (o:Je V u p)=>Iq 17 2000 u p V o Qv) (λ(V:D) (u:E) (o:Je V u q)=>Iq 17 2000 u q V o Qu) (λ(V:D) (u:E) (o:Je V u (Jr p q))=>Iq 324 2000 u (Jr p q) V o Qq) (λ(V:D) (u:E) (o:Je V u (Jm p q))=>Iq 42 2000 u (Jm p q) V o Qz) (λ(V:D) (u:E) (o:Je V u (DL (Jm p q)))=>Iq 81 2000 u (DL (Jm p q)) V o bf) (λ(V:D) (u v:E) (o:Je V u p) (hv:Jg V v x)=>Is 17 2000 u v p x V o hv Qv vA) (λ(V:D) (u v:E) (o:Je V u q) (hv:Jg V v x)=>Is 17 2000 u v q x V o hv Qu vA) λ(V:D) (u v:E) (o:Je V u (Jr p q)) (hv:Jg V v x)=>Is 324 2000 u v (Jr p q) x V o hv Qq vA;have am:=Ja λ(V:D) (u v:E) (o:Je V u (Jm p q)) (hv:Jg V v x)=>Is 42 2000 u v (Jm p q) x V o hv Qz vA;have ak:=Ja λ(V:D) (u v:E) (o:Je V u (DL (Jm p q))) (hv:Jg V v x)=>Is 81 2000 u v (DL (Jm p q)) x V o hv bf vA;rw[(Nq tZ z0).2.1]at AF;rw[(Nq tZ z0).2.2 x]at ak;rw[dH tP p0 tQ q0 z0]at AZ AF;rw[dI tP p0 tQ q0 z0]at am ak;have w1:=Ns p0 F;have w2:=Ns q0 H;have w3:=Ns g0 lG;have w4:=Nt p0 F x;have w5:=Nt q0 H x;have w6:=Nt g0 lG x;obtain⟨k1,az⟩:=ex (EX p);obtain⟨k2,ba⟩:=ex (EX q);obtain⟨k3,bc⟩:=ex (EX (Jr p q));obtain⟨j1,aw⟩:=ex (EY p x);obtain⟨j2,ax⟩:=ex (EY q x);obtain⟨j3,ay⟩:=ex (EY (Jr p q) x);rw[az]at AP w1;rw[ba]at AQ w2;rw[bc]at AG w3;rw[az,ba,bc]at AZ AF;rw[aw]at ap w4;rw[ax]at aq w5;rw[ay]at an w6;rw[aw,ax,ay]at am ak;have h1:IntKind.i64.wrap (k1+k2)=k1+k2:=by rw[BU];omega
   have h2:IntKind.i64.wrap (k1+k2-k3)=k1+k2-k3:=by rw[BU];omega
   have h3:IntKind.i64.wrap (j1+j2)=j1+j2:=by rw[BU];omega
   have h4:IntKind.i64.wrap (j1+j2-j3)=j1+j2-j3:=by rw[BU];omega
   have Ub:=AZ;have bg:=am;clear y z F H tP tQ hp hq p0 q0 hm Qo ck cj Qw cG g0 lG z0 cZ lZ tZ Qp cF lF Qv Qu Qq Qz bf vA hx w1 w2 w3 w4 w5 w6 az ba bc aw ax ay;go_enter Tryz.func6,Tryz.ntmps6
   go_upto_region 2 with(go_at_call 8;refine(Qm.o _ ).mono ?_;clear Qm;rintro e N ⟨uP,rfl,gP,ai⟩;obtain⟨aP,F,y,rfl⟩:=gP.form)
   have Qd:Bl N (N.alloc (C #[B aP F y] 25)):=Ba N _;have G:=BI N 25 (B aP F y);have L:=gP.below Qd;have Qb:=Bt ai Qd
   obtain⟨VP,af⟩:=ex (N.alloc (C #[B aP F y] 25));rw[af]at G L Qb ⊢;obtain⟨BP,ad⟩:=ex (N.heap.size);rw[ad]at G ⊢;clear af ad gP Qd ai;go_upto_region 3 with(go_at_call 8;refine(Qj.o _ ).mono ?_;clear Qj;rintro e P ⟨uQ,rfl,gQ,aj⟩;obtain⟨aQ,H,z,rfl⟩:=gQ.form)
   have Qf:Bl P (P.alloc (C #[B aQ H z] 25)):=Ba P _;have l:=BI P 25 (B aQ H z);have M:=gQ.below Qf;have Q:=Bt aj Qf
   obtain⟨VQ,ah⟩:=ex (P.alloc (C #[B aQ H z] 25));rw[ah]at l M Q ⊢;obtain⟨BQ,ae⟩:=ex (P.heap.size);rw[ae]at l ⊢;clear ah ae gQ Qf aj;have Qg:=boxed_below G Q;have Qk:=L.below Q;have Ql:Bl w VQ:=Bt Qb Q;have A:=Qg.cell;have I:=l.cell;have k:=Ja (And.intro Qg (And.intro l (And.intro Qk M)));have HQ:=Ja Ql;clear G l L M Qg Qk Qb Q Ql;have hq:=BE VQ.heap.size VQ;go_upto_region 5 with(first
    |(go_at_call 30;refine(Qh.o _ _ (k.o.2.2.1.below hq)).mono ?_;clear Qh;rintro e v1 ⟨rfl,b⟩;have hq:=Bt hq b;clear b;clear A I;have A:=(boxed_below k.o.1 hq).cell;have I:=(boxed_below k.o.2.1 hq).cell)
    |(go_at_call 30;refine(Qn.o _ _ (k.o.2.2.2.below hq)).mono ?_;clear Qn;rintro e v2 ⟨rfl,b⟩;have hq:=Bt hq b;clear b;clear A I;have A:=(boxed_below k.o.1 hq).cell;have I:=(boxed_below k.o.2.1 hq).cell))
   go_upto_region 6 with(go_at_call 12;refine(KG.o _).mono ?_;clear KG;rintro e wX ⟨uX,rfl,gX,ce⟩;obtain⟨sX,aX,lX,cX,tX,bX,kX,dX,rfl⟩:=Jg.form gX)
   have Qx:Bl wX (wX.alloc (C #[.bool sX,B aX lX cX,.bool tX,B bX kX dX] 37)):=Ba wX _;have nX:=JL.new wX 37 (.bool sX) (B aX lX cX) (.bool tX) (B bX kX dX);have rX:=gX.below Qx;have Qs:=Bt ce Qx
   obtain⟨VX,bn⟩:=ex (wX.alloc (C #[.bool sX,B aX lX cX,.bool tX,B bX kX dX] 37));rw[bn]at nX rX Qs ⊢;obtain⟨BX,bj⟩:=ex (wX.heap.size);rw[bj]at nX ⊢;replace hq:=Bt hq Qs
   have G:=boxed_below k.o.1 hq;have l:=boxed_below k.o.2.1 hq;have L:=k.o.2.2.1.below hq;have M:=k.o.2.2.2.below hq;have hw:=Bt HQ.o hq;clear bn bj gX Qx ce Qs k HQ hq A I;have A:=G.cell;have I:=l.cell;go_upto_region 7 with(go_at_call 35;refine(GC.o _ _ _ L M).mono ?_;clear GC;rintro e wG ⟨uG,rfl,gG,bz⟩;obtain⟨aG,lG,cG,rfl⟩:=gG.form)
   have Qy:Bl wG (wG.alloc (C #[B aG lG cG] 25)):=Ba wG _;have nG:=BI wG 25 (B aG lG cG);have rG:=gG.below Qy;have Qi:=Bt bz Qy
   obtain⟨VG,bm⟩:=ex (wG.alloc (C #[B aG lG cG] 25));rw[bm]at nG rG Qi ⊢;obtain⟨BG,bi⟩:=ex (wG.heap.size);rw[bi]at nG ⊢;clear bm bi gG Qy bz;replace G:=boxed_below G Qi;replace l:=boxed_below l Qi;replace L:=L.below Qi;replace M:=M.below Qi;replace nX:=nX.below Qi;replace rX:=rX.below Qi;replace hw:=Bt hw Qi;clear Qi A I;have A:=G.cell;have I:=l.cell;go_upto_region 8 with(go_at_call 9;refine(TM.o _ _ _ L M).mono ?_;clear TM;rintro e wZ ⟨uZ,rfl,gZ,ci⟩;obtain⟨aZ,lZ,cZ,rfl⟩:=gZ.form)
   have Qr:Bl wZ (wZ.alloc (C #[B aZ lZ cZ] 25)):=Ba wZ _;have nZ:=BI wZ 25 (B aZ lZ cZ);have rZ:=gZ.below Qr;have Qe:=Bt ci Qr
   obtain⟨VZ,bt⟩:=ex (wZ.alloc (C #[B aZ lZ cZ] 25));rw[bt]at nZ rZ Qe ⊢;obtain⟨BZ,bk⟩:=ex (wZ.heap.size);rw[bk]at nZ ⊢;clear bt bk gZ Qr ci;replace G:=boxed_below G Qe;replace l:=boxed_below l Qe;replace nG:=boxed_below nG Qe;replace L:=L.below Qe;replace M:=M.below Qe;replace rG:=rG.below Qe;replace nX:=nX.below Qe;replace rX:=rX.below Qe;replace hw:=Bt hw Qe;clear Qe A I;have A:=nZ.cell;go_upto_region 9 with(go_at_call 36;refine(FE.o _ _ rZ).mono ?_;clear FE;rintro e wF ⟨uF,rfl,gF,bu⟩;obtain⟨aF,lF,cF,rfl⟩:=gF.form)
   have Ua:Bl wF (wF.alloc (C #[B aF lF cF] 25)):=Ba wF _;have nF:=BI wF 25 (B aF lF cF);have rF:=gF.below Ua;have Qc:=Bt bu Ua
   obtain⟨VF,bl⟩:=ex (wF.alloc (C #[B aF lF cF] 25));rw[bl]at nF rF Qc ⊢;obtain⟨BF,bh⟩:=ex (wF.heap.size);rw[bh]at nF ⊢;clear bl bh gF Ua bu;obtain⟨T,U,S,X,R,RP,RQ,RG⟩:=GN (boxed_below G Qc) (boxed_below l Qc) (boxed_below nG Qc) (boxed_below nZ Qc) nF (L.below Qc) (M.below Qc) (rG.below Qc);obtain⟨RZ,RF,W,RX,HW⟩:=GY (rZ.below Qc) rF (nX.below Qc) (rX.below Qc) (Bt hw Qc);clear G l nG nZ nF L M rG rZ rF nX rX hw Qc A;have hq:=(BE VF.heap.size VF).drew;have eP:=(boxed_below T.o hq).cell;have f:=(boxed_below U.o hq).cell;have d:=(boxed_below S.o hq).cell;have g:=(boxed_below X.o hq).cell;have c:=(boxed_below R.o hq).cell;obtain⟨x0,x1,i,j⟩:=(W.o.below hq).cq;go_region_held3 (λK=>K.cell? ⟨BP,0,none⟩=some (B aP F y)/\K.cell? ⟨BQ,0,none⟩=some (B aQ H z)/\K.cell? ⟨BG,0,none⟩=some (B aG lG cG)/\K.cell? ⟨BZ,0,none⟩=some (B aZ lZ cZ)/\K.cell? ⟨BF,0,none⟩=some (B aF lF cF)/\K.cell? ⟨BX,0,none⟩=some (.bool sX)/\K.cell? ⟨BX,1,none⟩=some (B aX lX cX)/\K.cell? ⟨BX,2,none⟩=some (.bool tX)/\K.cell? ⟨BX,3,none⟩=some (B bX kX dX)) (first|(with_reducible exact⟨eP,f,d,g,c,x0,x1,i,j⟩)|(go_keep;done))
    (first
     |(go_at_call 13;refine(AZ.o _ _ (RZ.o.below hq)).mono ?_;clear AZ;rintro e z1 ⟨rfl,b⟩;have hq:=Bt hq b;clear b;clear eP f d g c x0 x1 i j;have eP:=(boxed_below T.o hq).cell;have f:=(boxed_below U.o hq).cell;have d:=(boxed_below S.o hq).cell;have g:=(boxed_below X.o hq).cell;have c:=(boxed_below R.o hq).cell;obtain⟨x0,x1,i,j⟩:=(W.o.below hq).cq)
     |(go_at_call 13;refine(AP.o _ _ (RP.o.below hq)).mono ?_;clear AP;rintro e z2 ⟨rfl,b⟩;have hq:=Bt hq b;clear b;clear eP f d g c x0 x1 i j;have eP:=(boxed_below T.o hq).cell;have f:=(boxed_below U.o hq).cell;have d:=(boxed_below S.o hq).cell;have g:=(boxed_below X.o hq).cell;have c:=(boxed_below R.o hq).cell;obtain⟨x0,x1,i,j⟩:=(W.o.below hq).cq)
     |(go_at_call 13;refine(AQ.o _ _ (RQ.o.below hq)).mono ?_;clear AQ;rintro e z3 ⟨rfl,b⟩;have hq:=Bt hq b;clear b;clear eP f d g c x0 x1 i j;have eP:=(boxed_below T.o hq).cell;have f:=(boxed_below U.o hq).cell;have d:=(boxed_below S.o hq).cell;have g:=(boxed_below X.o hq).cell;have c:=(boxed_below R.o hq).cell;obtain⟨x0,x1,i,j⟩:=(W.o.below hq).cq)
     |(go_at_call 13;refine(AG.o _ _ (RG.o.below hq)).mono ?_;clear AG;rintro e z4 ⟨rfl,b⟩;have hq:=Bt hq b;clear b;clear eP f d g c x0 x1 i j;have eP:=(boxed_below T.o hq).cell;have f:=(boxed_below U.o hq).cell;have d:=(boxed_below S.o hq).cell;have g:=(boxed_below X.o hq).cell;have c:=(boxed_below R.o hq).cell;obtain⟨x0,x1,i,j⟩:=(W.o.below hq).cq)
     |(go_at_call 15;refine(am.o _ _ _ (RZ.o.below hq) (RX.o.below hq)).mono ?_;clear am;rintro e z5 ⟨rfl,b⟩;have hq:=Bt hq b;clear b;clear eP f d g c x0 x1 i j;have eP:=(boxed_below T.o hq).cell;have f:=(boxed_below U.o hq).cell;have d:=(boxed_below S.o hq).cell;have g:=(boxed_below X.o hq).cell;have c:=(boxed_below R.o hq).cell;obtain⟨x0,x1,i,j⟩:=(W.o.below hq).cq)
     |(go_at_call 15;refine(ap.o _ _ _ (RP.o.below hq) (RX.o.below hq)).mono ?_;clear ap;rintro e z6 ⟨rfl,b⟩;have hq:=Bt hq b;clear b;clear eP f d g c x0 x1 i j;have eP:=(boxed_below T.o hq).cell;have f:=(boxed_below U.o hq).cell;have d:=(boxed_below S.o hq).cell;have g:=(boxed_below X.o hq).cell;have c:=(boxed_below R.o hq).cell;obtain⟨x0,x1,i,j⟩:=(W.o.below hq).cq)
     |(go_at_call 15;refine(aq.o _ _ _ (RQ.o.below hq) (RX.o.below hq)).mono ?_;clear aq;rintro e z7 ⟨rfl,b⟩;have hq:=Bt hq b;clear b;clear eP f d g c x0 x1 i j;have eP:=(boxed_below T.o hq).cell;have f:=(boxed_below U.o hq).cell;have d:=(boxed_below S.o hq).cell;have g:=(boxed_below X.o hq).cell;have c:=(boxed_below R.o hq).cell;obtain⟨x0,x1,i,j⟩:=(W.o.below hq).cq)
     |(go_at_call 15;refine(an.o _ _ _ (RG.o.below hq) (RX.o.below hq)).mono ?_;clear an;rintro e z8 ⟨rfl,b⟩;have hq:=Bt hq b;clear b;clear eP f d g c x0 x1 i j;have eP:=(boxed_below T.o hq).cell;have f:=(boxed_below U.o hq).cell;have d:=(boxed_below S.o hq).cell;have g:=(boxed_below X.o hq).cell;have c:=(boxed_below R.o hq).cell;obtain⟨x0,x1,i,j⟩:=(W.o.below hq).cq))
   go_upto_region 11 with fail
   replace hq:=hq.drew;clear eP f d g c x0 x1 i j;have eP:=(boxed_below T.o hq).cell;have f:=(boxed_below U.o hq).cell;have d:=(boxed_below S.o hq).cell;have g:=(boxed_below X.o hq).cell;have c:=(boxed_below R.o hq).cell;obtain⟨x0,x1,i,j⟩:=(W.o.below hq).cq;go_region_held3 (λK=>K.cell? ⟨BP,0,none⟩=some (B aP F y)/\K.cell? ⟨BQ,0,none⟩=some (B aQ H z)/\K.cell? ⟨BG,0,none⟩=some (B aG lG cG)/\K.cell? ⟨BZ,0,none⟩=some (B aZ lZ cZ)/\K.cell? ⟨BF,0,none⟩=some (B aF lF cF)/\K.cell? ⟨BX,0,none⟩=some (.bool sX)/\K.cell? ⟨BX,1,none⟩=some (B aX lX cX)/\K.cell? ⟨BX,2,none⟩=some (.bool tX)/\K.cell? ⟨BX,3,none⟩=some (B bX kX dX)) (first|(with_reducible exact⟨eP,f,d,g,c,x0,x1,i,j⟩)|(go_keep;done))
    (first
     |(go_at_call 13;refine(AF.o _ _ (RF.o.below hq)).mono ?_;clear AF;rintro e cn ⟨rfl,b⟩;have hq:=Bt hq b;clear b;clear eP f d g c x0 x1 i j;have eP:=(boxed_below T.o hq).cell;have f:=(boxed_below U.o hq).cell;have d:=(boxed_below S.o hq).cell;have g:=(boxed_below X.o hq).cell;have c:=(boxed_below R.o hq).cell;obtain⟨x0,x1,i,j⟩:=(W.o.below hq).cq)
     |(go_at_call 13;refine(Ub.o _ _ (RZ.o.below hq)).mono ?_;clear Ub;rintro e co ⟨rfl,b⟩;have hq:=Bt hq b;clear b;clear eP f d g c x0 x1 i j;have eP:=(boxed_below T.o hq).cell;have f:=(boxed_below U.o hq).cell;have d:=(boxed_below S.o hq).cell;have g:=(boxed_below X.o hq).cell;have c:=(boxed_below R.o hq).cell;obtain⟨x0,x1,i,j⟩:=(W.o.below hq).cq)
     |(go_at_call 15;refine(ak.o _ _ _ (RF.o.below hq) (RX.o.below hq)).mono ?_;clear ak;rintro e ct ⟨rfl,b⟩;have hq:=Bt hq b;clear b;clear eP f d g c x0 x1 i j;have eP:=(boxed_below T.o hq).cell;have f:=(boxed_below U.o hq).cell;have d:=(boxed_below S.o hq).cell;have g:=(boxed_below X.o hq).cell;have c:=(boxed_below R.o hq).cell;obtain⟨x0,x1,i,j⟩:=(W.o.below hq).cq)
     |(go_at_call 15;refine(bg.o _ _ _ (RZ.o.below hq) (RX.o.below hq)).mono ?_;clear bg;rintro e da ⟨rfl,b⟩;have hq:=Bt hq b;clear b;clear eP f d g c x0 x1 i j;have eP:=(boxed_below T.o hq).cell;have f:=(boxed_below U.o hq).cell;have d:=(boxed_below S.o hq).cell;have g:=(boxed_below X.o hq).cell;have c:=(boxed_below R.o hq).cell;obtain⟨x0,x1,i,j⟩:=(W.o.below hq).cq)
     |(go_at_call 22;refine(AL.o _).mono ?_;clear AL;rintro e db ⟨rfl,b⟩;have hq:=Bt hq b;clear b;clear eP f d g c x0 x1 i j;have eP:=(boxed_below T.o hq).cell;have f:=(boxed_below U.o hq).cell;have d:=(boxed_below S.o hq).cell;have g:=(boxed_below X.o hq).cell;have c:=(boxed_below R.o hq).cell;obtain⟨x0,x1,i,j⟩:=(W.o.below hq).cq))
   go_wp2_with fail
   go_ret;exact⟨rfl,Bt HW.o hq⟩
end M3
