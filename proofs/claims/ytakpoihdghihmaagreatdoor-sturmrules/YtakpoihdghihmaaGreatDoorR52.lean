import Derived.Test.YtakpoihdghihmaaGreatDoorR49
import Derived.Test.YtakpoihdghihmaaGreatDoorR35
section
set_option maxRecDepth 100000
set_option maxHeartbeats 16000000
namespace Go.Proofs.YtakpoihdghihmaaGreatDoor
section
open Go.RowKit Go.Shelf
def Eb(p:List Rat):Int:=if p=[]then -1 else(DO (Eo (Jy p)):Int)-(DO (D4 (Jy p)):Int)
def Hh(p:List Rat)(x:Rat):Int:=if p=[]then -1 else(DO (Eo (Jy p)):Int)-(DO (JQ (Jy p) x):Int)
def FT(p:List Rat)(x y:Rat):Int:=if p=[]then -1 else if y<=x then 0 else(DO (JQ (Jy p) x):Int)-(DO (JQ (Jy p) y):Int)
structure CtOk(K X:Nat)(p:List Rat):Prop where
 ch:M3.ChOk K p (Jb p)
 fit:max p.length (Jb p).length*(Da K p (Jb p)+max p.length (Jb p).length*(Da K p (Jb p)+1)+1+X+1)+1+X<=1000000
variable{p:List Rat}{K X:Nat}
theorem CtOk.sr(h:CtOk K X p)(p0:p≠[]):M3.SrOk K p:=⟨h.ch,p0⟩
theorem CtOk.sl(h:CtOk K X p)(i:Nat):Sq (Gn p i):=by
 have a:=(show Cd K (Jb p)from h.ch.cq).smq i;unfold Jb at a;rw[Yf,Is]at a;exact Sq.of a h.ch.bd.2.1
theorem CtOk.row(h:CtOk K X p)(p0:p≠[]):∀y∈Jy p,DV y/\y≠[]/\y.length<=1000000/\∀x,DT X x->M3.Ki y x/\Sq (ev y x):=by
 intro y b;have l:=(K1 h.ch.tp p0 y b).2;obtain⟨g,_,r,e⟩:=(h.sr p0).last;rw[e]at b;obtain⟨a,q,rfl⟩:=C1.1 b;obtain⟨ta,ca,la,m⟩:=(h.sr p0).mem a q;obtain⟨s,c,z,o⟩:=(h.sr p0).mem g r;have j:=h.fit;obtain⟨n,f⟩:=ex (max p.length (Jb p).length);obtain⟨A,d⟩:=ex (Da K p (Jb p));rw[f,d]at j;rw[f]at la;rw[d]at ca c;have c1:=ca.quoG c s o;have t:a.length*(A+1)<=n*(A+1):=Ak _ la;have c2:Cd (A+n*(A+1)+1) (Jp a g):=c1.mono Y;have l1:(Jp a g).length<=a.length:=by
  unfold Jp;refine An (YS _) ?_;rw[(YT _ _ _ _ _).1];omega
 have k:0<n:=by have:=Ag.2 m;omega
 have u:1*(A+n*(A+1)+1+X+1)<=n*(A+n*(A+1)+1+X+1):=Ak _ k;have v:(Jp a g).length*(A+n*(A+1)+1+X+1)<=n*(A+n*(A+1)+1+X+1):=Ak _ Y;have w:n*1<=n*(A+n*(A+1)+1+X+1):=Aq _ Y;refine⟨c2.sqs Y,l,Y,λx i=>⟨ef i c2.smq Y,Sq.of (R8 i _ c2.smq) Y⟩⟩
namespace M3
attribute [local go_sem] Oper.semAt_some
variable{p:List Rat}{K X:Nat}
theorem SA(e:CtOk K X p)(p0:p≠[])(w:World):Tells 47 #[] w (Jy p) Hb where
 plc:=λW v y _ d f=>by
  obtain⟨a,b,c,_⟩:=e.row p0 y f;have:=Zn v y W d a b c;simpa using this
 ent:=Bg Tryz.func47 (by kernel_rfl) rfl
 sg:=λy _=>by
  have:=Kk (cf y (y.length-1));unfold Hb Ej;split<;>omega
theorem fB(d:CtOk K X p)(p0:p≠[])(w:World):Tells 48 #[] w (Jy p) Ej where
 plc:=λW v y _ c e=>by
  obtain⟨a,b,f,_⟩:=d.row p0 y e;have:=QV v y W c a b;simpa using this
 ent:=Bg Tryz.func48 (by kernel_rfl) rfl
 sg:=λy _=>Kk _
theorem Oc(i:CtOk K X p)(p0:p≠[])(w:World){B:Nat}{s t:Bool}{a b:Option Addr}{l c k d:Nat}{x:Rat}(e:DT X x)(n:JL w B 37 (.bool s) (.slice a l c) (.bool t) (.slice b k d))(q:Jh w (.agg #[.bool s,.slice a l c,.bool t,.slice b k d]) x):Tells 112 #[.pointer (some ⟨B,0,none⟩)] w (Jy p) (λy=>Dl (ev y x)) where
 plc:=λW v y g o r=>by
  obtain⟨j,u,z,f⟩:=i.row p0 y r;have m:X<=1000000:=by have:=i.fit;omega
  have:=Zo v y x B s t a b l c k d W o (n.below g) (q.below g) j (Sq.of e m) (f x e).1 (f x e).2;simpa using this
 ent:=Bg Tryz.func112 (by kernel_rfl) rfl
 sg:=λy _=>Kk _
theorem SB(tp:Jd p=p)(p0:p≠[]):GC ((Jy p).map Hb)=DO (Eo (Jy p)):=by
 rw[er _ λy a=>(K1 tp p0 y a).2,Li]
theorem fC(l:List (List Rat)):GC (l.map Ej)=DO (D4 l):=by rw[eh,Li]
theorem Od(l:List (List Rat))(x:Rat):GC (l.map λy=>Dl (ev y x))=DO (JQ l x):=by
 rw[<-Li];unfold JQ;rw[List.map_map];rfl
theorem Oe(v:Value)(w:World)(h:Je w v [])(f f2:Value):
 Calls Tryz.prog 46 #[v,f,f2] w λe j=>e=.returned (.int .i64 (-1))/\Bl w j:=by
 obtain⟨g,la,i,rfl⟩:=h.form;have b:Bl w (w.alloc (.cells #[.slice g la i] 25)):=Ba w _;have a:=Ja (JX _ [] _ (h.below b));rw[show(([]:List Rat).length:Int)-1=-1 from rfl]at a;have c:=Ja b;clear h b;go_enter Tryz.func46,Tryz.ntmps46
 go_wp2_with(go_at_call 30;refine a.o.mono ?_;clear a;rintro e k ⟨rfl,d⟩)
 go_ret;exact⟨rfl,Bt c.o d⟩
theorem MP(K X:Nat)(v:Value)(p:List Rat)(w:World)(h:Je w v p)(a:CtOk K X p):
 Calls Tryz.prog 13 #[v] w λe g=>e=.returned (.int .i64 (Eb p))/\Bl w g:=by
 obtain⟨b,la,c,rfl⟩:=h.form;have d:Bl w (w.alloc (.cells #[.slice b la c] 25)):=Ba w _;have f:=Ja (show Calls Tryz.prog 46 #[.agg #[.slice b la c],.func (.func 47) #[] #[],.func (.func 48) #[] #[]] (w.alloc (.cells #[.slice b la c] 25)) λe g=>e=.returned (.int .i64 (Eb p))/\Below (w.alloc (.cells #[.slice b la c] 25)).heap.size (w.alloc (.cells #[.slice b la c] 25)) g by
  unfold Eb;by_cases p0:p=[]
  . rw[BC p0];rw[p0]at h;exact Oe _ _ (h.below d) _ _
  . rw[BB p0];have i:=Ob K _ p _ (h.below d) (a.sr p0) a.sl (SA a p0 _) (fB a p0 _);rw[SB a.ch.tp p0,fC]at i;exact i)
 have k:=Ja d;obtain⟨n,j⟩:=ex (Eb p);rw[j]at f ⊢;clear h a d j;go_enter Tryz.func13,Tryz.ntmps13
 go_wp2_with(go_at_call 46;refine f.o.mono ?_;clear f;rintro e m ⟨rfl,l⟩)
 go_ret;exact⟨rfl,Bt k.o l⟩
end M3
end
section
variable{a b p u v w:List Rat}{B:Rat}
theorem fD(p:List Rat)(a:0<=B):∃K,0<K/\∀x y,Wi B x->Wi B y->x<=y->Wi (K*((y-x)*(y-x))) (ev p y-ev p x-(y-x)*dv p x):=by
 induction p with
 |nil=>exact⟨1,DF,λx y _ _ _=>by
  have:=Eh (y-x);constructor<;>simp[ev,dv]<;>grind⟩
 |cons c t m=>
  obtain⟨K,j,h⟩:=m;obtain⟨D,hD,k⟩:=Xr (Jb t) a;refine⟨B*K+D+1,by have:=Rat.mul_nonneg a (Rat.le_of_lt j);grind,λx y d f l=>?_⟩;have n:=Eh (y-x);have g:Wi ((y-x)*(y-x)) ((y-x)*(y-x)):=⟨by grind,by grind⟩;have b:=k x d;rw[Xk]at b;have i:=(f.mul (h x y d f l)).add (g.mul b);have e:ev (c::t) y-ev (c::t) x-(y-x)*dv (c::t) x=y*(ev t y-ev t x-(y-x)*dv t x)+(y-x)*(y-x)*dv t x:=by
   rw[Hl,Hl,show dv (c::t) x=ev t x+x*dv t x from rfl];grind
  rw[e];refine i.mono ?_;grind
def JS(p:List Rat)(x y:Rat):Nat:=if ev p x≠0/\ev p x*ev p y<=0 then 1 else 0
theorem YJ{x y:Rat}(h:DU p x y):JS p x y=0:=by
 unfold JS DU at *;rw[BB λq=>by have:=q.2;grind]
theorem Of{R y:List Rat}(h:Yun R w y)(f:0<=B):Sh B λx z=>¬DU w x z->x<z->0<ev (Jb w) x*(ev w z-ev w x):=by
 obtain⟨k,g,s⟩:=MC _ _ _ _ (Aa _) h f;obtain⟨c,n,F⟩:=Xr y f;obtain⟨D,P,hD⟩:=Xr (Jb w) f;obtain⟨K,Q,E⟩:=fD w f;obtain⟨e,o,G⟩:=small (K:=(c*c)*(D*K)) (r:=k*k/2) (Rat.le_of_lt (Rat.mul_pos (Rat.mul_pos n n) (Rat.mul_pos P Q))) (by have:=Rat.mul_pos g g;grind);have S:Sh B λx z=>z-x<=e:=⟨e,o,λ_ _ _ _ _ h=>h⟩;refine(s.and S).mono λx z j M L ⟨p,l⟩ H X=>?_;obtain⟨T,_⟩:=p H;have i:=E x z j M L;rw[<-Xk]at i;have A:=F x j;have C:=hD x j;generalize ev (Jb w) x=d at *;generalize ev y x=v at *;generalize ev w z-ev w x=t at *;obtain⟨u,I⟩:=ex (z-x);rw[I]at l i;have u0:0<u:=by grind
 have U:k*k<=(c*c)*(d*d):=by
  have m:=Rat.mul_nonneg (a:=v*d-k) (b:=v*d+k) (by grind) (by grind);have N:=Rat.mul_nonneg (a:=c*c-v*v) (b:=d*d) (by have:=Mi A;grind) (Eh d);grind
 have V:u*(d*d)-(D*K)*(u*u)<=d*t:=by
  have m:=(C.mul i).1;grind
 have W:=G u l;have hp:0<(c*c)*(d*t):=by
  have m:=Rat.mul_nonneg (a:=c*c) (b:=d*t-(u*(d*d)-(D*K)*(u*u))) (Eh c) (by grind);have N:=Rat.mul_nonneg (a:=u) (b:=(c*c)*(d*d)-k*k) (by grind) (by grind);have i3:=Rat.mul_nonneg (a:=u) (b:=k*k/2-(c*c)*(D*K)*u) (by grind) (by grind);have i4:=Rat.mul_pos u0 (Rat.mul_pos g g);grind
 rcases J9 (d*t) 0 with q|q
 . have:=Rat.mul_nonneg (a:=c*c) (b:=-(d*t)) (Eh c) (by grind);grind
 . rcases Rat.le_iff_lt_or_eq.1 q with q|q
   . exact q
   . rw[<-q]at hp;grind
theorem XI{a b:Rat}(h:0<(a*a)*b):0<b:=by
 rcases J9 b 0 with q|q
 . have:=Rat.mul_nonneg (a:=a*a) (b:=-b) (Eh a) (by grind);grind
 . rcases Rat.le_iff_lt_or_eq.1 q with q|q
   . exact q
   . rw[<-q]at h;grind
theorem fE{a b u v:Rat}(c:0<a*(v-u))(i:0<b*(v-u))(e:u*v<=0):
 (if u*a<0 then 1 else 0)=(if v*b<0 then 1 else 0)+(if u≠0/\u*v<=0 then 1 else 0:Nat):=by
 by_cases u0:u=0
 . subst u0;rw[BB (by grind),BB (by grind),BB O]
 . have f:u*a<0:=by
    rcases J9 0 (u*a)with q|q
    . exfalso
      have d:=(Jv c).1;have q:0<u*a:=by
       rcases Rat.le_iff_lt_or_eq.1 q with q|q
       . exact q
       . rcases AM.1 q.symm with q|q
         . exact absurd q u0
         . exact absurd q d
      have:=Rat.mul_pos q (show 0<v*a by grind);have:=XI (a:=a) (b:=u*v) (by grind);grind
    . rcases Rat.le_iff_lt_or_eq.1 q with q|q
      . exact q
      . rcases AM.1 q with q|q
        . exact absurd q u0
        . exact absurd q (Jv c).1
   have g:¬v*b<0:=λq=>by
    have:=Rat.mul_pos (a:=-(v*b)) (b:=-(u*b)) (by grind) (by grind);have:=XI (a:=b) (b:=u*v) (by grind);grind
   rw[BC f,BB g,BC ⟨u0,e⟩]
theorem fF{f1:List Rat}{n:Nat}{d:List (List Rat)}(a:FS n w b=w::f1::d):b≠[]/\f1=Yr b:=by
 cases n with
 |zero=>
  have c:[w]=w::f1::d:=a;exact absurd (List.cons.inj c).2 O
 |succ n=>
  by_cases w0:b=[]
  . rw[FS,BC w0]at a;exact absurd (List.cons.inj a).2 O
  . rw[FS,BB w0]at a;have c:=(List.cons.inj a).2;obtain⟨t,e⟩:=K0 n (Yr b) (DP (-1) (JM w (Yr b)));rw[e]at c;exact⟨w0,(List.cons.inj c).1.symm⟩
theorem fG{p:List Rat}(tp:Jd p=p)(p0:p≠[]){B:Rat}(j:0<=B):Sh B λx z=>DO (JQ (GZ p) x)=DO (JQ (GZ p) z)+JS (DK p) x z:=by
 have d:Yun (Jq p) (DK p) (Dg p):=Yun.start (YF p) (KG tp p0) (Hy tp);have n:=MI _ _ _ _ (Aa _) d;have l:=R7 _ (DK p) (Jb (DK p)) (Aa _) d.tw (Jr _) n;refine((l.gd j).and (Of d j)).mono λx z _ _ A ⟨b,y⟩=>?_;show DO (JQ (GZ p) x)=DO (JQ (GZ p) z)+JS (DK p) x z;obtain⟨m,f⟩:=K0 (Jb (DK p)).length (DK p) (Jb (DK p));unfold GZ;rw[f]at b ⊢;by_cases st:DU (DK p) x z
 . rw[YJ st,b.stay st];rfl
 . cases m with
   |nil=>cases b with|one h=>exact absurd h st
   |cons f1 D=>
    obtain⟨w0,k⟩:=fF f;have o:=OZ (Jr (DK p)) w0;obtain⟨c,e⟩:∃c,1/Xw (cf (Jb (DK p)) ((Jb (DK p)).length-1))=c:=⟨_,rfl⟩;rw[e]at o;have t:ev f1 x=ev (Jb (DK p)) x*c:=by rw[k,<-e];exact JJ _ _ _
    have g:=(b.adj).resolve_left st;obtain⟨E,F⟩:=Jv g;have sm:=b.tail.same _ D f1 (Aa _) g;rw[JK,JK,JK,JK,II E,II F,sm];clear sm f l n d b k e w0;have r:ev (DK p) x*ev (DK p) z<=0:=Rat.not_lt.1 st;rcases Rat.le_iff_lt_or_eq.1 A with w|v
    . have i:0<ev f1 x*(ev (DK p) z-ev (DK p) x):=by
       rw[t];have:=Rat.mul_pos (y st w) o;grind
      have s:0<ev f1 z*(ev (DK p) z-ev (DK p) x):=XI (a:=ev f1 x) (by
       have:=Rat.mul_pos (show 0<ev f1 x*ev f1 z from g) i;grind)
      have:=fE i s r;unfold JS;rw[this];omega
    . subst v;have u0:ev (DK p) x=0:=by
       have u:=Eh (ev (DK p) x);rcases AM.1 (Rat.le_antisymm r u)with q|q<;>exact q
      have C:JS (DK p) x x=0:=by
       unfold JS;exact BB λq=>q.1 u0
      rw[C];omega
theorem Og(h:DW u v)(i:0<=B):Sh B λx z=>JS (Js u v) x z=JS u x z+JS v x z:=by
 obtain⟨s,t,w⟩:=h;obtain⟨S,k,o⟩:=Xr s i;obtain⟨T,l,p⟩:=Xr t i;have d:∀ {r K:Rat},0<K->K*(r/K)=r:=λC=>by rw[Ck,Ap (by grind)]
 refine((Gc u i (YA Ge k)).and (Gc v i (YA Ge l))).mono λx z j _ _ ⟨m,n⟩=>?_;have e:∀y,ev (Js u v) y=ev u y*ev v y:=λy=>Jg _ _ _;by_cases g:DU u x z
 . by_cases c:DU v x z
   . have:DU (Js u v) x z:=by
      unfold DU at *;rw[e,e];have:=Rat.mul_pos g c;grind
     rw[YJ this,YJ g,YJ c]
   . rw[YJ g,AY];unfold JS DU at *;rw[e,e];obtain⟨u1,u2⟩:=Jv g;by_cases q:ev v x≠0/\ev v x*ev v z<=0
     . rw[BC q,BC ⟨λf=>by rcases AM.1 f with f|f;exact u1 f;exact q.1 f,by have:=Rat.mul_nonneg (a:=ev u x*ev u z) (b:=-(ev v x*ev v z)) (by grind) (by grind);grind⟩]
     . rw[BB q,BB];rintro⟨f1,f2⟩;refine q ⟨λf=>f1 (by rw[f];grind),?_⟩;exact Rat.not_lt.1 c
 . have c:DU v x z:=Classical.byContradiction λc=>by
    have D:=K7 (w x) (o x j) (m g).1 (by rw[d k];exact Rat.le_refl);have A:=((p x j).mul (n c).1).2;rw[d l]at A;grind
   rw[YJ c,Cj];unfold JS DU at *;rw[e,e];obtain⟨u1,u2⟩:=Jv c;by_cases q:ev u x≠0/\ev u x*ev u z<=0
   . rw[BC q,BC ⟨λf=>by rcases AM.1 f with f|f;exact q.1 f;exact u1 f,by have:=Rat.mul_nonneg (a:=ev v x*ev v z) (b:=-(ev u x*ev u z)) (by grind) (by grind);grind⟩]
   . rw[BB q,BB];rintro⟨f1,f2⟩;refine q ⟨λf=>f1 (by rw[f];grind),?_⟩;exact Rat.not_lt.1 g
theorem DW.of_unit(h:Dv a [1])(c:List Rat):DW a c:=by
 obtain⟨d,b⟩:=h;refine⟨d,[],λx=>?_⟩;have:=b x;rw[Jo]at this;simp[ev];grind
theorem DW.mul_left{c:List Rat}(h:DW a c)(d:DW b c):DW (Js a b) c:=(h.symm.mul d.symm).symm
theorem SC:∀(n:Nat) (R w y:List Rat),R.length<=n->Yun R w y->∀c,DW w c->DW R c:=by
 intro n;induction n with
 |zero=>intro R w y k h;exact absurd (Az.1 Y) h.R0
 |succ n l=>
  intro R w y k h c e;by_cases hl:w.length<=1
  . obtain⟨d,j⟩:=Il h.tw h.w0 hl;refine DW.of_unit (KK h.tR h.R0 ⟨Js d y,λx=>?_⟩) c;have o:=h.eq x;have a:=j x;rw[Jo]at a;rw[Jg];have:ev (Jb R) x=(ev w x*ev d x)*ev (Jb R) x:=by rw[<-a,Co]
    rw[this];grind
  . obtain⟨_,_,a,b,_,g⟩:=h.step;have m:(Jp R w).length<=n:=by
     have:=JA h.tw a.tR h.w0 a.R0;rw[<-b]at this;omega
    have f:Dv (Jp w (Jz w (JD y (Jb w)))) w:=⟨Jz w (JD y (Jb w)),λx=>by
     have:=Jg (Jz w (JD y (Jb w))) (Jp w (Jz w (JD y (Jb w)))) x;rw[<-g]at this;rw[this];grind⟩
    have i:=l _ _ _ m a c (e.of_dv f);rw[b];exact e.mul_left i
def FU(u:List Rat):Prop:=DW u (Jb u)
theorem FU.parts(h:FU (Js a b)):DW a b:=by
 obtain⟨u,v,e⟩:=h;refine⟨XM (Js u b) (Js v (Jb b)),Js v (Jb a),λx=>?_⟩;have c:=e x;have d:=Yp a b x;rw[Jg]at c;rw[d]at c;rw[YL,Jg,Jg,Jg];grind
theorem FU.dv(j:Jd u=u)(l:Jd v=v)(M:v≠[])(K:FU v)(h:∀c,DW u c->DW v c):Dv v u:=by
 have n:=Xo j l (Or.inr M);have z:=Yj u v;obtain⟨o,p,s,t,w⟩:=Y5 j l;obtain⟨d,I⟩:=ex (Jz u v);rw[I]at n z o p w;have f:=(JO z n p).2;obtain⟨e,y⟩:=ex (Jp v d);rw[y]at f;have E:v=Js d e:=Xt l (J2 _ _) λx=>by rw[Jg,f]
 have C:DW d e:=FU.parts (by rw[<-E];exact K);have D:DW u e:=by
  obtain⟨a,b,H⟩:=C;have L:Jd e=e:=by rw[<-y];exact YW _ _
  obtain⟨f1,f2,m,k,f3⟩:=Y5 j L;have F:Dv (Jz u e) d:=f1.comb (f2.mul' d) s t λx=>by
   rw[w,Jg,f]
  have G:Dv (Jz u e) [1]:=F.comb f2 a b λx=>by rw[Jo,H]
  obtain⟨r,i⟩:=G;refine⟨Js r m,Js r k,λx=>?_⟩;have g:=i x;rw[Jo,f3]at g;rw[Jg,Jg];grind
 have A:=h e D;have B:DW e e:=A.of_dv ⟨d,λx=>by rw[f];grind⟩;obtain⟨r,i⟩:=B.unit (Dv.refl e);obtain⟨q,hq⟩:=o;refine⟨Js r q,λx=>?_⟩;have g:=i x;rw[Jo]at g;rw[Jg,hq,f];have:ev d x*ev q x=ev d x*ev q x*(ev e x*ev r x):=by rw[<-g,Rat.mul_one]
 rw[this];grind
theorem Xq(tp:Jd p=p)(p0:p≠[]):Yun (Jq p) (DK p) (Dg p):=Yun.start (YF p) (KG tp p0) (Hy tp)
theorem Oh(tp:Jd p=p)(p0:p≠[]):FU (DK p):=MI _ _ _ _ (Aa _) (Xq tp p0)
theorem Oi(tp:Jd p=p)(p0:p≠[]):Dv (Jq p) p/\Dv p (Jq p):=by
 obtain⟨c,b⟩:=Im tp p0;have a:Dv (Jq p) p:=⟨[cf p (p.length-1)],λx=>by
  conv=>lhs;rw[b]
  rw[JJ,Jo]⟩
 exact⟨a,⟨[1/cf p (p.length-1)],λx=>by rw[MA,Jo]⟩⟩
theorem MQ(tp:Jd p=p)(p0:p≠[]):Dv (DK p) p:=(Xq tp p0).dv.trans (Oi tp p0).1
theorem SF(tp:Jd p=p)(p0:p≠[])(c:List Rat):DW (DK p) c↔DW p c:=by
 constructor
 . intro h;exact(SC _ _ _ _ (Aa _) (Xq tp p0) c h).of_dv (Oi tp p0).2
 . intro h;exact h.of_dv (MQ tp p0)
theorem MR(l:List Rat):∀a,YB a l<=l.length:=by
 induction l with
 |nil=>intro a;exact Aa _
 |cons b l c=>
  intro a;have d:=c a;have e:=c b;unfold YB;rw[Ah];split
  . omega
  . split<;>omega
theorem Oj(l:List Rat):DO l<=l.length-1:=by
 cases l with
 |nil=>exact Aa _
 |cons a l=>
  have c:=MR l a;have d:=MR l 0;unfold DO YB;rw[Ah,A2,BB (show ¬(0:Rat)<0 by decide)];split
  . induction l generalizing a with
    |nil=>exact Aa _
    |cons b l g=>
     have e:=MR l b;have f:=MR l 0;unfold YB;rw[Ah,A2,BB (show ¬(0:Rat)<0 by decide)];split<;>omega
  . omega
theorem fH:∀(n:Nat) (a b:List Rat),b.length<=n->Jd b=b->(Ec a b).length<=b.length+1:=by
 intro n;induction n with
 |zero=>
  intro a b c _;have:b=[]:=Az.1 Y;subst this;exact Aa _
 |succ n d=>
  intro a b c tb;by_cases b0:b=[]
  . subst b0;exact Aa _
  . have hl:=Y0 (a:=a) tb b0;have:=d b (YQ a b) Y (Hz _ _);rw[XG tb b0,Ah];omega
theorem MS(p0:p≠[]):(Jy p).length<=p.length:=by
 unfold Jy X3;rw[CQ];have a:=fH _ (JI p) (JI (Jb p)) (Aa _) (Yk _);rw[J4 (Jr p)]at a;have:=Y9 p0;omega
theorem fI(tw:Jd w=w)(w0:w≠[])(mw:Jq w=w)(h:FU w):DK w=w:=by
 have y:=Xq tw w0;have d1:Dv (DK w) w:=MQ tw w0;have a:Dv w (DK w):=FU.dv y.tw tw w0 h λc b=>(SF tw w0 c).1 b;exact Dv.eq y.tw tw y.mw mw d1 a
end
namespace M3
open Go.RowKit Go.Shelf
attribute [local go_sem] Oper.semAt_some
end M3
section
open Go.RowKit Go.Shelf
structure Shn(f s:List Rat)(A M:Nat)(a b:List Rat):Prop where
 ta:Jd a=a
 tb:Jd b=b
 ca:Cd (A+1) a
 cb:Cd M b
 lb:Ln A b
 la:a.length<=f.length
 ll:b.length<=f.length
 eu:Eu f (Yr s) a (Yr b)
structure RwOk(J K:Nat)(p:List Rat):Prop where
 fr:M3.FrOk J p
 p0:p≠[]
 cf:Cd K (DK p)
 cs:Cd K (Jb (DK p))
 ln:(DK p).length<=1000
 fit:4*(((DK p).length+3)*(Da K (DK p) (Jb (DK p))+2))<=1000000
section
variable {J K:Nat} {p a b:List Rat}
end
end
namespace M3
open Go.RowKit Go.Shelf
attribute [local go_sem] Oper.semAt_some
end M3
namespace M3
open Go.RowKit Go.Shelf
attribute [local go_sem] Oper.semAt_some
end M3
end Go.Proofs.YtakpoihdghihmaaGreatDoor
end
section
open Go.Value renaming slice->C,bool->D
open Go.Obj renaming cells->E
open Go.Proofs.Tryz renaming prog->F
open Go renaming World->G
set_option maxRecDepth 100000
set_option maxHeartbeats 16000000
namespace Go.Proofs.YtakpoihdghihmaaGreatDoor
theorem fJ{p q:Rat}:0<=Ev p q↔q<=p:=by
 rw[Rat.le_iff];unfold Ev EA;split<;>(try split)<;>omega
namespace M3
open Go.RowKit Go.Shelf
attribute [local go_sem] Oper.semAt_some
theorem SG(K X:Nat)(v vx:Value)(p:List Rat)(x:Rat)(w:G)(h:Je w v p)(M:Jh w vx x)(g:CtOk K X p)(S:DT X x):
 Calls F 15 #[v,vx] w λe f=>e=.returned (.int .i64 (Hh p x))/\Bl w f:=by
 obtain⟨i,la,j,rfl⟩:=h.form;obtain⟨s,a,l,c,t,b,k,d,rfl⟩:=Jh.form M;have o:Bl w ((w.alloc (E #[C i la j] 25)).alloc (E #[D s,C a l c,D t,C b k d] 37)):=(Ba w _).alloc (by rw[Ax];omega) _;have z:=(BG w 25 (C i la j)).alloc (E #[D s,C a l c,D t,C b k d] 37);have q:=JL.new (w.alloc (E #[C i la j] 25)) 37 (D s) (C a l c) (D t) (C b k d);rw[Ax]at q;obtain⟨W0,L⟩:=ex ((w.alloc (E #[C i la j] 25)).alloc (E #[D s,C a l c,D t,C b k d] 37));rw[L]at o z q;obtain⟨P,R,N,HA⟩:=Dt L z q o;have m:=z.cell;obtain⟨x0,x1,r,u⟩:=q.cq;have Q:=Ja λ(V:G) (I:Bl W0 V)=>Nr _ x V ((M.below o).below I);have A:=Ja (λ(V:G) (I:Bl W0 V) (B:Nat) (s t:Bool) (a b:Option Addr) (l c k d:Nat) (y:JL V B 37 (D s) (C a l c) (D t) (C b k d)) (h2:Jh V (.agg #[D s,C a l c,D t,C b k d]) x)=>show Calls F 46 #[.agg #[C i la j],.func (.func 47) #[] #[],.func (.func 112) #[] #[.pointer (some ⟨B,0,none⟩)]] V λe f=>e=.returned (.int .i64 (Hh p x))/\Bl V f by
  have H:=(h.below o).below I;unfold Hh;by_cases p0:p=[]
  . rw[BC p0];rw[p0]at H;exact Oe _ _ H _ _
  . rw[BB p0];have y:=Ob K _ p _ H (g.sr p0) g.sl (SA g p0 _) (Oc g p0 V S y h2);rw[SB g.ch.tp p0,Od]at y;exact y)
 obtain⟨n,T⟩:=ex (Hh p x);rw[T]at A ⊢;clear h M g S o z q L T;go_enter Tryz.func15,Tryz.ntmps15
 go_upto_region 1 with fail
 rw[P.o];clear P;have hq:Bl W0 W0.drew:=(BF _ W0).drew;go_region_held3 (λf=>f.cell? ⟨w.heap.size,0,none⟩=some (C i la j)/\f.cell? ⟨w.heap.size+1,0,none⟩=some (D s)/\f.cell? ⟨w.heap.size+1,1,none⟩=some (C a l c)/\f.cell? ⟨w.heap.size+1,2,none⟩=some (D t)/\f.cell? ⟨w.heap.size+1,3,none⟩=some (C b k d)) (first|(with_reducible exact⟨m,x0,x1,r,u⟩)|(go_keep;done))
  (first
   |(go_at_call 51;refine(Q.o _ hq).mono ?_;clear Q;rintro e w5 ⟨B5,s5,t5,a5,b5,l5,c5,k5,d5,rfl,U,W,ad⟩;have hq:=Bt hq ad;clear m x0 x1 r u;have m:=(boxed_below R.o hq).cell;obtain⟨x0,x1,r,u⟩:=(N.o.below hq).cq)
   |(go_at_call 46;refine(A.o _ hq _ _ _ _ _ _ _ _ _ U W).mono ?_;clear A U W;rintro e w6 ⟨rfl,ae⟩;have hq:=Bt hq ae;clear m x0 x1 r u;have m:=(boxed_below R.o hq).cell;obtain⟨x0,x1,r,u⟩:=(N.o.below hq).cq))
 go_wp2_with fail
 go_ret;exact⟨rfl,Bt HA.o hq⟩
theorem fK(v:Value)(p:List Rat)(w:G)(h:Je w v p):
 Calls F 56 #[v] w λe d=>∃B a l c,e=.returned (.func (.func 117) #[] #[.pointer (some ⟨B,0,none⟩)])/\Boxed d B 25 (C a l c)/\Je d (.agg #[C a l c]) p/\Bl w d:=by
 obtain⟨f,la,g,rfl⟩:=h.form;have b:Bl w (w.alloc (E #[C f la g] 25)):=Ba w _;have j:=Ja (h.below b);have i:=Ja b;clear h b;go_enter Tryz.func56,Tryz.ntmps56
 go_wp2_with fail
 go_ret;exact⟨_,f,la,g,rfl,BG w _ _,j.o,i.o⟩
theorem SH(v:Value)(p:List Rat)(w:G)(h:Je w v p)(f:DV p)(hl:p.length<=1000000):
 Calls F 18 #[v] w λe r=>e=.returned (.int .i64 (DO p.reverse:Int))/\Bl w r:=by
 obtain⟨S,la,T,rfl⟩:=h.form;have k:Bl w (w.alloc (E #[C S la T] 25)):=Ba w _;have t:=Ja (fK _ p _ (h.below k));have j:=Ja (λ(V:G) (B Bu b:Nat) (a:Option Addr) (l c:Nat) (z:Boxed V B 25 (C a l c)) (A:Je V (.agg #[C a l c]) p) (H:Boxed V Bu 96 (.func (.func 117) #[] #[.pointer (some ⟨B,0,none⟩)])) (I:Boxed V b 61 (.func (.func 57) #[] #[]))=>show Calls F 54 #[.func (.func 116) #[] #[.pointer (some ⟨Bu,0,none⟩),.pointer (some ⟨b,0,none⟩)]] V λe r=>e=.returned (.int .i64 (DO p.reverse:Int))/\Bl V r by
  have u:=QU V (p.reverse.map Dl) (Zm V p.reverse Dl Bu b (ec V p B a l c z A hl) (Bg Tryz.func117 (by kernel_rfl) rfl) (Bg Tryz.func57 (by kernel_rfl) rfl) H I (λW v x _ P R=>by
   have K:Sq x:=by
    obtain⟨i,Q,rfl⟩:=FL.1 (List.mem_reverse.1 R);have:=f.at i;rw[cf]at this;simpa[List.getD,Q]using this
   have:=Nq v x W P K;simpa using this)) (Bg Tryz.func116 (by kernel_rfl) rfl) (λs f=>by obtain⟨x,_,rfl⟩:=C1.1 f;exact Kk x) (by rw[CQ,List.length_reverse];exact hl)
  rw[Li]at u;exact u)
 have g:=Ja k;obtain⟨n,y⟩:=ex (DO p.reverse);rw[y]at j ⊢;clear h f hl k y;go_enter Tryz.func18,Tryz.ntmps18
 go_wp2_with(first
  |(go_at_call 56;refine t.o.mono ?_;clear t;rintro e w5 ⟨B5,U,l5,X,rfl,o,q,m⟩)
  |(go_at_call 55;refine(fA _ _ _ _ _).mono ?_;rintro e w6 ⟨Bu,b,rfl,N,M,d⟩;have o:=boxed_below o d;have q:=q.below d)
  |(go_at_call 54;refine(j.o _ _ _ _ _ _ _ o q N M).mono ?_;clear j;rintro e w7 ⟨rfl,L⟩))
 go_ret;exact⟨rfl,((Bt g.o m).trans (d.mono (An g.o.size m.size))).trans (L.mono (An (An g.o.size m.size) d.size))⟩
end M3
section
open Go.RowKit Go.Shelf
structure RtOk(J K X:Nat)(p:List Rat):Prop where
 rw:RwOk J K p
 fit:(DK p).length*(Da K (DK p) (Jb (DK p))+1+X+1)+1+X<=1000000
namespace M3
attribute [local go_sem] Oper.semAt_some
end M3
end
namespace M3
open Go.RowKit Go.Shelf
attribute [local go_sem] Oper.semAt_some
theorem SI(K X:Nat)(v vx vy:Value)(p:List Rat)(x y:Rat)(w:G)(h:Je w v p)(hx:Jh w vx x)(hy:Jh w vy y)(af:CtOk K X p)(hX:DT X x)(hY:DT X y):
 Calls F 20 #[v,vx,vy] w λe u=>e=.returned (.int .i64 (FT p x y))/\Bl w u:=by
 obtain⟨I,la,L,rfl⟩:=h.form;obtain⟨s,a,l,c,t,b,k,d,rfl⟩:=Jh.form hx;obtain⟨W,a',l',c',t',P,S,Q,rfl⟩:=Jh.form hy;have Qm:Bl w ((w.alloc (E #[C I la L] 25)).alloc (E #[D s,C a l c,D t,C b k d] 37)):=(Ba w _).alloc (by rw[Ax];omega) _;have Ql:Below ((w.alloc (E #[C I la L] 25)).alloc (E #[D s,C a l c,D t,C b k d] 37)).heap.size ((w.alloc (E #[C I la L] 25)).alloc (E #[D s,C a l c,D t,C b k d] 37)) (((w.alloc (E #[C I la L] 25)).alloc (E #[D s,C a l c,D t,C b k d] 37)).alloc (E #[D W,C a' l' c',D t',C P S Q] 37)):=Ba _ _;have n0:=((BG w 25 (C I la L)).alloc (E #[D s,C a l c,D t,C b k d] 37)).alloc (E #[D W,C a' l' c',D t',C P S Q] 37);have n1:=(JL.new (w.alloc (E #[C I la L] 25)) 37 (D s) (C a l c) (D t) (C b k d)).below Ql;have n2:=JL.new ((w.alloc (E #[C I la L] 25)).alloc (E #[D s,C a l c,D t,C b k d] 37)) 37 (D W) (C a' l' c') (D t') (C P S Q);have R:=Bt Qm Ql;simp only[Ax]at n1 n2;obtain⟨W0,ai⟩:=ex (((w.alloc (E #[C I la L] 25)).alloc (E #[D s,C a l c,D t,C b k d] 37)).alloc (E #[D W,C a' l' c',D t',C P S Q] 37));rw[ai]at R n0 n1 n2;obtain⟨Qf,H,z,A,HA⟩:=Gh ai n0 n1 n2 R;have f:=n0.cell;obtain⟨x0,x1,g,i⟩:=n1.cq;obtain⟨j,n,o,q⟩:=n2.cq;have Qk:X<=1000000:=by have:=af.fit;omega
 obtain⟨HD,Qg,Qi,Qj⟩:=Dt (λ(V:G) (M:Bl W0 V)=>JX _ p V ((h.below R).below M)) (λ(V:G) (M:Bl W0 V)=>Lb _ _ x y V ((hx.below R).below M) ((hy.below R).below M) (Sq.of hX Qk) (Sq.of hY Qk)) (λ(V:G) (M:Bl W0 V)=>Nr _ x V ((hx.below R).below M)) λ(V:G) (M:Bl W0 V)=>Nr _ y V ((hy.below R).below M);have Qh:=Ja (λ(an:p≠[]->¬y<=x) (V:G) (M:Bl W0 V) (B:Nat) (s t:Bool) (a b:Option Addr) (l c k d:Nat) (h1:JL V B 37 (D s) (C a l c) (D t) (C b k d)) (h2:Jh V (.agg #[D s,C a l c,D t,C b k d]) x) (B':Nat) (W t':Bool) (a' P:Option Addr) (l' c' S Q:Nat) (ak:JL V B' 37 (D W) (C a' l' c') (D t') (C P S Q)) (am:Jh V (.agg #[D W,C a' l' c',D t',C P S Q]) y)=>show Calls F 46 #[.agg #[C I la L],.func (.func 112) #[] #[.pointer (some ⟨B,0,none⟩)],.func (.func 112) #[] #[.pointer (some ⟨B',0,none⟩)]] V λe u=>e=.returned (.int .i64 (FT p x y))/\Bl V u by
  have h3:=(h.below R).below M;unfold FT;by_cases p0:p=[]
  . rw[BC p0];rw[p0]at h3;exact Oe _ _ h3 _ _
  . rw[BB p0,BB (an p0)];have h1:=Ob K _ p _ h3 (af.sr p0) af.sl (Oc af p0 V hX h1 h2) (Oc af p0 V hY ak am);rw[Od,Od]at h1;exact h1)
 have HZ:=Ja (λ(p0:p≠[]) (hle:y<=x)=>show FT p x y=0 by unfold FT;rw[BB p0,BC hle]);obtain⟨N,hN⟩:=ex (FT p x y);rw[hN]at Qh HZ ⊢;obtain⟨r,hr⟩:=ex (Ev x y);rw[hr]at Qg;have Qe:=@fJ x y;rw[hr]at Qe;clear h hx hy af hX hY R Qm Ql n0 n1 n2 ai hN hr Qk;by_cases p0:p=[]
 . have Qc:=Ja (Qh.o λh=>absurd p0 h);rw[p0,show(([]:List Rat).length:Int)-1=-1 from rfl]at HD;clear Qh HZ Qe p0 Qg;go_enter Tryz.func20,Tryz.ntmps20
   go_upto_region 1 with fail
   rw[Qf.o];clear Qf;have hq:=BF W0.heap.size W0;go_upto_region 3 with(go_at_call 30;refine(HD.o _ hq).mono ?_;clear HD;rintro e w4 ⟨rfl,ah⟩;have hq:=Bt hq ah;clear f x0 x1 g i j n o q;have f:=(boxed_below H.o hq).cell;obtain⟨x0,x1,g,i⟩:=(z.o.below hq).cq;obtain⟨j,n,o,q⟩:=(A.o.below hq).cq)
   have hq:=hq.drew;go_region_held3 (λu=>u.cell? ⟨w.heap.size,0,none⟩=some (C I la L)/\u.cell? ⟨w.heap.size+1,0,none⟩=some (D s)/\u.cell? ⟨w.heap.size+1,1,none⟩=some (C a l c)/\u.cell? ⟨w.heap.size+1,2,none⟩=some (D t)/\u.cell? ⟨w.heap.size+1,3,none⟩=some (C b k d)/\u.cell? ⟨w.heap.size+1+1,0,none⟩=some (D W)/\u.cell? ⟨w.heap.size+1+1,1,none⟩=some (C a' l' c')/\u.cell? ⟨w.heap.size+1+1,2,none⟩=some (D t')/\u.cell? ⟨w.heap.size+1+1,3,none⟩=some (C P S Q)) (first|(with_reducible exact⟨f,x0,x1,g,i,j,n,o,q⟩)|(go_keep;done))
    (first
     |(go_at_call 51;refine(Qi.o _ hq).mono ?_;clear Qi;rintro e w5 ⟨B5,s5,t5,a5,b5,l5,c5,k5,d5,rfl,T,U,ad⟩;have hq:=Bt hq ad;clear f x0 x1 g i j n o q;have f:=(boxed_below H.o hq).cell;obtain⟨x0,x1,g,i⟩:=(z.o.below hq).cq;obtain⟨j,n,o,q⟩:=(A.o.below hq).cq)
     |(go_at_call 51;refine(Qj.o _ hq).mono ?_;clear Qj;rintro e w6 ⟨B6,s6,t6,a6,b6,l6,c6,k6,d6,rfl,n6,r6,ae⟩;have T:=T.below ae;have U:=U.below ae;have hq:=Bt hq ae;clear f x0 x1 g i j n o q;have f:=(boxed_below H.o hq).cell;obtain⟨x0,x1,g,i⟩:=(z.o.below hq).cq;obtain⟨j,n,o,q⟩:=(A.o.below hq).cq)
     |(go_at_call 46;refine(Qc.o _ hq _ _ _ _ _ _ _ _ _ T U _ _ _ _ _ _ _ _ _ n6 r6).mono ?_;clear Qc T U n6 r6;rintro e w7 ⟨rfl,aj⟩;have hq:=Bt hq aj;clear f x0 x1 g i j n o q;have f:=(boxed_below H.o hq).cell;obtain⟨x0,x1,g,i⟩:=(z.o.below hq).cq;obtain⟨j,n,o,q⟩:=(A.o.below hq).cq))
   go_wp2_with fail
   go_ret;exact⟨rfl,Bt HA.o hq⟩
 . obtain⟨m,hm⟩:=ex (p.length-1:Nat);have Qn:(p.length:Int)-1=(m:Int):=by have:=Ag.2 p0;omega
   have ap:(0:Int)<=(m:Int):=Y
   rw[Qn]at HD;clear hm Qn;by_cases hle:y<=x
   . have h0:=HZ.o p0 hle;have Qo:0<=r:=Qe.2 hle;subst h0;clear Qh HZ Qe p0 hle Qi Qj;go_enter Tryz.func20,Tryz.ntmps20
     go_upto_region 1 with fail
     rw[Qf.o];clear Qf;have hq:=BF W0.heap.size W0;go_wp2_with(first
      |(go_at_call 30;refine(HD.o _ hq).mono ?_;clear HD;rintro e w4 ⟨rfl,ah⟩;have hq:=Bt hq ah;clear f x0 x1 g i j n o q;have f:=(boxed_below H.o hq).cell;obtain⟨x0,x1,g,i⟩:=(z.o.below hq).cq;obtain⟨j,n,o,q⟩:=(A.o.below hq).cq)
      |(go_at_call 27;refine(Qg.o _ hq).mono ?_;clear Qg;rintro e w5 ⟨rfl,ad⟩;have hq:=Bt hq ad;clear f x0 x1 g i j n o q;have f:=(boxed_below H.o hq).cell;obtain⟨x0,x1,g,i⟩:=(z.o.below hq).cq;obtain⟨j,n,o,q⟩:=(A.o.below hq).cq))
     go_ret;exact⟨rfl,Bt HA.o hq⟩
   . have Qo:r<0:=Int.not_le.1 λh=>hle (Qe.1 h);have Qc:=Ja (Qh.o λ_=>hle);clear Qh HZ Qe p0 hle;go_enter Tryz.func20,Tryz.ntmps20
     go_upto_region 1 with fail
     rw[Qf.o];clear Qf;have hq:=BF W0.heap.size W0;go_upto_region 3 with(first
      |(go_at_call 30;refine(HD.o _ hq).mono ?_;clear HD;rintro e w4 ⟨rfl,ah⟩;have hq:=Bt hq ah;clear f x0 x1 g i j n o q;have f:=(boxed_below H.o hq).cell;obtain⟨x0,x1,g,i⟩:=(z.o.below hq).cq;obtain⟨j,n,o,q⟩:=(A.o.below hq).cq)
      |(go_at_call 27;refine(Qg.o _ hq).mono ?_;clear Qg;rintro e w5 ⟨rfl,ad⟩;have hq:=Bt hq ad;clear f x0 x1 g i j n o q;have f:=(boxed_below H.o hq).cell;obtain⟨x0,x1,g,i⟩:=(z.o.below hq).cq;obtain⟨j,n,o,q⟩:=(A.o.below hq).cq))
     have hq:=hq.drew;go_region_held3 (λu=>u.cell? ⟨w.heap.size,0,none⟩=some (C I la L)/\u.cell? ⟨w.heap.size+1,0,none⟩=some (D s)/\u.cell? ⟨w.heap.size+1,1,none⟩=some (C a l c)/\u.cell? ⟨w.heap.size+1,2,none⟩=some (D t)/\u.cell? ⟨w.heap.size+1,3,none⟩=some (C b k d)/\u.cell? ⟨w.heap.size+1+1,0,none⟩=some (D W)/\u.cell? ⟨w.heap.size+1+1,1,none⟩=some (C a' l' c')/\u.cell? ⟨w.heap.size+1+1,2,none⟩=some (D t')/\u.cell? ⟨w.heap.size+1+1,3,none⟩=some (C P S Q)) (first|(with_reducible exact⟨f,x0,x1,g,i,j,n,o,q⟩)|(go_keep;done))
      (first
       |(go_at_call 51;refine(Qi.o _ hq).mono ?_;clear Qi;rintro e w5 ⟨B5,s5,t5,a5,b5,l5,c5,k5,d5,rfl,T,U,ad⟩;have hq:=Bt hq ad;clear f x0 x1 g i j n o q;have f:=(boxed_below H.o hq).cell;obtain⟨x0,x1,g,i⟩:=(z.o.below hq).cq;obtain⟨j,n,o,q⟩:=(A.o.below hq).cq)
       |(go_at_call 51;refine(Qj.o _ hq).mono ?_;clear Qj;rintro e w6 ⟨B6,s6,t6,a6,b6,l6,c6,k6,d6,rfl,n6,r6,ae⟩;have T:=T.below ae;have U:=U.below ae;have hq:=Bt hq ae;clear f x0 x1 g i j n o q;have f:=(boxed_below H.o hq).cell;obtain⟨x0,x1,g,i⟩:=(z.o.below hq).cq;obtain⟨j,n,o,q⟩:=(A.o.below hq).cq)
       |(go_at_call 46;refine(Qc.o _ hq _ _ _ _ _ _ _ _ _ T U _ _ _ _ _ _ _ _ _ n6 r6).mono ?_;clear Qc T U n6 r6;rintro e w7 ⟨rfl,aj⟩;have hq:=Bt hq aj;clear f x0 x1 g i j n o q;have f:=(boxed_below H.o hq).cell;obtain⟨x0,x1,g,i⟩:=(z.o.below hq).cq;obtain⟨j,n,o,q⟩:=(A.o.below hq).cq))
     go_wp2_with fail
     go_ret;exact⟨rfl,Bt HA.o hq⟩
end M3
section
open Go.RowKit Go.Shelf
theorem SJ(p:List Rat)(a:List Int)(e:p=a.map (λz:Int=>(z:Rat)))(h:a.all (λz=>decide (z.natAbs<100))=true):Cd 1 p:=by
 refine⟨1,DF,Sm.one 1 Y,EN.cdl λi=>?_⟩;rw[e];by_cases b:i<a.length
 . refine⟨a[i],?_,?_⟩
   . have c:=Ca.1 h a[i] (FA b);have d:a[i].natAbs<100:=Be c;unfold Sm Z;omega
   . unfold cf;rw[Fa,Am b];rfl
 . exact⟨0,Sm.zero 1,by rw[Ye si];rfl⟩
def eP:List Rat:=[-2,0,1]
theorem fL:YG [120,94,50,45,50]=(eP,0,0):=dk
theorem SK:Em [49]=1/\(Xi [49]).isSome=true:=dk
theorem SM:Jb eP=[0,2]:=dk
theorem fM:Eb eP=2:=dk
theorem fN:Hh eP 1=1:=dk
theorem fO:DO eP.reverse=1:=dk
theorem SN:Cd 1 eP:=SJ eP [-2,0,1] dk DF
theorem SO:CtOk 1 1 eP:=by
 refine⟨?_,?_⟩
 . rw[SM];exact⟨dk,dk,SN,SJ _ [0,2] dk DF,DF,DF⟩
 . rw[SM];decide
theorem fP:DT 1 (1:Rat):=⟨Sm.one 1 Y,Sm.one 1 Y⟩
namespace M3
attribute [local go_sem] Oper.semAt_some
theorem fQ(w:G):Calls F 22 #[] w λr a=>r=.returned (D true)/\Bl w a:=by
 have S:=Ja (λ(V:G)=>show Calls F 23 #[.string ⟨#[120,94,50,45,50]⟩] V λr a=>∃u,r=.returned (.tuple #[u,.int .i64 0,.int .i64 0])/\Je a u eP/\Bl V a from
  (RK ⟨#[120,94,50,45,50]⟩ V).mono (λr a h=>by
   obtain⟨u,e,p,i,c,M⟩:=h;rw[KB,show Ji ⟨#[120,94,50,45,50]⟩=[120,94,50,45,50]from rfl,fL]at c;obtain⟨rfl,rfl,h4⟩:=c;exact⟨u,i,h4,M⟩))
 have T:=Ja (λ(V:G)=>show Calls F 24 #[.string ⟨#[49]⟩] V λr a=>∃u,r=.returned (.tuple #[u,D true])/\Jh a u 1/\Bl V a from
  (Lt ⟨#[49]⟩ V).mono (λr a h=>by
   obtain⟨u,i,c,M⟩:=h;rw[show Ji ⟨#[49]⟩=[49]from rfl]at i c;rw[SK.2]at i;rw[SK.1]at c;exact⟨u,i,c,M⟩))
 obtain⟨s,t,v⟩:=Df (λ(V:G) (x:Value) (j:Je V x eP)=>MP 1 1 x eP V j SO) (λ(V:G) (x y:Value) (j:Je V x eP) (hy:Jh V y 1)=>SG 1 1 x y eP 1 V j hy SO fP) λ(V:G) (x:Value) (j:Je V x eP)=>SH x eP V j (SN.sqs Y) DF;rw[fM]at s;rw[fN]at t;rw[fO]at v;go_enter Tryz.func22,Tryz.ntmps22
 go_upto_region 2 with(go_at_call 23;refine(S.o _).mono ?_;clear S;rintro e d ⟨u1,rfl,K,ai⟩;obtain⟨A,l1,c1,rfl⟩:=K.form)
 have l:Bl d (d.alloc (E #[C A l1 c1] 25)):=Ba d _;have b:=BG d 25 (C A l1 c1);obtain⟨V1,af⟩:=ex (d.alloc (E #[C A l1 c1] 25));have r1:=K.below l;rw[af]at l b r1 ⊢;obtain⟨B1,ad⟩:=ex (d.heap.size);have X:Bl w V1:=Bt ai l;rw[ad]at b ⊢;clear af ad K l ai;go_upto_region 3 with(go_at_call 24;refine(T.o _).mono ?_;clear T;rintro e f ⟨u2,rfl,L,aj⟩;obtain⟨Q,B,l2,c2,R,H,N,I,rfl⟩:=Jh.form L)
 have m:Bl f (f.alloc (E #[D Q,C B l2 c2,D R,C H N I] 37)):=Ba f _;have k:=JL.new f 37 (D Q) (C B l2 c2) (D R) (C H N I);have P:=L.below m;have g:=Bt aj m
 obtain⟨V2,ah⟩:=ex (f.alloc (E #[D Q,C B l2 c2,D R,C H N I] 37));rw[ah]at m k P g ⊢;obtain⟨B2,ae⟩:=ex (f.heap.size);rw[ae]at k ⊢;replace b:=boxed_below b g;replace r1:=r1.below g;have HQ:=Ja (Bt X g);clear ah ae L m aj g X;have hq:=BF V2.heap.size V2;have n:=b.cell;obtain⟨x0,x1,o,q⟩:=k.cq;obtain⟨U,W,z,R2⟩:=Dt b k r1 P;clear b k r1 P;go_wp2_with(first
  |(go_at_call 13;refine(s.o _ _ (z.o.below hq)).mono ?_;clear s;rintro e w5 ⟨rfl,ak⟩;have hq:=Bt hq ak;clear n x0 x1 o q;have n:=(boxed_below U.o hq).cell;obtain⟨x0,x1,o,q⟩:=(W.o.below hq).cq)
  |(go_at_call 15;refine(t.o _ _ _ (z.o.below hq) (R2.o.below hq)).mono ?_;clear t;rintro e w6 ⟨rfl,am⟩;have hq:=Bt hq am;clear n x0 x1 o q;have n:=(boxed_below U.o hq).cell;obtain⟨x0,x1,o,q⟩:=(W.o.below hq).cq)
  |(go_at_call 18;refine(v.o _ _ (z.o.below hq)).mono ?_;clear v;rintro e w7 ⟨rfl,an⟩;have hq:=Bt hq an))
 go_ret;exact⟨rfl,Bt HQ.o hq⟩
end M3
end
section
open Go.RowKit Go.Shelf
attribute [local go_sem] Oper.semAt_some
end
section
variable{S:List Rat}{l:List UInt8}{i k n x:Nat}{c:Rat}
theorem SP(h:l.all DX=true):num l<10^l.length:=by
 have:=YN (K9 h);rwa[KT]at this
def Fr(x:Nat)(c:Rat):Prop:=∃(a b:Nat) (y z:Nat),c=Rat.divInt a b/\a<=10^y/\b<=10^z/\b≠0/\y+z<=x
theorem Fr.mono{y:Nat}(h:Fr x c)(j:x<=y):Fr y c:=by
 obtain⟨a,b,u,v,d,e,f,g,i⟩:=h;exact⟨a,b,u,v,d,e,f,g,Y⟩
theorem Fr.one:Fr 0 1:=⟨1,1,0,0,DF,DF,DF,DF,DF⟩
theorem fR(r:i<=l.length)(h:YY l i=.ok c k):Fr (k-i) c:=by
 unfold YY at h;split at h
 . cases h
 . rename_i ds p a g;have b:=Gv r g;have t:=GL l a;have q:=SP b.2.2.2.2.2.2.2.2;rw[b.2.2.2.2.2.2.2.1]at q;split at h
   . rename_i d;have d:=Yh d;split at h
     . cases h
     . rename_i f s m n;have e:=Gv Y n;have o:=SP e.2.2.2.2.2.2.2.2;rw[e.2.2.2.2.2.2.2.1]at o;split at h
       . cases h
       . rename_i j;cases h;exact⟨num ds,num f,a-p,k-s,rfl,Y,Y,j,Y⟩
   . cases h;exact⟨num ds,1,a-p,0,(Q4 _).symm,Y,DF,DF,Y⟩
theorem fS(g:i<=l.length)(h:YH l i=.ok (c,n) k):Fr (k-i) c:=by
 unfold YH at h;have p:=GL l i;have d:=Xx g;split at h
 . split at h
   . cases h
   . rename_i c' j b;have o:=Mw d b;have a:=fR d b;have q:=GL l j;split at h
     . rename_i e;have e:=Yh e;split at h
       . cases h
       . rename_i s m f;have r:=Mx Y f;cases h;exact a.mono Y
     . cases h;exact a.mono Y
 . split at h
   . split at h
     . cases h
     . cases h;exact Fr.one.mono Y
   . cases h
def F4(i:Nat)(S:List Rat):Prop:=S.length=9/\∃D:Int,D≠0/\D.natAbs<=10^i/\∀j,∃z:Int,z.natAbs<=10^i/\cf S j=Rat.divInt z D
theorem F4.mono(h:F4 i S)(e:i<=k):F4 k S:=by
 obtain⟨a,D,b,f,c⟩:=h;have hp:(10:Nat)^i<=10^k:=AF Y e;exact⟨a,D,b,Y,λj=>by obtain⟨z,g,d⟩:=c j;exact⟨z,Y,d⟩⟩
theorem F4.start(i:Nat):F4 i (List.replicate 9 0):=⟨rfl,1,DF,by have:1<=10^i:=CL Y;simpa using this,λj=>⟨0,O,by rw[J0,Rat.zero_divInt]⟩⟩
theorem F4.next(h:F4 i S)(s:Fr x c)(I:n<=8)(b:Bool):F4 (i+x+1) (S.set n (if b then cf S n-c else cf S n+c)):=by
 obtain⟨m,D,g,o,p⟩:=h;obtain⟨a,d,y,z,rfl,r,t,H,K⟩:=s;have f:(d:Int)≠0:=Y
 have u:(10:Nat)^i*10^z<=10^(i+x):=by rw[<-CO];exact AF Y Y
 have v:(10:Nat)^y*10^i<=10^(i+x):=by rw[<-CO];exact AF Y Y
 have e:∀w:Int,w.natAbs<=10^i->(w*(d:Int)).natAbs<=10^(i+x):=λw e=>by
  rw[CA,AK];exact An (CE e t) u
 have B:((a:Int)*D).natAbs<=10^(i+x):=by
  rw[CA,AK];exact An (CE r o) v
 refine⟨by rw[CJ];exact m,D*d,CI g f,by have:=e D o;omega,λj=>?_⟩;rw[XV _ _ _ _ (by rw[m];omega)];by_cases q:j=n
 . rw[BC q];obtain⟨w,k,l⟩:=p n;have A:=e w k;rw[l];cases b with
   |true=>
    refine⟨w*d-a*D,by have:=Int.natAbs_sub_le (w*(d:Int)) ((a:Int)*D);omega,?_⟩;rw[BC rfl,Rat.sub_eq_add_neg,Rat.neg_divInt,FF _ _ g f];congr 1;rw[Int.neg_mul];rfl
   |false=>
    refine⟨w*d+a*D,by have:=FI (w*(d:Int)) ((a:Int)*D);omega,?_⟩;rw[BB DF,FF _ _ g f]
 . rw[BB q];obtain⟨w,k,l⟩:=p j;exact⟨w*d,by have:=e w k;omega,by rw[l,Fv f]⟩
theorem SQ:∀(f:Nat) (b:Bool) (I:Nat) (S d:List Rat) (k:Nat),I<=l.length->F4 I S->EW l f b I S=.ok d k->F4 (l.length+1) d:=by
 intro f;induction f with
 |zero=>intro b I S d k _ _ h;cases h
 |succ f o=>
  intro b I S d k m r h;cases g:YH l I with
  |bad e p=>rw[Lm g]at h;cases h
  |ok a s=>
   obtain⟨c,n⟩:=a;have q:=LD m g;have i:=r.next (fS m g) q.2.2 b;have t:=GL l s;rw[Lo g]at h;split at h
   . rename_i j;have:=Yh j;exact o _ _ _ _ _ Y (i.mono Y) h
   . split at h
     . rename_i j;have:=Yh j;exact o _ _ _ _ _ Y (i.mono Y) h
     . split at h
       . cases h;exact i.mono Y
       . cases h
theorem fT(h:D7 l=.ok S k):F4 (l.length+1) S:=by
 unfold D7 at h;have a:=Xx (l:=l) (i:=0) Y;split at h
 . rename_i b;have:=Yh b;exact SQ _ _ _ _ _ _ Y (F4.start _) h
 . exact SQ _ _ _ _ _ _ a (F4.start _) h
theorem fU(a b c:Nat)(h:a*b<64*c):((2:Nat)^a)^b<Z^c:=by
 rw[show Z=2^64 from by decide,<-Nat.pow_mul,<-Nat.pow_mul];exact Nat.pow_lt_pow_right Y h
theorem fV(h:n<=43*k)(c:k<=7):(10:Nat)^n<Z^16:=by
 have b:((10:Nat)^43)^k<=(2^143)^k:=Fe DF k;have a:(10:Nat)^n<=10^(43*k):=AF Y h;rw[Nat.pow_mul]at a;exact Ch (An a b) (fU 143 k 16 Y)
theorem fX(l:List UInt8):∃D:Int,D≠0/\Sm 16 D/\EC D 16 (YG l).1:=by
 have a:∃D:Int,D≠0/\Sm 16 D/\EC D 16 []:=⟨1,DF,Sm.one _ Y,λi=>by rw[YI];exact CD.zero _ _⟩;by_cases h:300<l.length
 . rw[show YG l=([],1,0)by unfold YG;rw[BC h]];exact a
 . rw[Lp h];cases b:D7 l with
   |bad e p=>exact a
   |ok S k=>
    rw[show(I9 (Rd.ok S k)).1=Jd S from rfl];obtain⟨_,D,c,g,d⟩:=fT b;have b:=fV (n:=l.length+1) (k:=7) Y Y;exact⟨D,c,by unfold Sm;omega,λi=>by
     obtain⟨z,j,f⟩:=d i;exact⟨z,by rw[Yf];exact f,by unfold Sm;omega⟩⟩
open Go.RowKit Go.Shelf
attribute [local go_sem] Oper.semAt_some
theorem SS(l:List UInt8):Jd (YG l).1=(YG l).1:=by
 by_cases h:300<l.length
 . rw[show YG l=([],1,0)by unfold YG;rw[BC h]];rfl
 . rw[Lp h];cases D7 l with
   |bad e p=>rfl
   |ok S k=>exact J5 _
theorem ST(s:ByteArray)(w:G):
 Calls F 8 #[.string s] w λe x=>∃u,e=.returned u/\Je x u (YG (Ji s)).1/\Bl w x:=by
 have q:=Ja λ(V:G)=>RK s V;have b0:=BG w 25 (C none 0 0);have i:Bl w (w.alloc (E #[C none 0 0] 25)):=Ba w _;obtain⟨K,m⟩:=ex (w.alloc (E #[C none 0 0] 25));obtain⟨y,k⟩:=ex (w.heap.size);rw[m]at b0 i;rw[k]at b0;obtain⟨z,r,H,t⟩:=Dt b0 i m k;clear b0 i m k;go_enter Tryz.func8,Tryz.ntmps8
 go_upto_region 1 with fail
 rw[H.o,t.o];go_upto_region 2 with(go_at_call 23;refine(q.o _).mono ?_;clear q;rintro e b ⟨u,M,N,rfl,⟨rfl,rfl,n⟩,g⟩;obtain⟨a,l1,c1,rfl⟩:=n.form)
 have d:Bl b (b.alloc (E #[C a l1 c1] 25)):=Ba b _;have o:=BG b 25 (C a l1 c1);have c:=(z.o.bel g).bel d;have r1:=n.row.below d;have j:=(Bt r.o g).trans (d.mono (Bt r.o g).size);obtain⟨L,f⟩:=ex (b.alloc (E #[C a l1 c1] 25));obtain⟨I,l⟩:=ex (b.heap.size);rw[f,l]at o;rw[f]at c r1 j;rw[f,l];have x1:=o.cell;have x0:=c.cell;have f0:=c.frozen;have A:=Ja (Ei c (C a l1 c1) r1);have B:=Ja (j.setCell (p:=⟨y,0,none⟩) (by rw[t.o];exact Aa _) (C a l1 c1));clear d o c r1 j f l n g;go_wp2_with fail
 exact BA (v:=.agg #[C a l1 c1]) (by simp[results,Tryz.results8,go_sem,x0]) rfl ⟨_,rfl,⟨_,rfl,A.o⟩,B.o⟩
end
section
open Go.RowKit Go.Shelf
variable{p:List Rat}{M:Nat}
theorem SU(l:List UInt8):Cd 16 (YG l).1:=fX l
theorem Cd.mul{M N:Nat}{p q:List Rat}(h:Cd M p)(g:Cd N q):Cd (M+N+p.length) (Js p q):=by
 obtain⟨D,d1,b,c⟩:=h;obtain⟨E,d,e,f⟩:=g;have a:D*E≠0:=CI d1 d;exact⟨D*E,a,(b.mul e).mono Y,λi=>bG a (λi j=>(c i).mul (f j)) i⟩
theorem Cd.times{N:Nat}{q:List Rat}(h:Cd M p)(f:Cd N q)(hl:M+N+p.length+1<=1000000):M3.I5 p q:=by
 obtain⟨D,d1,a,b⟩:=h;obtain⟨E,c,d,e⟩:=f;exact bF (CI d1 c) ((a.mul d).mono Y) (λi j=>(b i).mul (e j)) hl
theorem Cd.slope(h:Cd M p)(hl:p.length<=1000000):Cd (M+1) (Jb p):=by
 obtain⟨D,d1,a,b⟩:=h;refine⟨D,d1,a.mono Y,λi=>?_⟩;rw[Xp];by_cases e:i+1<p.length
 . have c:=(b (i+1)).mul (E:=1) (M:=1) (d:=(((i+1:Nat):Int):Rat)) ⟨((i+1:Nat):Int),by rw[CB,show((1:Int):Rat)=1 from rfl];grind,by unfold Sm Z;rw[AK];omega⟩;rwa[Int.mul_one]at c
 . rw[Ye Y,A2];exact CD.zero _ _
namespace M3
theorem fZ(a b:Value)(ps qs:List Rat)(w:G)(i:Je w a ps)(j:Je w b qs)(m:DV ps)(n:DV qs)(l:I5 ps qs)(k:ps.length+qs.length<=1099511627776):
 Calls F 9 #[a,b] w λe c=>∃u,e=.returned u/\Je c u (Js ps qs)/\Bl w c:=by
 refine(ZW a b ps qs w i j m n l k).mono ?_;rintro e c ⟨u,d,f,_,g⟩;exact⟨u,d,f,g⟩
theorem ChOk.of{K:Nat}{p q:List Rat}(tp:Jd p=p)(tq:Jd q=q)(cp:Cd K p)(cq:Cd K q){n:Nat}(lp:p.length<=n)(lq:q.length<=n)(hle:4*((n+2)*((K+1)*(n+n+1)+1))<=1000000)(c:n<=1000):ChOk K p q:=by
 refine⟨tp,tq,cp,cq,?_,Y⟩;have a:Da K p q<=(K+1)*(n+n+1):=Aq _ Y;have b:(max p.length q.length+2)*(Da K p q+1)<=(n+2)*((K+1)*(n+n+1)+1):=CE Y Y;omega
attribute [local go_sem] Oper.semAt_some
end M3
end
open Go.RowKit Go.Shelf
theorem SV(x:List Rat):(Jb x).length<=x.length:=An (YS _) (by simp[Hk])
theorem Ok{K n:Nat}{p:List Rat}(tp:Jd p=p)(cp:Cd K p)(lp:p.length<=n)(b:4*((n+2)*((K+1+1)*(n+n+1)+1))<=1000000)(c:n<=1000){X:Nat}(g:n*((K+1+1)*(n+n+1)+n*((K+1+1)*(n+n+1)+1)+1+X+1)+1+X<=1000000):CtOk (K+1) X p:=by
 have sl:=SV p;refine⟨M3.ChOk.of tp (Jr _) (cp.mono Y) (cp.slope Y) (n:=n) lp Y b c,?_⟩;have d:Da (K+1) p (Jb p)<=(K+1+1)*(n+n+1):=Aq _ Y;have a:max p.length (Jb p).length<=n:=Y
 have e:max p.length (Jb p).length*(Da (K+1) p (Jb p)+1)<=n*((K+1+1)*(n+n+1)+1):=CE a Y;have f:max p.length (Jb p).length*(Da (K+1) p (Jb p)+max p.length (Jb p).length*(Da (K+1) p (Jb p)+1)+1+X+1)<=n*((K+1+1)*(n+n+1)+n*((K+1+1)*(n+n+1)+1)+1+X+1):=CE a Y;omega
namespace M3
attribute [local go_sem] Oper.semAt_some
end M3
end Go.Proofs.YtakpoihdghihmaaGreatDoor
end
set_option maxRecDepth 100000
set_option maxHeartbeats 16000000
namespace Go.Proofs.YtakpoihdghihmaaGreatDoor
section
open Go.RowKit Go.Shelf
theorem XC(l:List Rat):DO l<=l.length:=An (Oj l) Y
theorem ff{p:List Rat}(p0:p≠[]){n:Nat}(hl:p.length<=n):-(n:Int)<=Eb p/\Eb p<=n:=by
 have c:=MS p0;have a:=XC (Eo (Jy p));have b:=XC (D4 (Jy p));unfold Eo at a;unfold D4 at b;rw[CQ]at a b;unfold Eb;rw[BB p0];unfold Eo D4;omega
namespace M3
attribute [local go_sem] Oper.semAt_some
end M3
end
section
variable{R p q u v w y:List Rat}{N:Nat}{B a b c k x z:Rat}{P:Rat->Rat->Prop}
theorem Ol(h:DW u v)(a:0<=B):Sh B λx z=>DU u x z\/DU v x z:=by
 obtain⟨s,t,l⟩:=h;obtain⟨S,c,j⟩:=Xr s a;obtain⟨T,e,k⟩:=Xr t a;have d:∀ {r K:Rat},0<K->K*(r/K)=r:=λo=>by rw[Ck,Ap (by grind)]
 refine((Gc u a (YA Ge c)).and (Gc v a (YA Ge e))).mono λx z b _ _ ⟨g,i⟩=>?_;by_cases f:DU u x z
 . exact Or.inl f
 . refine Or.inr (Classical.byContradiction λn=>?_);have p:=K7 (l x) (j x b) (g f).1 (by rw[d c];exact Rat.le_refl);have m:=((k x b).mul (i n).1).2;rw[d e]at m;grind
theorem fu:∀(n:Nat) (R w y:List Rat),R.length<=n->Yun R w y->∀ {B:Rat},0<=B->Sh B λx z=>DU w x z->DU R x z:=by
 intro n;induction n with
 |zero=>intro R w y t h;exact absurd (Az.1 Y) h.R0
 |succ n D=>
  intro R w y t h B o;by_cases hl:w.length<=1
  . obtain⟨d,s⟩:=Il h.tw h.w0 hl;have u:Dv R [1]:=KK h.tR h.R0 ⟨Js d y,λx=>by
     have I:=h.eq x;have e:=s x;rw[Jo]at e;rw[Jg];have:ev (Jb R) x=(ev w x*ev d x)*ev (Jb R) x:=by rw[<-e,Co]
     rw[this];grind⟩
    have hl:=(u.len h.tR DF DF).1;exact Sh.all λx z _ _ _ _=>XH h.tR h.R0 hl x z
  . obtain⟨_,j⟩:=h.part;obtain⟨_,_,e,g,_,i⟩:=h.step;obtain⟨a,r⟩:=ex (Jz w (JD y (Jb w)));rw[r]at j e i;obtain⟨c,v⟩:=ex (Jp w a);rw[v]at j e i;obtain⟨f,p⟩:=ex (Jp R w);rw[p]at e g;have E:f.length<=n:=by
     have:=JA h.tw e.tR h.w0 e.R0;rw[<-g]at this;omega
    have m:∀x,ev w x=ev a x*ev c x:=λx=>by
     have:=Jg a c x;rwa[<-i]at this
    have l:∀x,ev R x=ev w x*ev f x:=λx=>by
     have:=Jg w f x;rwa[<-g]at this
    refine((D f c _ E e o).and (Ol j o)).mono λx z _ _ _ ⟨A,C⟩ k=>?_;have F:DU c x z:=by
     rcases C with K|H
     . unfold DU at *;rw[m,m]at k;rcases J9 (ev c x*ev c z) 0 with q|q
       . have:=Rat.mul_nonneg (a:=ev a x*ev a z) (b:=-(ev c x*ev c z)) (by grind) (by grind);grind
       . rcases Rat.le_iff_lt_or_eq.1 q with q|q
         . exact q
         . have:ev a x*ev c x*(ev a z*ev c z)=(ev a x*ev a z)*(ev c x*ev c z):=by grind
           rw[this,<-q]at k;grind
     . exact H
    have G:=A F;unfold DU at *;rw[l,l];have:=Rat.mul_pos k G;grind
theorem fw(tp:Jd p=p)(p0:p≠[])(b:0<=B):Sh B λx z=>DU (DK p) x z->DU p x z:=by
 obtain⟨d,c⟩:=Im tp p0;have e:∀x,ev p x=ev (Jq p) x*cf p (p.length-1):=λx=>by
  conv=>lhs;rw[c]
  rw[JJ]
 refine(fu _ _ _ _ (Aa _) (Xq tp p0) b).mono λx z _ _ _ h s=>?_;have a:=h s;have:=Ys (f:=[cf p (p.length-1)]) d (λx=>Jo _ x) 0 0;unfold DU at *;rw[Jo]at this;rw[e,e];have:=Rat.mul_pos a this;grind
def EI(w y:List Rat)(x:Rat):Nat:=if 0<ev w x*ev y x\/ev w x=0 then 1 else 0
theorem fz(st:¬DU w x x):EI w y x=1/\JS w x x+EI w y x<=1:=by
 have u0:ev w x=0:=by
  rcases AM.1 (Rat.le_antisymm (Rat.not_lt.1 st) (Eh (ev w x)))with q|q<;>exact q
 have a:JS w x x=0:=by
  unfold JS;exact BB λq=>q.1 u0
 have b:EI w y x=1:=by
  unfold EI;exact BC (Or.inr u0)
 rw[a,b];exact⟨rfl,Y⟩
theorem SW(r1:0<ev (Jb w) x*(ev w z-ev w x))(n:ev w x*ev w z<=0)(g:DU (Jb w) x z)(k:0<ev y x*ev (Jb w) x)(l:0<ev y z*ev (Jb w) z):EI w y z=1/\JS w x z+EI w y x<=1:=by
 unfold DU at g;unfold EI JS;generalize ev (Jb w) x=d at *;generalize ev (Jb w) z=c at *;generalize ev y x=a at *;generalize ev y z=b at *;generalize ev w x=u at *;generalize ev w z=v at *;have e:0<a*(v-u):=XI (a:=d) (by have:=Rat.mul_pos k r1;grind);have j:0<c*(v-u):=XI (a:=d) (by have:=Rat.mul_pos g r1;grind);have f:0<b*(v-u):=XI (a:=c) (by have:=Rat.mul_pos l j;grind);by_cases u0:u=0
 . subst u0;refine⟨BC (Or.inl (by grind)),?_⟩;rw[BB O];split<;>omega
 . have m:u*a<0:=by
    rcases J9 0 (u*a)with q|q
    . exfalso
      have q:0<u*a:=by
       rcases Rat.le_iff_lt_or_eq.1 q with q|q
       . exact q
       . rcases AM.1 q.symm with q|q
         . exact absurd q u0
         . exact absurd q (Jv e).1
      have:=Rat.mul_pos q (show 0<v*a by grind);have:=XI (a:=a) (b:=u*v) (by grind);grind
    . rcases Rat.le_iff_lt_or_eq.1 q with q|q
      . exact q
      . rcases AM.1 q with q|q
        . exact absurd q u0
        . exact absurd q (Jv e).1
   have i:0<v*b\/v=0:=by
    rcases J9 (v*b) 0 with t|t
    . rcases Rat.le_iff_lt_or_eq.1 t with t|t
      . exfalso
        have:=Rat.mul_pos (a:=-(v*b)) (b:=-(u*b)) (by grind) (by grind);have:=XI (a:=b) (b:=u*v) (by grind);grind
      . rcases AM.1 t with t|t
        . exact Or.inr t
        . exact absurd t (Jv f).1
    . rcases Rat.le_iff_lt_or_eq.1 t with t|t
      . exact Or.inl t
      . rcases AM.1 t.symm with t|t
        . exact Or.inr t
        . exact absurd t (Jv f).1
   refine⟨BC i,?_⟩;rw[BB (show ¬(0<u*a\/u=0)by rintro(q|q);grind;exact u0 q)];split<;>omega
theorem gA{s f:List Rat}(I:0<k)(G:JS f x z<=JS s x z)(p:¬DU w x z->k<=ev y x*ev (Jb w) x/\k<=ev y z*ev (Jb w) z)(u:¬DU w x z->x<z->0<ev (Jb w) x*(ev w z-ev w x))(v:DU f x z->DU y x z)(A:DU w x z\/DU (Jb w) x z)(l:ev y x≠0->ev f x≠0)(o:x<=z):
 JS w x z+EI w y x<=EI w y z+JS s x z:=by
 by_cases st:DU w x z
 . rw[YJ st,AY];obtain⟨B,e⟩:=Jv st;by_cases q:EI w y x<=EI w y z
   . omega
   ·
    have g:0<ev w x*ev y x:=by
     unfold EI at q;by_cases r:0<ev w x*ev y x\/ev w x=0
     . rcases r with r|r
       . exact r
       . exact absurd r B
     . rw[BB r]at q;omega
    have i:¬(0<ev w z*ev y z):=λr=>by
     unfold EI at q;rw[BC (Or.inl r)]at q;split at q<;>omega
    have E:¬DU y x z:=λr=>i (by
     have j:=KQ (a:=ev w x) (b:=ev y x) (c:=ev w z) (d:=ev y z) st r;rcases J9 (ev w z*ev y z) 0 with t|t
     . rcases Rat.le_iff_lt_or_eq.1 t with t|t
       . have:=j.2 t;grind
       . rcases AM.1 t with t|t
         . exact absurd t e
         . exact absurd t (Jv r).2
     . rcases Rat.le_iff_lt_or_eq.1 t with t|t
       . exact t
       . rcases AM.1 t.symm with t|t
         . exact absurd t e
         . exact absurd t (Jv r).2)
    have D:¬DU (f) x z:=λr=>E (v r);have H:JS (f) x z=1:=by
     unfold JS;exact BC ⟨l (Jv g).2,Rat.not_lt.1 D⟩
    have F:EI w y x<=1:=by unfold EI;split<;>omega
    omega
 . obtain⟨L,M⟩:=p st;have C:=A.resolve_left st;have K:EI w y z=1/\JS w x z+EI w y x<=1:=by
    rcases Rat.le_iff_lt_or_eq.1 o with n|m
    . exact SW (u st n) (Rat.not_lt.1 st) C (by grind) (by grind)
    . subst m;exact fz st
   omega
theorem gC(tp:Jd p=p)(hl:1<p.length)(b:0<=B):
 Sh B λx z=>JS (DK p) x z+EI (DK p) (Dg p) x<=EI (DK p) (Dg p) z+JS (DK (Jb p)) x z:=by
 have p0:p≠[]:=λe=>by rw[e]at hl;simp at hl
 have ts:=Jr p;have i:Jb p≠[]:=λe=>by have:=X7 tp e;omega
 have a:=Xq tp p0;have d:Dg p≠[]:=λe=>by
  have E:Jb (Jq p)=[]:=Yx (Jr _) λx=>by
   have g:=a.eq x;rw[e]at g;have F:=Yv (u:=Jb (Jq p)) (v:=[]) a.tw a.w0 (λx=>by
    have g:=a.eq x;rw[e]at g;simp only[ev]at g ⊢;grind) x
   rw[F];rfl
  have:=X7 (YF p) E;rw[YZ tp]at this;omega
 have ty:=a.ty;have w:Dv (Dg p) (Jb p):=by
  obtain⟨_,H⟩:=Im tp p0;obtain⟨_,D,_⟩:=Y5 (YF p) (Jr (Jq p));have C:=Xo (YF p) (Jr (Jq p)) (Or.inl (KG tp p0));have y:=(JO (Yj _ _) C D).2;refine⟨DP (cf p (p.length-1)) (Jz (Jq p) (Jb (Jq p))),λx=>?_⟩;have j:=MJ (cf p (p.length-1)) (Jq p) x;rw[<-H]at j;rw[j,y,JJ];show _=ev (Jp (Jb (Jq p)) (Jz (Jq p) (Jb (Jq p)))) x*_;grind
 have o:=Xq ty d;have n:=Xq ts i;have t:Dv (DK (Dg p)) (DK (Jb p)):=FU.dv n.tw o.tw o.w0 (Oh ty d) λc h=>((SF ts i c).1 h).of_dv ((MQ ty d).trans w);obtain⟨e,R,l⟩:=t.some n.tw;have r:DW (DK (Dg p)) e:=FU.parts (by rw[<-l];exact Oh ts i);have m:=Og r b;rw[<-l]at m;obtain⟨k,Q,sg⟩:=MC _ _ _ _ (Aa _) a b;have s:=Oh tp p0;refine((((m.and sg).and (Of a b)).and ((fw ty d b).and (Ol s b)))).mono λx z _ _ I ⟨⟨⟨K,L⟩,M⟩,N,P⟩=>?_;have A:∀x,ev (Dg p) x≠0->ev (DK (Dg p)) x≠0:=λx h q=>by
  obtain⟨c,G⟩:=MQ ty d;exact h (by rw[G,q];grind)
 exact gA (f:=DK (Dg p)) Q (by rw[K];exact Nat.le_add_right _ _) L M N P (A x) I
theorem gD(p:∀x,P x x)(tr:∀x y z,P x y->P y z->P x z)(h:Sh B P)(c:Wi B a)(j:Wi B b)(f:a<=b):P a b:=by
 obtain⟨d,d0,h⟩:=h;obtain⟨n,m⟩:=steps d0 a b;have:∀(n:Nat) (a:Rat),Wi B a->a<=b->b-a<=(n:Rat)*d->P a b:=by
  intro n;induction n with
  |zero=>
   intro a c f g;have e:a=b:=by
    have:((0:Nat):Rat)=0:=rfl;rw[this]at g;grind
   rw[e];exact p _
  |succ n o=>
   intro a c f g;have l:((n+1:Nat):Rat)=(n:Rat)+1:=by rw[Rat.natCast_add];rfl
   rw[l]at g;rcases J9 (b-a) d with i|i
   . exact h a b c j f i
   . have k:Wi B (a+d):=⟨by have:=c.1;grind,by have:=j.2;grind⟩;exact tr _ _ _ (h a (a+d) c k (by grind) (by grind)) (o (a+d) k (by grind) (by grind))
 exact this n a c f m
theorem MT(tp:Jd p=p)(p0:p≠[])(a:0<=B):Sh B λx z=>DO (JQ (Jy p) x)=DO (JQ (Jy p) z)+JS (DK p) x z:=by
 refine(fG tp p0 a).mono λx z _ _ b h=>?_;show DO (JQ (Jy p) x)=DO (JQ (Jy p) z)+JS (DK p) x z;have:=eS tp p0 b;omega
theorem gE(w y:List Rat)(x:Rat):EI w y x<=1:=by unfold EI;split<;>omega
theorem SX(tp:Jd p=p)(hl:1<p.length)(i:a<=b):
 DO (JQ (Jy p) a)+DO (JQ (Jy (Jb p)) b)<=DO (JQ (Jy p) b)+DO (JQ (Jy (Jb p)) a)+1:=by
 have p0:p≠[]:=λe=>by rw[e]at hl;simp at hl
 have j:Jb p≠[]:=λe=>by have:=X7 tp e;omega
 obtain⟨A,k,f⟩:=IG a;obtain⟨C,l,g⟩:=IG b;have c:0<=A+C:=by grind
 have:=gD (B:=A+C) (P:=λx z=>DO (JQ (Jy p) x)+EI (DK p) (Dg p) x+DO (JQ (Jy (Jb p)) z)<=DO (JQ (Jy p) z)+EI (DK p) (Dg p) z+DO (JQ (Jy (Jb p)) x))
  (λ_=>Aa _) (λ_ _ _ _ _=>by omega) (((MT tp p0 c).and ((MT (Jr p) j c).and (gC tp hl c))).mono λx z _ _ _ ⟨d,m,n⟩=>by
   show _<=_;omega) (f.mono (by grind)) (g.mono (by grind)) i
 have d:=gE (DK p) (Dg p) b;omega
theorem gF(tp:Jd p=p)(hl:1<p.length):
 DO (Eo (Jy p))+DO (D4 (Jy (Jb p)))<=DO (D4 (Jy p))+DO (Eo (Jy (Jb p)))+1:=by
 have p0:p≠[]:=λe=>by rw[e]at hl;simp at hl
 have i:Jb p≠[]:=λe=>by have:=X7 tp e;omega
 obtain⟨B,j,c,d⟩:=MN (K1 tp p0);obtain⟨C,k,f,g⟩:=MN (K1 (Jr p) i);have:=SX tp hl (a:=-(B+C)) (b:=B+C) (by clear c d f g;grind);rwa[c (B+C) (by clear c d f g;grind),d (-(B+C)) (by clear c d f g;grind),f (B+C) (by clear c d f g;grind),g (-(B+C)) (by clear c d f g;grind)]at this
def Io(w y:List Rat):List Rat:=Jp w (Jz w (JD y (Jb w)))
def KL(w y:List Rat):List Rat:=Jp (JD y (Jb w)) (Jz w (JD y (Jb w)))
def mJ:Nat->List Rat->List Rat->Rat->Rat->Nat
 |0,_,_,_,_=>0
 |n+1,w,y,x,z=>JS w x z+mJ n (Io w y) (KL w y) x z
theorem Yun.next(h:Yun R w y):Yun (Jp R w) (Io w y) (KL w y):=h.step.2.2.1
theorem Yun.sqf(h:Yun R w y):FU w:=MI _ _ _ _ (Aa _) h
theorem Yun.rest(h:Yun R w y):(∀x,ev R x=ev w x*ev (Jp R w) x)/\(∀x,ev (Jb R) x=ev y x*ev (Jp R w) x)/\∀d,Dv d R->Dv d (Jb R)->Dv d (Jp R w):=by
 have e:=h.step.2.2.2.1;have a:∀x,ev R x=ev w x*ev (Jp R w) x:=λx=>by
  have:=Jg w (Jp R w) x;rwa[<-e]at this
 have b:∀x,ev (Jb R) x=ev y x*ev (Jp R w) x:=λx=>by
  have:=Yv (g:=w) (u:=Jb R) (v:=Js y (Jp R w)) h.tw h.w0 (λx=>by
   rw[Jg,<-h.eq x,a x];grind) x
  rwa[Jg]at this
 refine⟨a,b,λd c f=>?_⟩;obtain⟨u,v,j⟩:=h.cop;refine c.comb f u v λx=>?_;have i:=j x;rw[a,b];have:ev (Jp R w) x=(ev u x*ev w x+ev v x*ev y x)*ev (Jp R w) x:=by rw[i,Co]
 rw[this];grind
theorem gG(f:Jd v=v)(d:FU v)(h:Dv u v)(b:0<=B):Sh B λx z=>JS u x z<=JS v x z:=by
 obtain⟨e,g,a⟩:=h.some f;have c:DW u e:=FU.parts (by rw[<-a];exact d);refine(Og c b).mono λx z _ _ _ h=>?_;show JS u x z<=JS v x z;rw[a,h];omega
theorem gH{a b:List Rat}(tb:Jd b=b)(h:Dv a b):∀d,Dv d a->Dv d (Jb a)->Dv d b/\Dv d (Jb b):=by
 obtain⟨c,i,e⟩:=h.some tb;intro d f g;refine⟨f.trans h,g.comb f c (Jb c) λx=>?_⟩;have:=Yp a c x;rw[<-e]at this;rw[this];grind
theorem gI(k:0<=B):∀(n:Nat) (R w y d b e:List Rat),Yun R w y->Yun d b e->Dv R d->Sh B λx z=>mJ n w y x z<=mJ n b e x z:=by
 intro n;induction n with
 |zero=>intro R w y d b e _ _ _;exact Sh.all λ_ _ _ _ _=>Aa _
 |succ n m=>
  intro R w y d b e h a g;have j:Dv w b:=FU.dv a.tw h.tw h.w0 h.sqf λc l=>(SC _ _ _ _ (Aa _) a c l).of_dv (h.dv.trans g);have f:=h.rest;have i:Dv (Jp R w) (Jp d b):=by
   have:=gH a.tR g (Jp R w) ⟨w,λx=>by rw[f.1 x];grind⟩ ⟨y,λx=>by rw[f.2.1 x];grind⟩;exact a.rest.2.2 _ this.1 this.2
  refine((gG a.tw a.sqf j k).and (m _ _ _ _ _ _ h.next a.next i)).mono λx z _ _ _ ⟨o,p⟩=>?_;show JS w x z+_<=JS b x z+_;omega
theorem SY:∀(n:Nat) (R w y:List Rat),Yun R w y->w.length<=1->∀x z,mJ n w y x z=0:=by
 intro n;induction n with
 |zero=>intro R w y _ _ x z;rfl
 |succ n a=>
  intro R w y h hl x z;rw[mJ,YJ (XH h.tw h.w0 hl x z),a _ _ _ h.next ?_ x z];have d:Dv (Io w y) w:=by
   have:=h.step.2.2.2.2.2;exact⟨Jz w (JD y (Jb w)),λx=>by
    have e:=Jg (Jz w (JD y (Jb w))) (Jp w (Jz w (JD y (Jb w)))) x;rw[<-this]at e;rw[e];show _=ev (Jp w (Jz w (JD y (Jb w)))) x*_;grind⟩
  have:=(d.len h.next.tw h.tw h.w0).1;omega
theorem IA(f:a≠0)(g:b≠0):a*b<0↔¬(a<0↔b<0):=by
 have pos:∀ {c:Rat},c≠0->¬c<0->0<c:=fun {c} d e=>by
  rcases Rat.le_iff_lt_or_eq.1 (Rat.not_lt.1 e)with h|h
  . exact h
  . exact absurd h.symm d
 by_cases d:a<0<;>by_cases e:b<0
 . have:=Rat.mul_pos (a:=-a) (b:=-b) (by grind) (by grind);simp[d,e];grind
 . have:=Rat.mul_pos (a:=-a) (b:=b) (by grind) (pos g e);simp[d,e];grind
 . have:=Rat.mul_pos (a:=a) (b:=-b) (pos f d) (by grind);simp[d,e];grind
 . have:=Rat.mul_pos (pos f d) (pos g e);simp[d,e];grind
theorem gJ:∀(n:Nat) (R w y:List Rat),R.length<=n->Yun R w y->∀x z,ev R x≠0->ev R z≠0->(mJ n w y x z%2=1↔ev R x*ev R z<0):=by
 intro n;induction n with
 |zero=>intro R w y l h;exact absurd (Az.1 Y) h.R0
 |succ n r=>
  intro R w y l h x z g j;obtain⟨b,v,_⟩:=h.rest;by_cases hl:w.length<=1
  . rw[SY _ _ _ _ h hl x z];obtain⟨d,k⟩:=Il h.tw h.w0 hl;have o:Dv R [1]:=KK h.tR h.R0 ⟨Js d y,λx=>by
     have A:=h.eq x;have f:=k x;rw[Jo]at f;rw[Jg];have:ev (Jb R) x=(ev w x*ev d x)*ev (Jb R) x:=by rw[<-f,Co]
     rw[this];grind⟩
    have m:=XH h.tR h.R0 (o.len h.tR DF DF).1 x z;unfold DU at m;constructor
    . intro q;omega
    . intro q;grind
  . have s:(Jp R w).length<=n:=by
     have:=JA h.tw h.next.tR h.w0 h.next.R0;rw[<-h.step.2.2.2.1]at this;omega
    have nx:ev w x≠0/\ev (Jp R w) x≠0:=⟨λe=>g (by rw[b,e];grind),λe=>g (by rw[b,e];grind)⟩;have c:ev w z≠0/\ev (Jp R w) z≠0:=⟨λe=>j (by rw[b,e];grind),λe=>j (by rw[b,e];grind)⟩;have i:=r _ _ _ s h.next x z nx.2 c.2;rw[mJ];have p:JS w x z=if ev w x*ev w z<0 then 1 else 0:=by
     unfold JS;by_cases q:ev w x*ev w z<0
     . rw[BC q,BC ⟨nx.1,Rat.le_of_lt q⟩]
     . rw[BB q,BB];rintro⟨_,q2⟩;rcases Rat.le_iff_lt_or_eq.1 q2 with a|a
       . exact q a
       . rcases AM.1 a with a|a
         . exact nx.1 a
         . exact c.1 a
    have e:ev R x*ev R z=(ev w x*ev w z)*(ev (Jp R w) x*ev (Jp R w) z):=by rw[b,b];grind
    have t:ev w x*ev w z≠0:=λq=>by
     rcases AM.1 q with q|q
     . exact nx.1 q
     . exact c.1 q
    have u:ev (Jp R w) x*ev (Jp R w) z≠0:=λq=>by
     rcases AM.1 q with q|q
     . exact nx.2 q
     . exact c.2 q
    rw[p,e,IA t u,<-i];by_cases q:ev w x*ev w z<0
    . rw[BC q];simp only[q,true_iff];omega
    . rw[BB q];simp only[q,false_iff,AY];omega
def dR:Nat->List Rat->List (List Rat)
 |0,p=>[p]
 |n+1,p=>p::dR n (Jb p)
def GH:Nat->List Rat->Rat->Prop
 |0,p,x=>ev p x≠0
 |n+1,p,x=>ev p x≠0/\GH n (Jb p) x
theorem GH.head:∀ {n:Nat} {p:List Rat} {x:Rat},GH n p x->ev p x≠0
 |0,_,_,h=>h
 |_+1,_,_,h=>h.1
theorem SZ:∀(n:Nat) (p:List Rat),∃t,dR n p=p::t
 |0,_=>⟨_,rfl⟩
 |_+1,_=>⟨_,rfl⟩
def dP:Nat->List Rat->List Rat
 |0,p=>p
 |n+1,p=>Js p (dP n (Jb p))
theorem Sa:∀(n:Nat) (p:List Rat) (x:Rat),ev (dP n p) x≠0->GH n p x:=by
 intro n;induction n with
 |zero=>intro p x h;exact h
 |succ n a=>
  intro p x h;rw[dP,Jg]at h;exact⟨λe=>h (by rw[e];grind),a _ _ λe=>h (by rw[e];grind)⟩
theorem MU(n:Nat)(p:List Rat)(x:Rat)(h:GH (n+1) p x):DO (JQ (dR (n+1) p) x)=(if ev p x*ev (Jb p) x<0 then 1 else 0)+DO (JQ (dR n (Jb p)) x):=by
 obtain⟨t,a⟩:=SZ n (Jb p);rw[dR,a,JK,JK,II h.2.head,IH h.2.head]
theorem gK{d:Rat}(g:a≠0)(i:b≠0)(j:c≠0)(k:d≠0){u v:Nat}(h:(u+v)%2=1↔c*d<0):
 (((if a*c<0 then 1 else 0)+u)+((if b*d<0 then 1 else 0)+v))%2=1↔a*b<0:=by
 rw[IA j k]at h;rw[IA g i];have e:=IA g j;have f:=IA i k;by_cases l:a<0<;>by_cases m:b<0<;>by_cases n:c<0<;>by_cases o:d<0<;>simp only[l,m,n,o,iff_true,iff_false,not_true,not_false_iff]at h e f ⊢<;>simp only[e,f,if_true,if_false]<;>omega
theorem gM:∀(n:Nat) (p:List Rat),Jd p=p->p.length=n+1->∀x z,GH n p x->GH n p z->((DO (JQ (dR n p) x)+DO (JQ (dR n p) z))%2=1↔ev p x*ev p z<0):=by
 intro n;induction n with
 |zero=>
  intro p tp hl x z a b;have d:=XH tp (λe=>by rw[e]at hl;simp at hl) Y x z;unfold DU at d;have c:∀x,GH 0 p x->DO (JQ (dR 0 p) x)=0:=λx a=>by
   rw[dR,JK,IH a];rfl
  rw[c x a,c z b];constructor
  . intro q;omega
  . intro q;grind
 |succ n f=>
  intro p tp hl x z a b;have i:=f (Jb p) (Jr p) (by have:=(X8 tp Y).1;omega) x z a.2 b.2;rw[MU n p x a,MU n p z b];exact gK a.1 b.1 a.2.head b.2.head i
theorem Sb(tp:Jd p=p)(p0:p≠[])(x z:Rat):(ev p x≠0->ev (Jq p) x≠0)/\(ev p x*ev p z<0↔ev (Jq p) x*ev (Jq p) z<0):=by
 obtain⟨g,d⟩:=Im tp p0;have e:∀x,ev p x=ev (Jq p) x*cf p (p.length-1):=λx=>by
  conv=>lhs;rw[d]
  rw[JJ]
 generalize cf p (p.length-1)=c at *;have c2:0<c*c:=by
  have:=Ys (f:=[c]) g (λx=>Jo _ x) 0 0;unfold DU at this;rwa[Jo]at this
 refine⟨λh q=>h (by rw[e,q];grind),?_⟩;rw[e,e,show ev (Jq p) x*c*(ev (Jq p) z*c)=(ev (Jq p) x*ev (Jq p) z)*(c*c)by grind];generalize ev (Jq p) x*ev (Jq p) z=t;constructor
 . intro h;rcases J9 0 t with q|q
   . have:=Rat.mul_nonneg q (Rat.le_of_lt c2);grind
   . rcases Rat.le_iff_lt_or_eq.1 q with q|q
     . exact q
     . rw[q]at h;grind
 . intro h;have:=Rat.mul_pos (a:=-t) (b:=c*c) (by grind) c2;grind
theorem Sc(b:0<k)(h:k<=a):0<a:=by grind
theorem gN(g:0<=B):∀(n:Nat) (p:List Rat),Jd p=p->p.length=n+1->Sh B λx z=>GH n p x->GH n p z->∃k,DO (JQ (dR n p) x)=DO (JQ (dR n p) z)+mJ (n+1) (DK p) (Dg p) x z+2*k:=by
 intro n;induction n with
 |zero=>
  intro p tp hl;have p0:p≠[]:=λe=>by rw[e]at hl;simp at hl
  refine Sh.all λx z _ _ _ b c=>⟨0,?_⟩;have r:∀x,GH 0 p x->DO (JQ (dR 0 p) x)=0:=λx b=>by
   rw[dR,JK,IH b];rfl
  have a:=Xq tp p0;have:=(a.dv.len a.tw a.tR a.R0).1;rw[YZ tp]at this;rw[r x b,r z c,SY _ _ _ _ a Y]
 |succ n P=>
  intro p tp hl;have p0:p≠[]:=λe=>by rw[e]at hl;simp at hl
  have v:=(X8 tp Y).1;have ts:=Jr p;have D:Jb p≠[]:=λe=>by rw[e]at v;simp at v;omega
  have a:=Xq tp p0;have I:=Xq ts D;have dd:Dv (Jp (Jq p) (DK p)) (Jq (Jb p)):=by
   refine Dv.trans ?_ (Oi ts D).2;obtain⟨_,i⟩:=Im tp p0;refine⟨DP (cf p (p.length-1)) (Dg p),λx=>?_⟩;have d:=MJ (cf p (p.length-1)) (Jq p) x;rw[<-i]at d;rw[d,a.rest.2.1,JJ];grind
  obtain⟨k,u,sg⟩:=MC _ _ _ _ (Aa _) a g;refine(((P (Jb p) ts Y).and (gI g (n+1) _ _ _ _ _ _ a.next I dd)).and ((sg.and (Of a g)).and (Ol a.sqf g))).mono λx z _ _ K ⟨⟨s,t⟩,⟨L,M⟩,N⟩ b c=>?_;obtain⟨k1,s⟩:=s b.2 c.2;have F:=gM (n+1) p tp hl x z b c;obtain⟨w,Q⟩:=Sb tp p0 x z;obtain⟨A,_⟩:=Sb tp p0 z x;have E:=gJ (n+2) (Jq p) (DK p) (Dg p) (by rw[YZ tp];omega) a x z (w b.1) (A c.1);rw[Q,<-E]at F;have l:=MU n p x b;have cz:=MU n p z c;have j:=a.rest.1;have V:ev (DK p) x≠0:=λe=>w b.1 (by rw[j,e];grind);have W:ev (DK p) z≠0:=λe=>A c.1 (by rw[j,e];grind);have fin:DO (JQ (dR (n+1) p) z)+mJ (n+2) (DK p) (Dg p) x z<=DO (JQ (dR (n+1) p) x)+1->∃k,DO (JQ (dR (n+1) p) x)=DO (JQ (dR (n+1) p) z)+mJ (n+1+1) (DK p) (Dg p) x z+2*k:=λh=>by
   refine⟨(DO (JQ (dR (n+1) p) x)-(DO (JQ (dR (n+1) p) z)+mJ (n+2) (DK p) (Dg p) x z))/2,?_⟩;show _=_+mJ (n+2) _ _ _ _+_;omega
  apply fin;have t:mJ (n+1) (Io (DK p) (Dg p)) (KL (DK p) (Dg p)) x z<=mJ (n+1) (DK (Jb p)) (Dg (Jb p)) x z:=t;have o:mJ (n+2) (DK p) (Dg p) x z=JS (DK p) x z+mJ (n+1) (Io (DK p) (Dg p)) (KL (DK p) (Dg p)) x z:=rfl;by_cases st:DU (DK p) x z
  . rw[o,YJ st,AY,l,cz];split<;>split<;>omega
  . have G:x<z:=by
     rcases Rat.le_iff_lt_or_eq.1 K with h|h
     . exact h
     . subst h;refine absurd ?_ st;exact Ys (f:=[ev (DK p) x]) V (λy=>Jo _ y) 0 0 |> λh=>by
        unfold DU at h ⊢;rwa[Jo]at h
    have U:=N.resolve_left st;obtain⟨S,T⟩:=L st;obtain⟨C,_⟩:=SW (M st G) (Rat.not_lt.1 st) U (Sc u S) (Sc u T);have H:0<ev (DK p) z*ev (Dg p) z:=by
     unfold EI at C;by_cases q:0<ev (DK p) z*ev (Dg p) z\/ev (DK p) z=0
     . rcases q with q|q
       . exact q
       . exact absurd q W
     . rw[BB q]at C;omega
    have R:¬ev p z*ev (Jb p) z<0:=by
     obtain⟨_,i⟩:=Im tp p0;have m:=MJ (cf p (p.length-1)) (Jq p) z;rw[<-i]at m;have d:ev p z=ev (Jq p) z*cf p (p.length-1):=by
      conv=>lhs;rw[i]
      rw[JJ]
     rw[m,d,a.rest.2.1,j];have:=Rat.mul_nonneg (Rat.le_of_lt H) (Eh (cf p (p.length-1)*ev (Jp (Jq p) (DK p)) z));grind
    have X:JS (DK p) x z<=1:=by unfold JS;split<;>omega
    rw[l,cz,BB R,o];split<;>omega
theorem gO:∀(n:Nat) (p:List Rat),p.length<=n->∀ {u v:Rat},u<v->(∀x,u<x->x<v->ev p x=0)->∀x,ev p x=0:=by
 intro n;induction n with
 |zero=>
  intro p hl u v _ _ x;rw[Az.1 (show p.length=0 by omega)];rfl
 |succ n f=>
  intro p hl u v k h x;obtain⟨m,j⟩:=ex ((u+v)/2);have g:u<m:=by grind
  have c:m<v:=by grind
  have e:=Mb p m;rw[h m g c]at e;rw[e x,f (Ga p m) (by rw[Ow];omega) c (λx i d=>by
   have a:=h x (by grind) d;rw[e x,Rat.zero_add]at a;rcases AM.1 a with b|b
   . grind
   . exact b) x]
  grind
theorem Om(tp:Jd p=p)(p0:p≠[]){u v:Rat}(h:u<v):∃x,u<x/\x<v/\ev p x≠0:=by
 refine Classical.byContradiction λq=>dE tp p0 (gO _ p (Aa _) h λx a b=>Classical.byContradiction λc=>q ⟨x,a,b,c⟩)
theorem gP{D:List Rat}(A:Jd D=D)(p:D≠[])(w:∀x,P x x)(tr:∀x y z,P x y->P y z->P x z)(h:Sh B λx z=>ev D x≠0->ev D z≠0->P x z)(f:Wi B a)(l:Wi B b)(g:a<=b)(i:ev D a≠0)(nb:ev D b≠0):P a b:=by
 obtain⟨d,d0,h⟩:=h;have q:0<d/2:=by grind
 obtain⟨n,s⟩:=steps q a b;have:∀(n:Nat) (a:Rat),Wi B a->ev D a≠0->a<=b->b-a<=(n:Rat)*(d/2)->P a b:=by
  intro n;induction n with
  |zero=>
   intro a f _ g j;have e:a=b:=by
    have:((0:Nat):Rat)=0:=rfl;rw[this]at j;grind
   rw[e];exact w _
  |succ n t=>
   intro a f i g j;have r:((n+1:Nat):Rat)=(n:Rat)+1:=by rw[Rat.natCast_add];rfl
   rw[r]at j;rcases J9 (b-a) d with k|k
   . exact h a b f l g k i nb
   . obtain⟨c,c1,c2,o⟩:=Om A p (u:=a+d/2) (v:=a+d) (by grind);have m:Wi B c:=⟨by have:=f.1;grind,by have:=l.2;grind⟩;exact tr _ _ _ (h a c f m (by grind) (by grind) i o) (t c m o (by grind) (by grind))
 exact this n a f i g s
theorem Sd(h:0<a*b):c*a<0↔c*b<0:=by
 by_cases c0:c=0
 . subst c0;simp
 . obtain⟨d,b0⟩:=Jv h;rw[IA c0 d,IA c0 b0];have:¬(a*b<0):=by grind
   rw[IA d b0]at this;grind
def GI(l m:List Rat):Prop:=l.length=m.length/\∀i,0<cf l i*cf m i\/(cf l i=0/\cf m i=0)
theorem GI.tail{l m:List Rat}(h:GI (a::l) (b::m)):GI l m:=⟨by simpa using h.1,λi=>h.2 (i+1)⟩
theorem Se:∀(l m:List Rat) (a b:Rat),GI l m->(0<a*b\/(a=0/\b=0))->YB a l=YB b m:=by
 intro l;induction l with
 |nil=>intro m a b h _;cases m with|nil=>rfl|cons=>simp[GI]at h
 |cons c l g=>
  intro m a b h f;cases m with
  |nil=>simp[GI]at h
  |cons d m=>
   rcases h.2 0 with e|⟨c0,d0⟩
   . have e:0<c*d:=e;obtain⟨i,j⟩:=Jv e;rw[Yd i,Yd j,g m c d h.tail (Or.inl e)];rcases f with f|⟨rfl,rfl⟩
     . have:=KQ f e;by_cases q:a*c<0
       . rw[BC q,BC (this.1 q)]
       . rw[BB q,BB λr=>q (this.2 r)]
     . rw[A2,A2]
   . have c0:c=0:=c0;have d0:d=0:=d0;rw[YB,BC c0,YB,BC d0];exact g m a b h.tail f
theorem GI.refl(l:List Rat):GI l l:=⟨rfl,λi=>by
 by_cases h:cf l i=0
 . exact Or.inr ⟨h,h⟩
 . have:=Ys (f:=[cf l i]) h (λx=>Jo _ x) 0 0;unfold DU at this;rw[Jo]at this;exact Or.inl this⟩
def EO:List Rat->Rat
 |[]=>0
 |c::t=>if c=0 then EO t else c
theorem On(t:List Rat):∀(a v:Rat),0<v*EO t->YB a t=(if a*v<0 then 1 else 0)+YB v t:=by
 induction t with
 |nil=>intro a v h;simp[EO]at h
 |cons c t b=>
  intro a v h;rw[EO]at h;by_cases c0:c=0
  . rw[BC c0]at h;rw[YB,BC c0,YB,BC c0];exact b a v h
  . rw[BB c0]at h;rw[Yd c0,Yd c0,BB (show ¬v*c<0 by grind)];have:=Sd (c:=a) h;by_cases q:a*v<0
    . rw[BC q,BC (this.1 q)];omega
    . rw[BB q,BB λr=>q (this.2 r)];omega
theorem Sf(tp:Jd p=p)(p0:p≠[]):EO p≠0:=by
 have:∀(p:List Rat),EO p=0->∀i,cf p i=0:=by
  intro p;induction p with
  |nil=>intro _ i;exact YI i
  |cons c t a=>
   intro h i;rw[EO]at h;by_cases c0:c=0
   . rw[BC c0]at h;cases i with
     |zero=>exact c0
     |succ i=>exact a h i
   . rw[BB c0]at h;exact absurd h c0
 exact λh=>Jt tp p0 (this p h _)
theorem Sg(p:List Rat)(h:EO p≠0):∃d,0<d/\∀x,0<x->x<=d->0<ev p x*EO p:=by
 induction p with
 |nil=>exact absurd rfl h
 |cons c t u=>
  rw[EO]at h ⊢;by_cases c0:c=0
  . rw[BC c0]at h ⊢;obtain⟨d,d0,o⟩:=u h;refine⟨d,d0,λx g i=>?_⟩;have:=Rat.mul_pos g (o x g i);rw[Hl,c0];grind
  . rw[BB c0];obtain⟨K,k,n⟩:=Xr t (B:=1) DF;have c2:0<c*c:=by
     have:=Ys (f:=[c]) c0 (λx=>Jo _ x) 0 0;unfold DU at this;rwa[Jo]at this
    obtain⟨C,j,m⟩:=IG c;obtain⟨e,l,q⟩:=small (K:=K*C) (r:=c*c/2) (Rat.le_of_lt (Rat.mul_pos k j)) (by grind);obtain⟨d,d0,v,w⟩:=Gp l (show(0:Rat)<1 by decide);refine⟨d,d0,λx g i=>?_⟩;rw[Hl];have s:=(n x ⟨by grind,by grind⟩).mul m;have y:=q x (by grind);have z:=Rat.mul_nonneg (a:=x) (b:=ev t x*c+K*C) (by grind) (by have:=s.1;grind);grind
theorem gT{t:List Rat}(tp:Jd (c::t)=c::t):GI (Jb (c::t)) t:=by
 by_cases hl:1<(c::t).length
 . refine⟨by have:=(X8 tp hl).1;simpa using this,λi=>?_⟩;rw[Xp,J3];have a:(0:Rat)<(((i+1:Nat):Int):Rat):=by
    have:((0:Int):Rat)<(((i+1:Nat):Int):Rat):=Rat.intCast_lt_intCast.2 Y;exact this
   generalize (((i+1:Nat):Int):Rat)=k at a;rcases(GI.refl t).2 i with h|⟨h,_⟩
   . left
     have:=Rat.mul_pos h a;grind
   . right
     rw[h];exact⟨A2 _,rfl⟩
 . have:t=[]:=Az.1 (by rw[Ah]at hl;omega);subst this;have b:Jb [c]=[]:=Yx (Jr _) λx=>by rw[Xk];simp[dv,ev];exact Rat.add_zero 0
   rw[b];exact GI.refl _
theorem gU:∀(n:Nat) (p:List Rat),Jd p=p->p.length=n+1->∃d,0<d/\∀x,0<x->x<=d->GH n p x/\∀a,YB a (JQ (dR n p) x)=YB a p:=by
 intro n;induction n with
 |zero=>
  intro p tp hl;match p,hl with
  |[c],_=>
   have c0:c≠0:=by
    have:=Jt tp O;simpa[cf]using this
   refine⟨1,DF,λx _ _=>⟨by show ev [c] x≠0;rw[Jo];exact c0,λa=>?_⟩⟩;rw[dR,JK,Jo];rfl
 |succ n s=>
  intro p tp hl;have p0:p≠[]:=λe=>by rw[e]at hl;simp at hl
  have C:=(X8 tp Y).1;obtain⟨d,d0,l⟩:=s (Jb p) (Jr p) Y;have f0:=Sf tp p0;obtain⟨e,k,m⟩:=Sg p f0;obtain⟨b,b0,z,A⟩:=Gp d0 k;refine⟨b,b0,λx j B=>?_⟩;obtain⟨u,w⟩:=l x j (by grind);have g:=m x j (by grind);have i:=(Jv g).1;refine⟨⟨i,u⟩,λa=>?_⟩;rw[dR,JK,Yd i,w];match p,tp,p0,g,i with
  |c::t,tp,p0,g,i=>
   have sg:=gT tp;obtain⟨v,o⟩:=ex (ev (c::t) x);rw[o]at g i ⊢;have y:0<v*v:=by
    have:=Ys (f:=[v]) i (λx=>Jo _ x) 0 0;unfold DU at this;rwa[Jo]at this
   rw[Se _ _ v v sg (Or.inl y)];rw[EO]at g;by_cases c0:c=0
   . rw[BC c0]at g;rw[YB,BC c0];exact(On t a v g).symm
   . rw[BB c0]at g;rw[Yd c0,Se t t v c (GI.refl t) (Or.inl g)];have:=Sd (c:=a) g;by_cases q:a*v<0
     . rw[BC q,BC (this.1 q)]
     . rw[BB q,BB λr=>q (this.2 r)]
def Gs:Rat->List Rat->Rat
 |a,[]=>a
 |a,b::l=>if b=0 then Gs a l else Gs b l
theorem gV(l:List Rat):∀a b:Rat,YB a (l++[b])=YB a l+(if Gs a l*b<0 then 1 else 0):=by
 induction l with
 |nil=>
  intro a b;rw[Ar,Gs];by_cases b0:b=0
  . subst b0;simp[YB]
  . rw[Yd b0];simp[YB]
 |cons c l d=>
  intro a b;rw[Au,Gs];by_cases c0:c=0
  . rw[YB,BC c0,YB,BC c0,BC c0];exact d a b
  . rw[Yd c0,Yd c0,BB c0,d c b];omega
theorem gW(l:List Rat):∀a b:Rat,Gs a (l++[b])=if b=0 then Gs a l else b:=by
 induction l with
 |nil=>intro a b;rfl
 |cons c l d=>
  intro a b;rw[Au,Gs,Gs,d,d];by_cases c0:c=0
  . rw[BC c0,BC c0]
  . rw[BB c0,BB c0]
theorem gs(l:List Rat):Gs 0 l.reverse=EO l:=by
 induction l with
 |nil=>rfl
 |cons c t a=>rw[List.reverse_cons,gW,a,EO]
theorem Si(l:List Rat):EO l=0->∀a,YB a l=0:=by
 induction l with
 |nil=>intro _ a;rfl
 |cons c t b=>
  intro h a;rw[EO]at h;by_cases c0:c=0
  . rw[BC c0]at h;rw[YB,BC c0];exact b h a
  . rw[BB c0]at h;exact absurd h c0
theorem gz(l:List Rat):DO l.reverse=DO l:=by
 induction l with
 |nil=>rfl
 |cons c t a=>
  rw[List.reverse_cons];show YB 0 (t.reverse++[c])=YB 0 (c::t);rw[gV,gs];have a:YB 0 t.reverse=YB 0 t:=a;rw[a];by_cases c0:c=0
  . subst c0;rw[YB,BC rfl,Rat.mul_zero,BB DF];rfl
  . rw[Yd c0,A2,BB (show ¬(0:Rat)<0 by decide)];by_cases f0:EO t=0
    . rw[f0,A2,BB (show ¬(0:Rat)<0 by decide),Si t f0,Si t f0]
    . have b:0<EO t*EO t:=by
       have:=Ys (f:=[EO t]) f0 (λx=>Jo _ x) 0 0;unfold DU at this;rwa[Jo]at this
      have d:=On t 0 (EO t) b;have e:=On t c (EO t) b;rw[A2,BB (show ¬(0:Rat)<0 by decide)]at d;rw[Ck c]at e;omega
def ms(L:List (List Rat × Nat))(f:List Rat->Nat):Nat:=(L.map λs=>s.2*f s.1).sum
theorem Oo(f:List Rat->Nat):ms [] f=0:=rfl
theorem Gt(s:List Rat × Nat)(L:List (List Rat × Nat))(f:List Rat->Nat):ms (s::L) f=s.2*f s.1+ms L f:=by simp[ms]
theorem g7(L M:List (List Rat × Nat))(f:List Rat->Nat):ms (L++M) f=ms L f+ms M f:=by simp[ms]
def Ip(L:List (List Rat × Nat)):Prop:=∀s∈L,Jd s.1=s.1/\s.1≠[]/\DK s.1=s.1
theorem Ip.tail{s:List Rat × Nat}{L:List (List Rat × Nat)}(h:Ip (s::L)):Ip L:=λt a=>h t (C9 _ a)
theorem hO(d:0<=B):∀L,Ip L->Sh B λx z=>ms L (λq=>DO (JQ (Jy q) x))=ms L (λq=>DO (JQ (Jy q) z))+ms L (λq=>JS q x z):=by
 intro L;induction L with
 |nil=>intro _;exact Sh.all λ_ _ _ _ _=>rfl
 |cons s L g=>
  intro h;obtain⟨a,b,c⟩:=h s (Cc ..);refine((MT a b d).and (g h.tail)).mono λx z _ _ _ ⟨e,f⟩=>?_;show ms (s::L) _=ms (s::L) _+ms (s::L) _;rw[Gt,Gt,Gt,f,e,c,AN];omega
theorem iA:∀L,Ip L->∃d:Rat,0<d/\∀z,0<z->z<=d->ms L (λq=>DO (JQ (Jy q) z))=ms L (λq=>DO (JQ (Jy q) 0)):=by
 intro L;induction L with
 |nil=>intro _;exact⟨1,DF,λ_ _ _=>rfl⟩
 |cons s L y=>
  intro h;obtain⟨i,j,r⟩:=h s (Cc ..);obtain⟨d,d0,u⟩:=y h.tail;obtain⟨e,b,v⟩:=MT i j (B:=1) DF;obtain⟨f,f0,w⟩:=Sg s.1 (Sf i j);obtain⟨g,o,E,F⟩:=Gp d0 b;obtain⟨k,C,H,I⟩:=Gp o f0;obtain⟨m,D,K,M⟩:=Gp C (show(0:Rat)<1 by decide);refine⟨m,D,λz z0 G=>?_⟩;have x:=u z z0 (by grind);have l:DO (JQ (Jy s.1) 0)=DO (JQ (Jy s.1) z)+JS (DK s.1) 0 z:=v 0 z ⟨by grind,by grind⟩ ⟨by grind,by grind⟩ (by grind) (by grind);have n:=w z z0 (by grind);have A:JS (DK s.1) 0 z=0:=by
   rw[r];unfold JS;refine BB ?_;rintro⟨a,q2⟩;obtain⟨p,hp⟩:=ex (s.1);rw[hp]at a q2 n;cases p with
   |nil=>exact a rfl
   |cons c t=>
    have b:ev (c::t) 0=c:=by rw[Hl,A2,Rat.add_zero]
    rw[b]at a q2;rw[EO,BB a]at n;grind
  rw[A]at l;rw[Gt,Gt,x,l];rfl
theorem iB:∀L,Ip L->∃B:Rat,0<B/\∀z,B<=z->ms L (λq=>DO (JQ (Jy q) z))=ms L (λq=>DO (D4 (Jy q))):=by
 intro L;induction L with
 |nil=>intro _;exact⟨1,DF,λ_ _=>rfl⟩
 |cons s L g=>
  intro h;obtain⟨c,f,j⟩:=h s (Cc ..);obtain⟨d,d0,a⟩:=g h.tail;obtain⟨e,i,b,_⟩:=MN (K1 c f);refine⟨d+e,by clear a b;grind,λz k=>?_⟩;rw[Gt,Gt,a z (by clear a b;grind),b z (by clear a b;grind)]
theorem iC(w y:List Rat):∀n,DI (Gr (w,y)).1 (Gr (w,y)).2 n=DI w y (n+1):=by
 intro n;induction n with
 |zero=>rfl
 |succ n a=>rw[DI,a];rfl
theorem Sj(x z:Rat):∀(n:Nat) (R w y:List Rat),Yun R w y->mJ (n+1) w y x z=mJ n w y x z+JS (DI w y n).1 x z:=by
 intro n;induction n with
 |zero=>intro R w y _;rw[mJ,mJ,mJ];exact Fs _ _
 |succ n b=>
  intro R w y h;have a:Jz w (JD y (Jb w))≠[]:=Xo h.tw (Yi ..) (Or.inl h.w0);have e:Gr (w,y)=(Io w y,KL w y):=by
   unfold Gr Io KL;rw[GX a,GX a]
  have s:=iC w y n;rw[e]at s;rw[mJ,b _ _ _ h.next,s,mJ];omega
theorem iD(h:Yun q w y)(a:Jq q=q)(f:0<=B):∀N,Sh B λx z=>ms (yL w y N) (λq=>JS q x z)+N*JS (DI w y N).1 x z=mJ N w y x z:=by
 intro N;induction N with
 |zero=>exact Sh.all λx z _ _ _=>by show ms [] _+0*_=0;rw[Oo,Nat.zero_mul]
 |succ N j=>
  obtain⟨k,o,b,p,l,_⟩:=MG h a N;have n:=(X9 h a N).1;have m:yP (DI w y N)≠[]:=λe=>n.w0 (by rw[b,e];rfl);refine((Og l f).and j).mono λx z _ _ _ ⟨g,i⟩=>?_;show ms (yL w y (N+1)) _+(N+1)*JS (DI w y (N+1)).1 x z=mJ (N+1) w y x z;have c:ms (yL w y (N+1)) (λq=>JS q x z)=ms (yL w y N) (λq=>JS q x z)+(N+1)*JS (yP (DI w y N)) x z:=by
   rw[yL,g7];by_cases hl:1<(yP (DI w y N)).length
   . rw[BC hl,Gt,Oo,Cj]
   . rw[BB hl,Oo,YJ (XH k m Y x z),CG]
  have d:JS (DI w y N).1 x z=JS (yP (DI w y N)) x z+JS (DI w y (N+1)).1 x z:=by
   rw[<-g,<-b]
  rw[Sj x z N _ _ _ h,c,<-i,d,AN,Nat.succ_mul,Nat.succ_mul];omega
theorem iE(h:Yun q w y)(c:Jq q=q)(e:(DI w y N).1.length<=1)(x z:Rat):∀k,mJ (N+k) w y x z=mJ N w y x z/\(DI w y (N+k)).1.length<=1:=by
 intro k;induction k with
 |zero=>exact⟨rfl,e⟩
 |succ k b=>
  have a:=(X9 h c (N+k)).1;have g:=(X9 h c (N+k+1)).1;obtain⟨_,_,f,_⟩:=MG h c (N+k);refine⟨?_,?_⟩
  . rw[show N+(k+1)=(N+k)+1 by omega,Sj x z _ _ _ _ h,b.1,YJ (XH a.tw a.w0 b.2 x z)];rfl
  . have d:Dv (DI w y (N+k+1)).1 (DI w y (N+k)).1:=by
     rw[f];exact(Dv.refl _).mul' _
    have:=(d.len g.tw a.tw a.w0).1;have:=b.2;rw[show N+(k+1)=(N+k)+1 by omega];omega
theorem iF:∀(n:Nat) (p:List Rat),Jd p=p->p.length=n+1->MK (dR n p)/\(Jd (dP n p)=dP n p/\dP n p≠[])/\∀a,0<a*cf p (p.length-1)->YB a (D4 (dR n p))=0:=by
 intro n;induction n with
 |zero=>
  intro p tp hl;have p0:p≠[]:=λe=>by rw[e]at hl;simp at hl
  refine⟨λq hq=>?_,⟨tp,p0⟩,λa b=>?_⟩
  . rw[dR,List.mem_singleton]at hq;subst hq;exact⟨tp,p0⟩
  . show YB a [cf p (p.length-1)]=0;rw[Yd (Jv b).2,BB (by grind)];rfl
 |succ n o=>
  intro p tp hl;have p0:p≠[]:=λe=>by rw[e]at hl;simp at hl
  obtain⟨s,r⟩:=X8 tp Y;have ts:=Jr p;obtain⟨i,⟨j,l⟩,m⟩:=o (Jb p) ts Y;refine⟨λq hq=>?_,⟨J2 _ _,Rq tp j p0 l⟩,λa b=>?_⟩
  . rw[dR,FN]at hq;rcases hq with rfl|hq
    . exact⟨tp,p0⟩
    . exact i q hq
  . show YB a (cf p (p.length-1)::D4 (dR n (Jb p)))=0;have c0:=(Jv b).2;rw[Yd c0,BB (by grind),m];rw[r];have d:(0:Rat)<(((p.length-1:Nat):Int):Rat):=by
     have:((0:Int):Rat)<(((p.length-1:Nat):Int):Rat):=Rat.intCast_lt_intCast.2 Y;exact this
    generalize (((p.length-1:Nat):Int):Rat)=k at d;generalize cf p (p.length-1)=c at c0;have g:0<c*c:=by
     have:=Ys (f:=[c]) c0 (λx=>Jo _ x) 0 0;unfold DU at this;rwa[Jo]at this
    have:=Rat.mul_pos g d;grind
theorem iG(tp:Jd p=p)(p0:p≠[])(hn:∀n,n<N->1<(DI (DK p) (Dg p) n).1.length)(E:(DI (DK p) (Dg p) N).1.length<=1):
 ∃k,DO p+ms (yL (DK p) (Dg p) N) (λq=>DO (D4 (Jy q)))=ms (yL (DK p) (Dg p) N) (λq=>DO (JQ (Jy q) 0))+2*k:=by
 have r:=Xq tp p0;have w:=Hy tp;obtain⟨n,hl⟩:∃n,p.length=n+1:=⟨p.length-1,by have:=Ag.2 p0;omega⟩;have hN:=(R3 r w hn E).1;rw[YZ tp]at hN;have ok:Ip (yL (DK p) (Dg p) N):=λs hs=>by
  obtain⟨D,_,_,M,Q,h4,_⟩:=(R1 r w N).1 s hs;have K:s.1≠[]:=λe=>by rw[e]at D;simp at D
  exact⟨Q,K,fI Q K h4 M⟩
 obtain⟨L,R⟩:=ex (yL (DK p) (Dg p) N);have mm:∀ {B:Rat},0<=B->Sh B λx z=>ms L (λq=>JS q x z)=mJ (n+1) (DK p) (Dg p) x z:=λo=>by
  refine(iD r w o N).mono λx z _ _ _ h=>?_;show ms L _=_;have T:=(X9 r w N).1;rw[R,YJ (XH T.tw T.w0 E x z),CG,Cj]at h;have:=(iE r w E x z (n+1-N)).1;rw[show N+(n+1-N)=n+1 by omega]at this;rw[h,this]
 rw[R]at ok ⊢;obtain⟨V,⟨A,C⟩,W⟩:=iF n p tp hl;obtain⟨d,d0,c⟩:=gU n p tp hl;obtain⟨e,e0,hE⟩:=iA L ok;obtain⟨f,f0,i⟩:=iB L ok;obtain⟨g,g0,j,_⟩:=MN V;obtain⟨m,m0,m1,m2⟩:=Gp d0 e0;obtain⟨x,x1,x2,nx⟩:=Om A C m0;obtain⟨z,z1,z2,nz⟩:=Om A C (u:=m+f+g) (v:=m+f+g+1) (by clear c hE i j;grind);have G:=(c x x1 (by clear c hE i j;grind)).2 0;have k2:=hE x x1 (by clear c hE i j;grind);have k3:=i z (by clear c hE i j;grind);have k4:=j z (by clear c hE i j;grind);have U:0<=z:=by clear c hE i j;grind
 have I:x<=z:=by clear c hE i j;grind
 clear c hE i j;have k5:DO (D4 (dR n p))=0:=by
  obtain⟨t,ht⟩:=SZ n p;have H:=Jt tp p0;have X:0<cf p (p.length-1)*cf p (p.length-1):=by
   have:=Ys (f:=[cf p (p.length-1)]) H (λx=>Jo _ x) 0 0;unfold DU at this;rwa[Jo]at this
  have:=W _ X;rw[ht]at this ⊢;have e:D4 (p::t)=cf p (p.length-1)::D4 t:=rfl;rw[e]at this ⊢;rw[Yd H,BB (by grind)]at this;rw[IH H];omega
 have o:0<=z:=U;obtain⟨k,S⟩:=gP (B:=z) (P:=λx z=>∃k,DO (JQ (dR n p) x)+ms L (λq=>DO (JQ (Jy q) z))=DO (JQ (dR n p) z)+ms L (λq=>DO (JQ (Jy q) x))+2*k) A C
  (λ_=>⟨0,rfl⟩) (λx y z ⟨k,D⟩ ⟨l,M⟩=>⟨k+l,Y⟩)
  (((gN o n p tp hl).and ((hO o L ok).and (mm o))).mono λx z _ _ _ ⟨F,i2,i3⟩ hx hz=>by
   obtain⟨k,F⟩:=F (Sa _ _ _ hx) (Sa _ _ _ hz);exact⟨k,by rw[i2,i3,F];omega⟩)
  (a:=x) (b:=z) ⟨by grind,I⟩ ⟨by grind,by grind⟩ I nx nz
 refine⟨k,?_⟩;have G:DO (JQ (dR n p) x)=DO p:=G;rw[G,k2,k3,k4,k5,AY]at S;exact S
end
namespace M3
open Go.RowKit Go.Shelf
attribute [local go_sem] Oper.semAt_some
theorem iH(v:Value)(p:List Rat)(w:World)(h:Je w v p)(hl:p.length<=1):
 Calls Tryz.prog 37 #[v] w λe s=>e=.returned (.slice none 0 0)/\Bl w s:=by
 have l:(p.length:Int)-1<1:=Y
 obtain⟨d0,c⟩:=ex ((p.length:Int)-1:Int);rw[c]at l;have n:=Ja c;have m:=Ja λ(V:World) (x:Value) (r:List Rat) (o:Je V x r)=>JX x r V o;obtain⟨j,la,k,rfl⟩:=h.form;have d:=(Mem.nil w).push (.poly p) (cs:=#[.slice j la k]) h;obtain⟨W0,b⟩:=ex (w.alloc (.cells #[.slice j la k] 25));have g:=Ja b;have f:Hid (Mem w W0 [some (w.heap.size,.poly p)]):=Ja (by rw[<-b];exact d);clear d b h c hl;go_enter Tryz.func37,Tryz.ntmps37
 go_upto_region 1 with fail
 rw[g.o];clear g;obtain⟨t,l1,c1,q,r1⟩:=f.o.poly2 (i:=0) rfl;have u:=q.cell;have a:=Ja (m.o W0 _ p r1);rw[n.o]at a;go_wp2_with(go_at_call 30;refine a.o.mono ?_;clear a;rintro e y ⟨rfl,hq⟩)
 go_ret;exact⟨rfl,(f.o.below hq).2.2⟩
end M3
section
open Go.RowKit Go.Shelf
def Oq(r:Bool)(base:Nat)(W:World)(g cap:Nat)(f:Nat->Int)(L:List (List Rat × Nat)):Prop:=
 base<=g/\(∃cs,W.heap[g]?=some (.cells cs (D3 r) (0,0)))/\L.length<=cap/\cap<=maxLen/\
  ∀j p t,L[j]?=some (p,t)->∃x,W.cell? ⟨g,j*2,none⟩=some x/\W.cell? ⟨g,j*2+1,none⟩=some (.int .i64 (f j))/\RowK r W x p
def MV(L:List (List Rat × Nat))(j:Nat):Int:=match L[j]? with|some x=>(x.2:Int)|none=>0
section
variable {r:Bool} {base:Nat} {W W':World} {v:Value} {g cap:Nat} {f:Nat->Int} {L:List (List Rat × Nat)}
theorem D8.toT(h:D8 r base W v L)(d:L≠[]):∃g cap,v=.slice (some ⟨g,0,none⟩) L.length cap/\Oq r base W g cap (MV L) L:=by
 rcases h with⟨_,h⟩|⟨g,cap,a,f,i,b,k,l,w,m⟩
 . exact absurd h d
 . refine⟨g,cap,f,i,⟨a,b⟩,k,l,λj p t e=>?_⟩;obtain⟨x,q,s,u⟩:=m.2 j p t e;have y:j<L.length:=(Ac.1 e).1;have c:∀o,o<L.length*2->W.cell? ⟨g,o,none⟩=(a.toList.take (L.length*2))[o]?:=λo n=>by
    rw[A5 n];simp[World.cell?,b]
   exact⟨x,(c _ Y).trans q,(c _ Y).trans (s.trans (by unfold MV;rw[e])),u⟩
theorem Oq.lt(h:Oq r base W g cap f L):g<W.heap.size:=by
 obtain⟨_,⟨cs,a⟩,_⟩:=h;exact(Ab.1 a).1
end
end
open Go.RowKit Go.Shelf
def GJ(q:List Rat):Int:=Eb q-Hh q 0
def sI:List (List Rat × Nat)->Int
 |[]=>0
 |s::L=>GJ s.1*(s.2:Int)+sI L
variable{L:List (List Rat × Nat)}{p q:List Rat}{t:Nat}
theorem iI(L M:List (List Rat × Nat)):sI (L++M)=sI L+sI M:=by
 induction L with
 |nil=>simp[sI]
 |cons s L a=>rw[Au,sI,sI,a];omega
theorem iJ{k:Nat}(h:L[k]?=some (q,t)):sI (L.take (k+1))=sI (L.take k)+GJ q*(t:Int):=by
 rw[List.take_add_one,iI,h];simp[sI]
theorem Sk(h:q≠[]):GJ q=(DO (JQ (Jy q) 0):Int)-(DO (D4 (Jy q)):Int):=by
 unfold GJ Eb Hh;rw[BB h,BB h];omega
theorem iK:∀L:List (List Rat × Nat),(∀s∈L,s.1≠[])->sI L=(ms L (λq=>DO (JQ (Jy q) 0)):Int)-(ms L (λq=>DO (D4 (Jy q))):Int):=by
 intro L;induction L with
 |nil=>intro _;rfl
 |cons s L b=>
  intro h;rw[sI,Gt,Gt,b λt a=>h t (C9 _ a),Sk (h s (Cc ..)),Int.sub_mul];rw[Int.natCast_add,Int.natCast_add,FO,FO,CN (s.2:Int),CN (s.2:Int)];omega
theorem Sl(h:q≠[])(hl:q.length<=17)(f:t<=25):(-17<=GJ q/\GJ q<=17)/\(-425<=GJ q*(t:Int)/\GJ q*(t:Int)<=425):=by
 have d:=MS h;have a:=XC (JQ (Jy q) 0);have c:=XC (D4 (Jy q));unfold JQ at a;unfold D4 at c;rw[CQ]at a c;have e:=Sk h;unfold JQ D4 at e;have b:-17<=GJ q/\GJ q<=17:=Y
 refine⟨b,?_⟩;have g:=Int.mul_le_mul_of_nonneg_right b.1 (Int.natCast_nonneg t);have i:=Int.mul_le_mul_of_nonneg_right b.2 (Int.natCast_nonneg t);omega
theorem Sn(h:∀s∈L,s.1≠[]/\s.1.length<=17/\s.2<=25):-425*(L.length:Int)<=sI L/\sI L<=425*(L.length:Int):=by
 induction L with
 |nil=>exact⟨DF,DF⟩
 |cons s L e=>
  obtain⟨a,b,c⟩:=h s (Cc ..);have:=(Sl a b c).2;have:=e λt d=>h t (C9 _ d);rw[sI,Ah];omega
theorem iL(hl:p.length=1):Eb p=0:=by
 have p0:p≠[]:=λe=>by rw[e]at hl;simp at hl
 have c:=MS p0;have a:=Oj (Eo (Jy p));have b:=Oj (D4 (Jy p));unfold Eo at a;unfold D4 at b;rw[CQ]at a b;unfold Eb;rw[BB p0];unfold Eo D4;omega
theorem iM(tp:Jd p=p)(hl:1<p.length):Eb p-1<=Eb (Jb p):=by
 have p0:p≠[]:=λe=>by rw[e]at hl;simp at hl
 have a:Jb p≠[]:=λe=>by have:=X7 tp e;omega
 have:=gF tp hl;unfold Eb;rw[BB p0,BB a];omega
theorem iN(tp:Jd p=p)(hl:1<p.length)(x y:Rat):FT p x y-1<=FT (Jb p) x y:=by
 have p0:p≠[]:=λe=>by rw[e]at hl;simp at hl
 have a:Jb p≠[]:=λe=>by have:=X7 tp e;omega
 unfold FT;rw[BB p0,BB a];by_cases h:y<=x
 . rw[BC h,BC h];decide
 . rw[BB h,BB h];have:=SX tp hl (Rat.le_of_lt (Rat.not_le.1 h));omega
theorem iO(p0:p≠[]){n:Nat}(hl:p.length<=n)(x y:Rat):-(n:Int)<=FT p x y/\FT p x y<=n:=by
 have c:=MS p0;have a:=XC (JQ (Jy p) x);have b:=XC (JQ (Jy p) y);unfold JQ at a b;rw[CQ]at a b;unfold FT;rw[BB p0];unfold JQ;split<;>omega
namespace M3
theorem iP{z:List Rat}(a:Jd z=z)(z0:z≠[])(K:z.length<=17)(v:Cd 41 z):∃L:List (List Rat × Nat),L.length<=25/\
 (∀x∈L,Jd x.1=x.1/\x.1≠[]/\x.1.length<=17/\x.2<=25/\Cd 80 x.1)/\(∃k:Nat,(DO z.reverse:Int)=sI L+2*(k:Int))/\
 ∀(V:World) (x:Value),Je V x z->Calls Tryz.prog 37 #[x] V λe j=>∃u,e=.returned u/\D8 true V.heap.size j u L/\Bl V j:=by
 have t:Jq (Jq z)=Jq z:=Hy a;have lq:(Jq z).length=z.length:=YZ a;have q0:=KG a z0;have tq:=YF z;have o:Cd 75 z:=v.mono Y;have cq:Cd 75 (Jq z):=o.mon a;have f:=Xq a z0;have fin:∀ {N:Nat},(∀n,n<N->1<(DI (DK z) (Dg z) n).1.length)->(DI (DK z) (Dg z) N).1.length<=1->(∀x∈yL (DK z) (Dg z) N,Jd x.1=x.1/\x.1≠[]/\x.1.length<=17/\x.2<=25/\Cd 80 x.1)/\∃k:Nat,(DO z.reverse:Int)=sI (yL (DK z) (Dg z) N)+2*(k:Int):=fun {N} b p=>by
  have B:=R3 f t b p;have all:∀x∈yL (DK z) (Dg z) N,Jd x.1=x.1/\x.1≠[]/\x.1.length<=17/\x.2<=25/\Cd 80 x.1:=λx c=>by
   obtain⟨q,G,H,I,i,C,r,_⟩:=(R1 f t N).1 x c;have F:=(r.len i tq q0).1;exact⟨i,λe=>by rw[e]at q;simp at q,Y,Y,eF tq q0 Y cq i C r⟩
  refine⟨all,?_⟩;obtain⟨k,E⟩:=iG a z0 b p;refine⟨k,?_⟩;rw[iK _ λs A=>(all s A).2.1,gz];omega
 by_cases hl:1<z.length
 . obtain⟨N,g,D⟩:=eD a hl Y o;have d:=Xo tq (Jr (Jq z)) (Or.inl q0);have l:=g.st;have m:=g.en;have w:Kx z N=yL (DK z) (Dg z) N:=by
    unfold Kx DK Dg;rw[GX d,GX d]
   rw[GX d,GX d]at l m;obtain⟨f1,f2⟩:=fin (N:=N) (λn b=>(l n b).1) m;refine⟨yL (DK z) (Dg z) N,?_,f1,f2,λV x c=>?_⟩
   . have:=Rr (DK z) (Dg z) N;omega
   . rw[<-w];exact dT 174 8926 N x z V c g
 . have B:=(f.dv.len f.tw tq q0).1;obtain⟨f1,f2⟩:=fin (N:=0) (λn b=>absurd b (Nat.not_lt_zero n)) (by show(DK z).length<=1;omega);refine⟨[],O,f1,f2,λV x c=>(iH x z V c Y).mono ?_⟩;rintro e j ⟨rfl,y⟩;exact⟨_,rfl,D8.nil _ _ _,y⟩
end M3
