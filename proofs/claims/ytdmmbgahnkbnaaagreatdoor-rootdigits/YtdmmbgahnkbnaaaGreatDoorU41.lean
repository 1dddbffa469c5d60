import Derived.Test.YtdmmbgahnkbnaaaGreatDoorU40
set_option linter.all false
open Go.Value renaming slice->C,bool->D,int->E,agg->I
open Go renaming World->F,Value->G
open Go.IntKind renaming i64->H
open Go.Obj renaming cells->L
set_option maxRecDepth 99999
set_option maxHeartbeats 0
namespace Go.Proofs.YtdmmbgahnkbnaaaGreatDoor
open Go.RowKit Go.Shelf
attribute [local go_sem] Oper.semAt_some
section
structure RtOk(J K X:Nat)(p:List Rat):Prop where
 rok:RwOk J K p
 fit:(DK p).length*(Da K (DK p) (Jb (DK p))+1+X+1)+1+X<=1000000000
variable{J K:Nat}
def qR{p:List Rat}(h:RwOk J K p):∀(n:Nat) (a b:List Rat),b.length<=n->Shn (DK p) (Jb (DK p)) (Da K (DK p) (Jb (DK p))) 500000000 a b->∀y∈EY n a b,Cd (Da K (DK p) (Jb (DK p))+1) y/\y.length<=(DK p).length:=by
 intro n;induction n with
 |zero=>
  intro a b _ hs y c
  have:y=a:=by simpa[EY]using c
  subst this;exact⟨hs.ca,hs.la⟩
 |succ n d=>
  intro a b hn hs y c;by_cases b0:b=[]
  . rw[EY,BH b0]at c
    have:y=a:=by simpa using c
    subst this;exact⟨hs.ca,hs.la⟩
  . rw[EY,BG b0]at c;rcases Fk.1 c with rfl|c
    . exact⟨hs.ca,hs.la⟩
    . obtain⟨c0,cl⟩:=Rh hs.tb b0;have l2:=(YX a (J6 b) (Mn b) c0).2.1;have e:=Ri (-1) (JU a (J6 b));exact d _ _ O (h.next hs b0) y c
def RtOk.row{X:Nat}{p:List Rat}(h:RtOk J K X p):∀y∈ET p,y≠[]/\∀x,DQ X x->Sqs y/\M3.LB y x:=by
 intro y b;obtain⟨a,c⟩:=qR h.rok _ _ _ (Aa _) h.rok.start y b;have f:=h.fit;have d:=Ae.2 h.rok.f0;have g:y.length*(Da K (DK p) (Jb (DK p))+1+X+1)<=(DK p).length*(Da K (DK p) (Jb (DK p))+1+X+1):=Ad _ c;have i:1*(Da K (DK p) (Jb (DK p))+1+X+1)<=(DK p).length*(Da K (DK p) (Jb (DK p))+1+X+1):=Ad _ d;exact⟨(oF h.rok.fr.ch.tp h.rok.p0 y b).2,λx e=>⟨a.sqs O,Rg e a.smq O⟩⟩
end
theorem qS(p:List Rat)(zs:List Int)(e:p=zs.map (λz:Int=>(z:Rat)))(h:zs.all (λz=>decide (z.natAbs<100))=true):Cd 1 p:=by
 refine⟨1,DJ,Sm.one 1 O,EW.cdl λi=>?_⟩;rw[e];by_cases hi:i<zs.length
 . refine⟨zs[i],?_,?_⟩
   . have a:=AD.1 h zs[i] (FB hi);have b:=BZ a;unfold Sm Y;omega
   grind[cf]
 . exact⟨0,Sm.zero 1,by rw[Ym si];rfl⟩
def eP:List Rat:=[-2,0,1]
def qT:Xk [120,94,50,45,50]=(eP,0,0):=EU
def ZW:Hx [49]=1/\(X3 [49]).isSome=true:=EU
def qU:Jb eP=[0,2]:=EU
def ZX:Cd 1 eP:=qS eP [-2,0,1] EU DJ
section
variable{S:List Rat}{l:List UInt8}{i k n x:Nat}{c:Rat}
def ZY(h:l.all DW=true):num l<10^l.length:=by
 have:=YR (My h);rwa[Lb]at this
def Fr(x:Nat)(c:Rat):Prop:=∃(a b:Nat) (y z:Nat),c=Rat.divInt a b/\a<=10^y/\b<=10^z/\b≠0/\y+z<=x
def Fr.mono{y:Nat}(h:Fr x c)(j:x<=y):Fr y c:=by
 obtain⟨a,b,u,v,d,e,f,g,i⟩:=h;exact⟨a,b,u,v,d,e,f,g,O⟩
theorem Fr.one:Fr 0 1:=⟨1,1,0,0,DJ,DJ,DJ,DJ,DJ⟩
def qV(hi:i<=l.length)(h:X6 l i=.ok c k):Fr (k-i) c:=by
 unfold X6 at h;split at h
 . cases h
 . rename_i ds p a f;have b:=IJ hi f;have r:=Hu l a;have o:=ZY b.2.2.2.2.2.2.2.2;rw[b.2.2.2.2.2.2.2.1]at o;split at h
   . rename_i d;have d:=YS d;split at h
     . cases h
     . rename_i es q m j;have e:=IJ O j;have n:=ZY e.2.2.2.2.2.2.2.2;rw[e.2.2.2.2.2.2.2.1]at n;split at h
       . cases h
       . rename_i g;cases h;exact⟨num ds,num es,a-p,k-q,rfl,O,O,g,O⟩
   . cases h;exact⟨num ds,1,a-p,0,(VA _).symm,O,DJ,DJ,O⟩
def qW(hi:i<=l.length)(h:XN l i=.ok (c,n) k):Fr (k-i) c:=by
 unfold XN at h;have o:=Hu l i;have d:=GV hi;split at h
 . split at h
   . cases h
   . rename_i c' g b;have j:=PJ d b;have a:=qV d b;have p:=Hu l g;split at h
     . rename_i e;have e:=YS e;split at h
       . cases h
       . rename_i r m f;have q:=PK O f;cases h;exact a.mono O
     . cases h;exact a.mono O
 . split at h
   . split at h
     . cases h
     . cases h;exact Fr.one.mono O
   . cases h
def Gh(i:Nat)(S:List Rat):Prop:=S.length=9/\∃D:Int,D≠0/\D.natAbs<=10^i/\∀j,∃z:Int,z.natAbs<=10^i/\cf S j=Rat.divInt z D
def Gh.mono(h:Gh i S)(hk:i<=k):Gh k S:=by
 obtain⟨a,D,b,e,c⟩:=h;have hp:(10:Nat)^i<=10^k:=An O hk;exact⟨a,D,b,O,λj=>by obtain⟨z,f,d⟩:=c j;exact⟨z,O,d⟩⟩
def Gh.start(i:Nat):Gh i (List.replicate 9 0):=⟨rfl,1,DJ,DG,λj=>⟨0,DH,by rw[J7,Rat.zero_divInt]⟩⟩
theorem Gh.next(h:Gh i S)(s:Fr x c)(hn:n<=8)(b:Bool):Gh (i+x+1) (S.set n (if b then cf S n-c else cf S n+c)):=by
 obtain⟨g,D,k,l,m⟩:=h;obtain⟨a,d,y,z,rfl,r,t,B,K⟩:=s;have f:(d:Int)≠0:=O
 have p1:(10:Nat)^i*10^z<=10^(i+x):=by rw[<-CI];exact An O O
 have u:(10:Nat)^y*10^i<=10^(i+x):=by rw[<-CI];exact An O O
 have M:(10:Nat)^(i+x+1)=10*10^(i+x):=by rw[Cg,AM]
 have e:∀w:Int,w.natAbs<=10^i->(w*(d:Int)).natAbs<=10^(i+x):=λw e=>by
  rw[Cq,Ar];exact Ac (Cp e t) p1
 have A:((a:Int)*D).natAbs<=10^(i+x):=by
  rw[Cq,Ar];exact Ac (Cp r l) u
 refine⟨by rw[Fc];exact g,D*d,Cs k f,by have:=e D l;omega,λj=>?_⟩;rw[GU _ _ _ _ (by rw[g];omega)];by_cases q:j=n
 . rw[BH q];obtain⟨w,o,p⟩:=m n;have v:=e w o;rw[p];cases b with
   |true=>
    refine⟨w*d-a*D,by have:=Int.natAbs_sub_le (w*(d:Int)) ((a:Int)*D);omega,?_⟩;grind[Rat.neg_divInt,Fv]
   |false=>
    refine⟨w*d+a*D,by have:=Int.natAbs_add_le (w*(d:Int)) ((a:Int)*D);omega,?_⟩;rw[BG DJ,Fv _ _ k f]
 . rw[BG q];obtain⟨w,o,p⟩:=m j;grind[Fi]
def ZZ:∀(f:Nat) (b:Bool) (I:Nat) (S d:List Rat) (k:Nat),I<=l.length->Gh I S->Ew l f b I S=.ok d k->Gh (l.length+1) d:=by
 intro f;induction f with
 |zero=>intro b I S d k _ _ h;cases h
 |succ f o=>
  intro b I S d k m r h;cases g:XN l I with
  |error e p=>rw[QB g]at h;cases h
  |ok a s=>
   obtain⟨c,n⟩:=a;have q:=PL m g;have i:=r.next (qW m g) q.2.2 b;have t:=Hu l s;rw[QC g]at h;split at h
   . rename_i j;have:=YS j;exact o _ _ _ _ _ O (i.mono O) h
   . split at h
     . rename_i j;have:=YS j;exact o _ _ _ _ _ O (i.mono O) h
     . split at h
       . cases h;exact i.mono O
       . cases h
def qX(h:El l=.ok S k):Gh (l.length+1) S:=by
 unfold El at h;have a:=GV (l:=l) (i:=0) O;split at h
 . rename_i b;have:=YS b;exact ZZ _ _ _ _ _ _ O (Gh.start _) h
 . exact ZZ _ _ _ _ _ _ a (Gh.start _) h
def qY(a b c:Nat)(h:a*b<64*c):((2:Nat)^a)^b<Y^c:=by
 rw[show Y=2^64 from by decide,<-C5,<-C5];exact FA O h
def qZ(h:n<=43*k)(hk:k<=7):(10:Nat)^n<Y^16:=by
 have b:((10:Nat)^43)^k<=(2^143)^k:=Cy DJ k;have a:(10:Nat)^n<=10^(43*k):=An O h;rw[C5]at a;exact Cx (Ac a b) (qY 143 k 16 O)
theorem qe(l:List UInt8):∃D:Int,D≠0/\Sm 16 D/\EK D 16 (Xk l).1:=by
 have b:∃D:Int,D≠0/\Sm 16 D/\EK D 16 []:=⟨1,DJ,Sm.one _ O,λi=>by rw[Xw];exact CD.zero _ _⟩;by_cases h:300<l.length
 . grind[Xk]
 . rw[Nu h];cases a:El l with
   |error e p=>exact b
   |ok S k=>
    rw[show(MD (EStateM.Result.ok S k)).1=Jc S from rfl];obtain⟨_,D,c,g,d⟩:=qX a;have a:=qZ (n:=l.length+1) (k:=7) O O;exact⟨D,c,by unfold Sm;omega,λi=>by
     obtain⟨z,j,f⟩:=d i;exact⟨z,by rw[Yp];exact f,by unfold Sm;omega⟩⟩
def Zc(l:List UInt8):Jc (Xk l).1=(Xk l).1:=by
 by_cases h:300<l.length
 . rw[show Xk l=([],1,0)by unfold Xk;rw[BH h]];rfl
 . rw[Nu h];cases El l with
   |error e p=>rfl
   |ok S k=>exact Yi _
def Zd(s:ByteArray)(w:F):
 Calls Tryz.prog 8 #[.string s] w λe w'=>∃u,e=.returned u/\Jd w' u (Xk (Jk s)).1/\Bl w w':=by
 have n:=Z λ(V:F)=>Vc s V;have b0:=BI w 25 (C none 0 0);have f:Bl w (w.alloc (L #[C none 0 0] 25)):=Ba w _;obtain⟨A,k⟩:=ex (w.alloc (L #[C none 0 0] 25));obtain⟨r,i⟩:=ex (w.heap.size);rw[k]at b0 f;rw[i]at b0;obtain⟨t,o,z,q⟩:=Do b0 f k i;clear b0 f k i;go_enter Tryz.func8,Tryz.ntmps8
 go_upto_region 1 with fail
 rw[z.o,q.o];go_upto_region 2 with(go_at_call 42;refine(n.o _).mono ?_;clear n;rintro e w1 ⟨u,K,p1,rfl,⟨rfl,rfl,l⟩,d⟩;obtain⟨a,l1,c1,rfl⟩:=l.form)
 have hA:Bl w1 (w1.alloc (L #[C a l1 c1] 25)):=Ba w1 _;have m:=BI w1 25 (C a l1 c1);have b:=(t.o.bel d).bel hA;have r1:=l.row.below hA;have g:=(Bt o.o d).trans (hA.mono (Bt o.o d).size);obtain⟨B,c⟩:=ex (w1.alloc (L #[C a l1 c1] 25));obtain⟨B1,j⟩:=ex (w1.heap.size);rw[c,j]at m;rw[c]at b r1 g;rw[c,j];have x1:=m.cell;have x0:=b.cell;have f0:=b.frozen;have x:=Z (FW b (C a l1 c1) r1);have y:=Z (g.setCell (p:=⟨r,0,none⟩) (by rw[q.o];exact Aa _) (C a l1 c1));clear hA m b r1 g c j l d;go_wp2_with fail
 exact BC (v:=I #[C a l1 c1]) (by simp[results,Tryz.results8,go_sem,x0]) rfl ⟨_,rfl,⟨_,rfl,x.o⟩,y.o⟩
end
section
variable{M:Nat}
def Ze(l:List UInt8):Cd 16 (Xk l).1:=qe l
def Cd.mul{M N:Nat}{p q:List Rat}(h:Cd M p)(g:Cd N q):Cd (M+N+p.length) (Jj p q):=by
 obtain⟨D,d1,b,c⟩:=h;obtain⟨E,d,e,f⟩:=g;have a:D*E≠0:=Cs d1 d;exact⟨D*E,a,(b.mul e).mono O,λi=>mK a (λi j=>(c i).mul (f j)) i⟩
def Cd.times{N:Nat}{p q:List Rat}(h:Cd M p)(f:Cd N q)(hl:M+N+p.length+1<=1000000000):M3.Ke p q:=by
 obtain⟨D,d1,a,b⟩:=h;obtain⟨E,c,d,e⟩:=f;exact mJ (Cs d1 c) ((a.mul d).mono O) (λi j=>(b i).mul (e j)) hl
theorem Cd.slope{p:List Rat}(h:Cd M p)(hl:p.length<=1000000000):Cd (M+1) (Jb p):=by
 obtain⟨D,d1,a,b⟩:=h;refine⟨D,d1,a.mono O,λi=>?_⟩;rw[XE];by_cases hi:i+1<p.length
 . have c:=(b (i+1)).mul (E:=1) (M:=1) (d:=(((i+1:Nat):Int):Rat)) ⟨((i+1:Nat):Int),by rw[AA,show((1:Int):Rat)=1 from rfl];grind,by unfold Sm Y;rw[Ar];omega⟩;rwa[FK]at c
 . rw[Ym O,A7];exact CD.zero _ _
namespace M3
def Zf(a b:G)(ps qs:List Rat)(w:F)(g:Jd w a ps)(i:Jd w b qs)(l:Sqs ps)(m:Sqs qs)(k:Ke ps qs)(j:ps.length+qs.length<=1099511627776):
 Calls Tryz.prog 9 #[a,b] w λe w'=>∃u,e=.returned u/\Jd w' u (Jj ps qs)/\Bl w w':=by
 refine(jY a b ps qs w g i l m k j).mono ?_;rintro e w' ⟨u,c,d,_,f⟩;exact⟨u,c,d,f⟩
theorem ChOk.of{K:Nat}{p q:List Rat}(tp:Jc p=p)(tq:Jc q=q)(cp:Cd K p)(cq:Cd K q){n:Nat}(lp:p.length<=n)(lq:q.length<=n)(hle:4*((n+2)*((K+1)*(n+n+1)+1))<=1000000000)(hn:n<=1000):ChOk K p q:=by
 refine⟨tp,tq,cp,cq,?_,O⟩;have a:Da K p q<=(K+1)*(n+n+1):=Ah _ O;have b:(max p.length q.length+2)*(Da K p q+1)<=(n+2)*((K+1)*(n+n+1)+1):=Cp O O;omega
end M3
end
def Zg(l:List Rat):DL l<=l.length:=Ac (OL l) O
namespace M3
theorem Zh(A l X g cap:Nat)(v:G)(row:List (List Rat))(a b:Rat)(w:F)(hE:Er w g row.length λj=>row.getD j [])(h:Yk w v a b)(f:RowOk A l row)(Q:DQ X a)(R:DQ X b)(N:A+l*(X+2)+X+A<=10000000000):
 Calls Tryz.prog 73 #[C (some ⟨g,0,none⟩) row.length cap,v] w λe w'=>e=.returned (E H (Ev row a b))/\Bl w w':=by
 obtain⟨r,s,t,u,x,y,z,B,rfl,T,S⟩:=h;obtain⟨W0,q⟩:=ex (w.alloc (L #[r,s,t,u,x,y,z,B] 44));have c:Bl w W0:=by rw[<-q];exact(Ba w _)
 have np:Bx W0 (w.heap.size) 44 #[r,s,t,u,x,y,z,B]:=by
  have h:=Bx.new w 44 #[r,s,t,u,x,y,z,B];rw[q]at h;exact h
 obtain⟨P,o,p⟩:=DY q (λ(V:F) (h:Bl W0 V)=>ZV A l X g cap _ row a V ((hE.below c).below h) ((T.below c).below h) f Q N) λ(V:F) (h:Bl W0 V)=>ZV A l X g cap _ row b V ((hE.below c).below h) ((S.below c).below h) f R N;obtain⟨m,M⟩:=ex (DL (JD row a));obtain⟨k,hk⟩:=ex (DL (JD row b));have Qd:(m:Int)<=1000000:=by have h1:=Zg (JD row a);have h2:=f.n;grind[JD]
 have Qe:(k:Int)<=1000000:=by have h1:=Zg (JD row b);have h2:=f.n;grind[JD]
 have U:=Z (show Ev row a b=(m:Int)-(k:Int)by unfold Ev;rw[M,hk]);rw[M]at o;rw[hk]at p;rw[U.o];obtain⟨n,hn⟩:=ex (row.length);rw[hn]at o p ⊢;have ai:IntKind.i64.wrap ((m:Int)-(k:Int))=(m:Int)-(k:Int):=by rw[BP];omega
 have K:=Z λ(V:F) (h:Bl W0 V)=>(np.below h).all;have W:=Z c;clear hE f Q R N T S np q c M hk hn Qd Qe;have hq:Bl W0 W0.drew:=(BD _ W0).drew;have d:=K.o _ (BD _ W0);go_enter Tryz.func73,Tryz.ntmps73
 go_upto_region 1 with fail
 rw[P.o];clear P;go_region_held3 (λw'=>∀i,w'.cell? ⟨w.heap.size,i,none⟩=#[r,s,t,u,x,y,z,B][i]?) (first|(with_reducible exact d)|(go_keep;done)|(refine⟨?_,?_,?_,?_,?_,?_,?_,?_⟩<;>((repeat rw[JP O]);first|assumption|(go_keep;done))))
  (first
   |(go_at_call 153;refine(o.o _ hq).mono ?_;clear o;rintro e w1 ⟨rfl,ae⟩;have hq:=Bt hq ae;clear d;have d:=K.o _ hq)
   |(go_at_call 153;refine(p.o _ hq).mono ?_;clear p;rintro e w2 ⟨rfl,ah⟩;have hq:=Bt hq ah;clear d;have d:=K.o _ hq))
 go_wp2_with fail
 go_ret;exact⟨rfl,Bt W.o hq⟩
structure SnOk(K A l X:Nat)(r:RtQ)(q:List Rat):Prop where
 sq:Sqs q
 atk:¬r.lo<r.hi->LB q r.lo/\Sq (ev q r.lo)
 sw:Sqs r.w
 sl:∀i,Sq (Gt r.w i)
 ss:Sqs (Jb r.w)
 tm:Ke (Jb r.w) q
 ln:(Jb r.w).length+q.length<=1099511627776
 ch:ChOk K r.w (Jj (Jb r.w) q)
 row:RowOk A l (Y7 r.w (Jj (Jb r.w) q))
 w0:r.w≠[]
 sz:A+l*(X+2)+X+A<=10000000000
def Zi(p q:List Rat):Y7 p q≠[]:=by
 unfold Y7 EO;cases(Jo q).length with
 |zero=>simp[GA]
 |succ n=>
  rw[GA];split<;>simp
theorem Zj(K A l X J:Nat)(v vq:G)(r:RtQ)(q:List Rat)(w:F)(h:JI w v r)(hq:Jd w vq q)(hz:RzOk J X r)(hs:SnOk K A l X r q):
 Calls Tryz.prog 22 #[v,vq] w λe w'=>e=.returned (E H (r.sign q))/\Bl w w':=by
 have h0:=h;have Qk:=hq;obtain⟨aj,am,an,ap,aq,ay,az,bf,x,B,z,rfl,bj,bi,pw⟩:=h;obtain⟨M,P,N,rfl⟩:=Jd.form hq;obtain⟨W0,bg,np,nq,s⟩:=KF w 46 25 #[aj,am,an,ap,aq,ay,az,bf,C x B z,E H r.sg,E H (r.tm:Int)] #[C M P N];obtain⟨Qd,m,o,Qc⟩:=Do bg (λ(V:F) (h:Bl W0 V)=>ZN J X _ r V ((h0.below s).below h) hz) (λ(V:F) (h:Bl W0 V)=>And.intro (np.below h).all ((nq.below h).all)) s;obtain⟨n,hn⟩:=ex (r.sign q);rw[hn];obtain⟨HN,Q,S,d⟩:=Do hn (λ(V:F) (h:Bl W0 V)=>And.intro ((Qk.below s).below h) (And.intro ((pw.below s).below h) (show Yk V (I #[aj,am,an,ap,aq,ay,az,bf]) r.lo r.hi from⟨_,_,_,_,_,_,_,_,rfl,(bj.below s).below h,(bi.below s).below h⟩))) hz hs;clear hz hs bj bi pw h0 Qk np nq bg s hn;have hq:Bl W0 W0:=BD _ W0;obtain⟨a,b⟩:=o.o _ hq;by_cases k:r.lo<r.hi
 . have hd:decide (¬r.lo<r.hi)=false:=BL λh=>h k;rw[hd]at m;clear hd;go_enter Tryz.func22,Tryz.ntmps22
   go_upto_region 1 with fail
   rw[Qd.o];clear Qd;go_upto_region 2 with(go_at_call 14;refine(m.o _ hq).mono ?_;clear m;rintro e w1 ⟨u1,rfl,u,ae⟩;have hq:=Bt hq ae;obtain⟨s9,T,l9,U,t9,b9,k9,W,rfl⟩:=Jg.form u;clear a b;obtain⟨a,b⟩:=o.o _ hq)
   obtain⟨c,f⟩:=ex (w1.alloc (L #[D s9,C T l9 U,D t9,C b9 k9 W] 41));obtain⟨B5,t⟩:=ex (w1.heap.size);have p:Bl w1 c:=by rw[<-f];exact Ba w1 _
   have n5:JO c B5 41 (D s9) (C T l9 U) (D t9) (C b9 k9 W):=by rw[<-f,<-t];exact JO.new w1 _ _ _ _ _
   have r5:=u.below p;rw[f,t];have hq:=Bt hq p
   clear a b;obtain⟨a,b⟩:=o.o _ hq;clear f t n5 r5 u p;obtain⟨Qj,Ql,Qm,Qg⟩:=Do (λ(V:F) (h:Bl c V)=>Nw _ r.w V (Q.o V (Bt hq h)).2.1 d.o.sw d.o.sl) (λ(V:F) (h:Bl c V) (y:G) (hy:Jd V y (Jb r.w))=>Zf y _ (Jb r.w) q V hy (Q.o V (Bt hq h)).1 d.o.ss d.o.sq d.o.tm d.o.ln) (λ(V:F) (h:Bl c V) (y:G) (hy:Jd V y (Jj (Jb r.w) q))=>ZO _ y r.w _ V (Q.o V (Bt hq h)).2.1 hy) λ(V:F) (Bp Bq:Nat) (x M:Option Addr) (B z P N:Nat) (h1:Dc V Bp x B z) (h2:Dc V Bq M P N) (h3:Jd V (I #[C x B z]) r.w) (h4:Jd V (I #[C M P N]) (Jj (Jb r.w) q))=>ZP K Bp Bq x M B z P N r.w (Jj (Jb r.w) q) V d.o.ch h1 h2 h3 h4;obtain⟨R,hR⟩:=ex (Y7 r.w (Jj (Jb r.w) q));have Qp:=Z (show RowOk A l R by rw[<-hR];exact d.o.row);have Qq:=Z (show Ev R r.lo r.hi=n by rw[<-HN.o,<-hR];unfold RtQ.sign;rw[BH k]);rw[hR]at Qg;have Qn:=Z (show R≠[]by rw[<-hR];exact Zi _ _);have Qh:=Z λ(V:F) (h:Bl c V) (g cap:Nat) (hE:Er V g R.length λj=>R.getD j [])=>Zh A l X g cap _ R r.lo r.hi V hE (Q.o V (Bt hq h)).2.2 Qp.o S.o.lo S.o.hi d.o.sz;rw[Qq.o]at Qh;have Qe:=Z λ(V:F) (h:Bl c V)=>o.o V (Bt hq h);have Qb:=Z (Bt Qc.o hq);clear hR HN S o hq k;go_upto_region 4 with fail
   have hq:Bl c c.drew:=(BD _ c).drew;go_region_held3 (λw'=>(∀i,w'.cell? ⟨w.heap.size,i,none⟩=#[aj,am,an,ap,aq,ay,az,bf,C x B z,E H r.sg,E H (r.tm:Int)][i]?)/\(∀i,w'.cell? ⟨w.heap.size+1,i,none⟩=#[C M P N][i]?)) (first|grind|(go_keep;done)|(refine⟨?_,?_,?_,?_,?_,?_,?_,?_,?_,?_,?_,?_⟩<;>((repeat rw[JP O]);first|assumption|(go_keep;done))))
    (first
     |(go_at_call 27;refine(Qj.o _ hq).mono ?_;clear Qj;rintro e w5 ⟨v5,rfl,g5,ah⟩;have hq:=Bt hq ah;clear a b;obtain⟨a,b⟩:=Qe.o _ hq)
     |(go_at_call 9;refine(Ql.o _ hq _ g5).mono ?_;clear Ql g5;rintro e w6 ⟨v6,rfl,g6,ai⟩;have hq:=Bt hq ai;clear a b;obtain⟨a,b⟩:=Qe.o _ hq)
     |(go_at_call 72;refine(Qm.o _ hq _ g6).mono ?_;clear Qm g6;rintro e w7 ⟨Bp,Bq,xa,xl,xc,ya,yl,yc,rfl,k1,k2,k3,k4,bm⟩;have hq:=Bt hq bm;clear a b;obtain⟨a,b⟩:=Qe.o _ hq)
     |(go_at_call 71;refine(Qg.o _ _ _ _ _ _ _ _ _ k1 k2 k3 k4).mono ?_;clear Qg k1 k2 k3 k4;rintro e w8 ⟨v8,cj,rfl,o8,p8,bn⟩;have hq:=Bt hq bn;obtain⟨g,cap,rfl,hg,bz,ce,hE⟩:=GM.els o8 p8 Qn.o;clear o8 p8;clear a b;obtain⟨a,b⟩:=Qe.o _ hq))
   have HE:=Z hE;clear hE hg bz ce;go_wp2_with(go_at_call 73;refine(Qh.o _ hq _ _ HE.o).mono ?_;clear Qh;rintro e w9 ⟨rfl,bu⟩;have hq:=Bt hq bu)
   go_ret;exact⟨rfl,Bt Qb.o hq⟩
 . have hd:=BK k;rw[hd]at m;clear hd;have HV:=Z (show Ik r=r.lo by unfold Ik;rw[BG k]);rw[HV.o]at m;have Qo:=Z (show Xf (ev q r.lo) 0=n by rw[<-HN.o,Ns];unfold RtQ.sign;rw[BG k]);go_enter Tryz.func22,Tryz.ntmps22
   go_upto_region 1 with fail
   rw[Qd.o];clear Qd;go_upto_region 2 with(go_at_call 14;refine(m.o _ hq).mono ?_;clear m;rintro e w1 ⟨u1,rfl,u,ae⟩;have hq:=Bt hq ae;obtain⟨s9,T,l9,U,t9,b9,k9,W,rfl⟩:=Jg.form u;clear a b;obtain⟨a,b⟩:=o.o _ hq)
   obtain⟨c,f⟩:=ex (w1.alloc (L #[D s9,C T l9 U,D t9,C b9 k9 W] 41));obtain⟨B5,t⟩:=ex (w1.heap.size);have p:Bl w1 c:=by rw[<-f];exact Ba w1 _
   have n5:JO c B5 41 (D s9) (C T l9 U) (D t9) (C b9 k9 W):=by rw[<-f,<-t];exact JO.new w1 _ _ _ _ _
   have r5:=u.below p;rw[f,t];have hq:=Bt hq p
   clear a b;obtain⟨a,b⟩:=o.o _ hq;obtain⟨ck,cn,co,de⟩:=n5.cq;have Qi:=Z (jZ _ _ q r.lo c (Q.o c hq).1 r5 d.o.sq (Sq.of S.o.lo (by have:=S.o.x2;omega)) (d.o.atk k).1);have Qf:=Z λ(V:F) (y:G) (hy:Jg V y (ev q r.lo))=>XT y _ (ev q r.lo) 0 V hy (Xx _) (d.o.atk k).2 FV;rw[Qo.o]at Qf;have Qb:=Z (Bt Qc.o hq);clear f t n5 r5 u p hq k;go_wp2_with(first
    |(go_at_call 70;refine Qi.o.mono ?_;clear Qi;rintro e w5 ⟨v5,rfl,g5,ah⟩)
    |(go_at_call 32;refine(Qf.o _ _ g5).mono ?_;clear Qf g5;rintro e w6 ⟨rfl,ai⟩;have hq:=Bt ah ai))
   go_ret;exact⟨rfl,Bt Qb.o hq⟩
theorem Zk(K A l X J:Nat)(v vs:G)(r s:RtQ)(w:F)(h:JI w v r)(hv:JI w vs s)(hz:RzOk J X r)(hy:RzOk J X s)(hs:SnOk K A l X r s.w)(hg:-1<=s.sg/\s.sg<=1)(hb:-1000000<=r.sign s.w/\r.sign s.w<=1000000):
 Calls Tryz.prog 24 #[v,vs] w λe w'=>e=.returned (E H (r.ord s))/\Bl w w':=by
 have h0:=h;have Qe:=hv;obtain⟨ai,aj,am,an,ap,aq,ay,az,pa,pl,pc,rfl,co,cn,pw⟩:=h;obtain⟨bi,bj,bm,bn,bu,bz,ce,cj,qa,ql,qc,rfl,bg,bf,qw⟩:=hv;obtain⟨W0,ah,np,nq,M⟩:=KF w 46 46 #[ai,aj,am,an,ap,aq,ay,az,C pa pl pc,E H r.sg,E H (r.tm:Int)] #[bi,bj,bm,bn,bu,bz,ce,cj,C qa ql qc,E H s.sg,E H (s.tm:Int)];obtain⟨P,n,N,W,H4,H5,d,Qc⟩:=IP ah (λ(V:F) (h:Bl W0 V)=>ZN J X _ s V ((Qe.below M).below h) hy) (λ(V:F) (h:Bl W0 V)=>Rf J X _ _ r s.lo V ((h0.below M).below h) ((bg.below M).below h) hz hy.lo) (λ(V:F) (h:Bl W0 V)=>Rf J X _ _ r s.hi V ((h0.below M).below h) ((bf.below M).below h) hz hy.hi) (λ(V:F) (h:Bl W0 V)=>Zj K A l X J _ _ r s.w V ((h0.below M).below h) ((qw.below M).below h) hz hs) (λ(V:F) (h:Bl W0 V) (y:G) (hx:Jg V y s.lo)=>Rf J X _ y r s.lo V ((h0.below M).below h) hx hz hy.lo) (λ(V:F) (h:Bl W0 V)=>And.intro (np.below h).all ((nq.below h).all)) M;obtain⟨o,j⟩:=ex (r.ord s);rw[j];unfold RtQ.ord at j;obtain⟨n1,e1⟩:=ex (r.side s.lo);obtain⟨n2,e2⟩:=ex (r.side s.hi);obtain⟨n3,e3⟩:=ex (r.sign s.w);rw[e1,e2,e3]at j;rw[e1]at N H5;rw[e2]at W;rw[e3]at H4 hb;clear hz hy hs co cn pw bg bf qw h0 Qe np nq ah M e1 e2 e3;have hq:Bl W0 W0:=BD _ W0;obtain⟨a,b⟩:=d.o _ hq;by_cases U:s.lo<s.hi
 . rw[BH U]at j;have hd:decide (¬s.lo<s.hi)=false:=BL λh=>h U;rw[hd]at n;clear hd U H5;by_cases c1:n1<=0
   . rw[BH c1]at j;subst j;go_enter Tryz.func24,Tryz.ntmps24
     go_upto_region 1 with fail
     rw[P.o];clear P;go_upto_region 2 with(go_at_call 14;refine(n.o _ hq).mono ?_;clear n;rintro e w1 ⟨u1,rfl,k,Q⟩;have hq:=Bt hq Q;obtain⟨z,p,x,q,B,b9,u,t,rfl⟩:=Jg.form k;clear a b;obtain⟨a,b⟩:=d.o _ hq)
     obtain⟨m,c⟩:=ex (w1.alloc (L #[D z,C p x q,D B,C b9 u t] 41));obtain⟨B5,g⟩:=ex (w1.heap.size);have f:Bl w1 m:=by rw[<-c];exact Ba w1 _
     have R:JO m B5 41 (D z) (C p x q) (D B) (C b9 u t):=by rw[<-c,<-g];exact JO.new w1 _ _ _ _ _
     have S:=k.below f;rw[c,g];have hq:=Bt hq f
     clear a b;obtain⟨a,b⟩:=d.o _ hq;clear c g R S k f;go_wp2_with(first
      |(go_at_call 76;refine(N.o _ hq).mono ?_;clear N;rintro e w2 ⟨rfl,T⟩;have hq:=Bt hq T;clear a b;obtain⟨a,b⟩:=d.o _ hq))
     go_ret;exact⟨rfl,Bt Qc.o hq⟩
   . rw[BG c1]at j;by_cases c2:0<=n2
     . rw[BH c2]at j;subst j;go_enter Tryz.func24,Tryz.ntmps24
       go_upto_region 1 with fail
       rw[P.o];clear P;go_upto_region 2 with(go_at_call 14;refine(n.o _ hq).mono ?_;clear n;rintro e w1 ⟨u1,rfl,k,Q⟩;have hq:=Bt hq Q;obtain⟨z,p,x,q,B,b9,u,t,rfl⟩:=Jg.form k;clear a b;obtain⟨a,b⟩:=d.o _ hq)
       obtain⟨m,c⟩:=ex (w1.alloc (L #[D z,C p x q,D B,C b9 u t] 41));obtain⟨B5,g⟩:=ex (w1.heap.size);have f:Bl w1 m:=by rw[<-c];exact Ba w1 _
       have R:JO m B5 41 (D z) (C p x q) (D B) (C b9 u t):=by rw[<-c,<-g];exact JO.new w1 _ _ _ _ _
       have S:=k.below f;rw[c,g];have hq:=Bt hq f
       clear a b;obtain⟨a,b⟩:=d.o _ hq;clear c g R S k f;go_wp2_with(first
        |(go_at_call 76;refine(N.o _ hq).mono ?_;clear N;rintro e w2 ⟨rfl,T⟩;have hq:=Bt hq T;clear a b;obtain⟨a,b⟩:=d.o _ hq)
        |(go_at_call 76;refine(W.o _ hq).mono ?_;clear W;rintro e w3 ⟨rfl,ae⟩;have hq:=Bt hq ae;clear a b;obtain⟨a,b⟩:=d.o _ hq))
       go_ret;exact⟨rfl,Bt Qc.o hq⟩
     . rw[BG c2]at j;have dj:IntKind.i64.wrap (n3*s.sg)=o:=by
        have Q:-1000000<=n3*s.sg/\n3*s.sg<=1000000:=by
         obtain⟨g1,g2⟩:=hg;rcases(show s.sg=-1\/s.sg=0\/s.sg=1 by omega)with e|e|e<;>rw[e]<;>omega
        rw[BP,<-j];omega
       have HO:=Z j;clear j hb hg;go_enter Tryz.func24,Tryz.ntmps24
       go_upto_region 1 with fail
       rw[P.o];clear P;go_upto_region 2 with(go_at_call 14;refine(n.o _ hq).mono ?_;clear n;rintro e w1 ⟨u1,rfl,k,Q⟩;have hq:=Bt hq Q;obtain⟨z,p,x,q,B,b9,u,t,rfl⟩:=Jg.form k;clear a b;obtain⟨a,b⟩:=d.o _ hq)
       obtain⟨m,c⟩:=ex (w1.alloc (L #[D z,C p x q,D B,C b9 u t] 41));obtain⟨B5,g⟩:=ex (w1.heap.size);have f:Bl w1 m:=by rw[<-c];exact Ba w1 _
       have R:JO m B5 41 (D z) (C p x q) (D B) (C b9 u t):=by rw[<-c,<-g];exact JO.new w1 _ _ _ _ _
       have S:=k.below f;rw[c,g];have hq:=Bt hq f
       clear a b;obtain⟨a,b⟩:=d.o _ hq;clear c g R S k f;go_upto_region 8 with(first
        |(go_at_call 76;refine(N.o _ hq).mono ?_;clear N;rintro e w2 ⟨rfl,T⟩;have hq:=Bt hq T;clear a b;obtain⟨a,b⟩:=d.o _ hq)
        |(go_at_call 76;refine(W.o _ hq).mono ?_;clear W;rintro e w3 ⟨rfl,ae⟩;have hq:=Bt hq ae;clear a b;obtain⟨a,b⟩:=d.o _ hq))
       obtain⟨Qg,H4,Qf⟩:=DY (λ(V:F) (h:Bl w3 V)=>d.o V (Bt hq h)) (λ(V:F) (h:Bl w3 V)=>H4.o V (Bt hq h)) (Bt Qc.o hq);clear d hq;have hq:Bl w3 w3.drew:=(BD _ w3).drew;go_region_held3 (λw'=>(∀i,w'.cell? ⟨w.heap.size,i,none⟩=#[ai,aj,am,an,ap,aq,ay,az,C pa pl pc,E H r.sg,E H (r.tm:Int)][i]?)/\(∀i,w'.cell? ⟨w.heap.size+1,i,none⟩=#[bi,bj,bm,bn,bu,bz,ce,cj,C qa ql qc,E H s.sg,E H (s.tm:Int)][i]?)) (first|grind|(go_keep;done)|(refine⟨?_,?_,?_,?_,?_,?_,?_,?_,?_,?_,?_,?_,?_,?_,?_,?_,?_,?_,?_,?_,?_,?_⟩<;>((repeat rw[JP O]);first|assumption|(go_keep;done))))
        (first
         |(go_at_call 22;refine(H4.o _ hq).mono ?_;clear H4;rintro e w4 ⟨rfl,ck⟩;have hq:=Bt hq ck;clear a b;obtain⟨a,b⟩:=Qg.o _ hq))
       go_wp2_with fail
       go_ret;exact⟨rfl,Bt Qf.o hq⟩
 . rw[BG U]at j;have hd:=BK U;rw[hd]at n;have HV:=Z (show Ik s=s.lo by unfold Ik;rw[BG U]);rw[HV.o]at n;clear hd U N W H4;subst j;go_enter Tryz.func24,Tryz.ntmps24
   go_upto_region 1 with fail
   rw[P.o];clear P;go_upto_region 2 with(go_at_call 14;refine(n.o _ hq).mono ?_;clear n;rintro e w1 ⟨u1,rfl,k,Q⟩;have hq:=Bt hq Q;obtain⟨z,p,x,q,B,b9,u,t,rfl⟩:=Jg.form k;clear a b;obtain⟨a,b⟩:=d.o _ hq)
   obtain⟨m,c⟩:=ex (w1.alloc (L #[D z,C p x q,D B,C b9 u t] 41));obtain⟨B5,g⟩:=ex (w1.heap.size);have f:Bl w1 m:=by rw[<-c];exact Ba w1 _
   have R:JO m B5 41 (D z) (C p x q) (D B) (C b9 u t):=by rw[<-c,<-g];exact JO.new w1 _ _ _ _ _
   have S:=k.below f;rw[c,g];have hq:=Bt hq f
   clear a b;obtain⟨a,b⟩:=d.o _ hq;obtain⟨de,df,dh,di⟩:=R.cq;have H6:=Z (H5.o m hq _ S);clear H5 c g R S k f;go_wp2_with(first
    |(go_at_call 76;refine H6.o.mono ?_;clear H6;rintro e w2 ⟨rfl,T⟩;have hq:=Bt hq T))
   go_ret;exact⟨rfl,Bt Qc.o hq⟩
end M3
section
def ID(P:Nat->Prop)(m:Nat):Prop:=P m/\∀j,P j->m<=j
variable{m:Nat}{P:Nat->Prop}
theorem OV{n:Nat}(h:P n):∃m,ID P m/\m<=n:=by
 induction n using Nat.strongRecOn with
 |_ n c=>
  by_cases a:∃j,j<n/\P j
  . grind
  . exact⟨n,⟨h,λj b=>Nat.le_of_not_lt λhl=>a ⟨j,hl,b⟩⟩,Aa _⟩
def Zl(h:ID P m):Classical.epsilon (ID P)=m:=by
 have a:=Classical.epsilon_spec (p:=ID P) ⟨m,h⟩;exact FE (a.2 m h.1) (h.2 _ a.1)
def Rj{Q:Nat->Prop}(h:ID P (m+1))(hq:Q m):Classical.epsilon (ID Q)<Classical.epsilon (ID P):=by
 obtain⟨k,a,b⟩:=OV hq;rw[Zl h,Zl a];omega
namespace M3
def Gy(V:F)(B:Nat)(r:RtQ):Prop:=∃cs,Bx V B 46 cs/\JI V (I cs) r
section
variable {V W:World} {B:Nat} {r:RtQ}
def Gy.below(h:Gy V B r)(a:Bl V W):Gy W B r:=by
 obtain⟨cs,b,c⟩:=h;exact⟨cs,b.below a,c.below a⟩
variable{t:TypeId}
theorem Gy.open(h:Gy V B r):∃f a al b at_ ab d c bs g bl j l i k bd m o n,Bx V B 46 #[D f,C a al b,D at_,C ab d c,D bs,C g bl j,D l,C i k bd,C m o n,E H r.sg,E H (r.tm:Int)]/\JI V (I #[D f,C a al b,D at_,C ab d c,D bs,C g bl j,D l,C i k bd,C m o n,E H r.sg,E H (r.tm:Int)]) r/\Yk V (I #[D f,C a al b,D at_,C ab d c,D bs,C g bl j,D l,C i k bd]) r.lo r.hi/\Jg V (I #[D f,C a al b,D at_,C ab d c]) r.lo/\Jg V (I #[D bs,C g bl j,D l,C i k bd]) r.hi/\Jd V (I #[C m o n]) r.w:=by
 obtain⟨cs,t,p⟩:=h;have u:=p;obtain⟨f,a,al,b,at_,ab,d,c,bs,g,bl,j,l,i,k,bd,m,o,n,e,q,v⟩:=JI.form p;cases e;have s:=q;obtain⟨x0,x1,x2,x3,y0,y1,y2,y3,e,w,x⟩:=s;grind
def Bx.put11{x0 x1 x2 x3 y0 y1 y2 y3 p s u z0 a b c u0 u1 u2 u3 q t o:G}{y:TypeId}(h:Bx V B y #[z0,a,b,c,u0,u1,u2,u3,q,t,o]):Bx (LO V B x0 x1 x2 x3 y0 y1 y2 y3 p s u) B y #[x0,x1,x2,x3,y0,y1,y2,y3,p,s,u]:=by
 have h:=((((((((((h.set 0 x0).set 1 x1).set 2 x2).set 3 x3).set 4 y0).set 5 y1).set 6 y2).set 7 y3).set 8 p).set 9 s).set 10 u;simp only[List.setIfInBounds_toArray,List.set_cons_succ,List.set_cons_zero]at h;exact h
def Gy.put{x0 x1 x2 x3 y0 y1 y2 y3 p s u:G}{b:RtQ}(h:Gy V B r)(c:JI V (I #[x0,x1,x2,x3,y0,y1,y2,y3,p,s,u]) b):Gy (LO V B x0 x1 x2 x3 y0 y1 y2 y3 p s u) B b:=by
 obtain⟨_,_,_,_,_,_,_,_,_,_,_,_,_,_,_,_,_,_,_,a,_⟩:=h.open;exact⟨_,a.put11,(Rc a ..).root c⟩
def Bx.far11{C:Nat}{cs:Array G}(h:Bx V C t cs)(a:C≠B)(x0 x1 x2 x3 y0 y1 y2 y3 p s u:G):Bx (LO V B x0 x1 x2 x3 y0 y1 y2 y3 p s u) C t cs:=(Rb.far C a).trans h
structure RtX(V:World)(B:Nat)(cs:Array Value)(r:RtQ):Prop where
 bx:Bx V B 46 cs
 is:JI V (.agg cs) r
variable {cs:Array Value}
def RtX.below(h:RtX V B cs r)(a:Bl V W):RtX W B cs r:=⟨h.bx.below a,h.is.below a⟩
def RtX.size(h:RtX V B cs r):cs.size=11:=by
 obtain⟨x0,x1,x2,x3,y0,y1,y2,y3,a,c,b,e,_⟩:=h.is;cases e;rfl
theorem RtX.set2(h:RtX V B cs r){C:Nat}{x y:G}(q:JB V C t x y)(_:JR x=true)(_:JR y=true)(a b:G)(d:∀k,Ha k≠t:=by intro k;cases k<;>decide)(f:Gr true≠t:=by decide):RtX ((V.setCell ⟨C,0,none⟩ a).setCell ⟨C,1,none⟩ b) B cs r:=by
 have hq:Bx V C t #[x,y]:=q;have c:B≠C:=λe=>by
  have g:=h.bx;rw[e,show Bx V C 46 cs=(V.heap[C]?=_)from rfl,show V.heap[C]?=_ from hq]at g;simp only[A9,DB]at g;have:=h.size;grind
 have i:=OU hq d f 0 a;have j:=OU (hq.set 0 a) d f 1 b;exact⟨(h.bx.far (p:=⟨C,0,none⟩) c a).far (p:=⟨C,1,none⟩) c b,(i.trans j).root h.is⟩
section
variable {x0 x1 x2 x3 y0 y1 y2 y3 p s u:Value}
def RtX.parts(h:RtX V B #[x0,x1,x2,x3,y0,y1,y2,y3,p,s,u] r):Jg V (I #[x0,x1,x2,x3]) r.lo/\Jg V (I #[y0,y1,y2,y3]) r.hi/\Jd V (I #[p]) r.w/\Yk V (I #[x0,x1,x2,x3,y0,y1,y2,y3]) r.lo r.hi:=by
 obtain⟨a0,d,f,g,b0,i,j,k,l,n,m,e,a,b,c⟩:=h.is;cases e;exact⟨a,b,c,_,_,_,_,_,_,_,_,rfl,a,b⟩
def RtX.lo(h:RtX V B #[x0,x1,x2,x3,y0,y1,y2,y3,p,s,u] r):Jg V (I #[x0,x1,x2,x3]) r.lo:=h.parts.1
def RtX.hi(h:RtX V B #[x0,x1,x2,x3,y0,y1,y2,y3,p,s,u] r):Jg V (I #[y0,y1,y2,y3]) r.hi:=h.parts.2.1
def RtX.w(h:RtX V B #[x0,x1,x2,x3,y0,y1,y2,y3,p,s,u] r):Jd V (I #[p]) r.w:=h.parts.2.2.1
end
theorem Jd.put4{v:G}{p:List Rat}(h:Jd V v p)(hl:2<=p.length){C:Nat}{t:TypeId}{x y z u:G}(q:JO V C t x y z u)(r:JR x=true)(s:JR y=true)(w:JR z=true)(A:JR u=true)(M N P B:G):Jd (Go.Proofs.YtdmmbgahnkbnaaaGreatDoor.put4 V C M N P B) v p:=by
 obtain⟨K,e,a,cap,i,m,n,o,d⟩:=h;refine⟨K,e,a,cap,i,m,n,o,?_⟩;rcases d with d|⟨b,j,f⟩
 . exact Or.inl d
 . refine Or.inr ⟨b,j,f.keep ?_ λ_ _ _ g=>Row.put4 g q r s w A _ _ _ _⟩;have c:b≠C:=λe=>by
    obtain⟨cs,k,l⟩:=f;obtain⟨x0,_,_,_,Q,_⟩:=l 1 O;rw[e,show V.heap[C]?=_ from q]at k;grind
   exact(BE _ _ _ b c).trans ((BE _ _ _ b c).trans ((BE _ _ _ b c).trans (BE _ _ _ b c)))
def JI.put4{v:G}(h:JI V v r)(hl:2<=r.w.length){C:Nat}{t:TypeId}{x y z u:G}(q:JO V C t x y z u)(a:JR x=true)(b:JR y=true)(c:JR z=true)(d:JR u=true)(B K M A:G):JI (Go.Proofs.YtdmmbgahnkbnaaaGreatDoor.put4 V C B K M A) v r:=by
 obtain⟨a0,f,g,i,b0,j,k,l,p,w,s,e,m,n,o⟩:=h;exact⟨a0,f,g,i,b0,j,k,l,p,w,s,e,m.put4 q a b c d _ _ _ _,n.put4 q a b c d _ _ _ _,Jd.put4 o hl q a b c d _ _ _ _⟩
def Zm:∀(i:Nat) (r:RtQ),FZ (i+1) r=(FZ i r).hv:=by
 intro i;induction i with
 |zero=>intro r;rfl
 |succ i a=>intro r;exact a r.hv
theorem DI.one{w V:F}{B:Nat}{cs:Array G}(d:Dat)(f:Bx V B d.ty cs)(g:Has V (I cs) d)(k:w.heap.size<=B)(a:Bl w V):DI w V [some (B,d)]:=by
 refine⟨λi C e h=>?_,λi j C e b h c=>?_,a⟩
 . grind
 grind
end
end M3
end
namespace M3
structure SlOk(K X k:Nat)(r:RtQ):Prop where
 tw:Jc r.w=r.w
 w0:r.w≠[]
 lead:cf r.w (r.w.length-1)=(YN r.w:Rat)
 pos:0<YN r.w
 l2:2<=r.w.length
 smL:Sm X (YN r.w)
 it:∀i,i<=k->RzOk K X (FZ i r)/\DQ X (DX (FZ i r).lo (FZ i r).hi)
 stop:¬(1<JZ (Yd (YN r.w) k r).hi (YN r.w)-JZ (Yd (YN r.w) k r).lo (YN r.w)\/ev r.w (Yd (YN r.w) k r).lo=0)
 sz:K+r.w.length*(X+X+2)+X+X+K<=1000000000
structure TwX(V:World)(B1 B2:Nat)(cs:Array Value)(r:RtQ):Prop where
 x:RtX V B1 cs r
 z:Bx V B2 46 #[.bool false,.slice none 0 0,.bool false,.slice none 0 0,.bool false,.slice none 0 0,.bool false,.slice none 0 0,.slice none 0 0,.int .i64 0,.int .i64 0]
def TwX.below{V W:F}{B1 B2:Nat}{cs:Array G}{r:RtQ}(h:TwX V B1 B2 cs r)(a:Bl V W):TwX W B1 B2 cs r:=⟨h.x.below a,h.z.below a⟩
def TwX.alloc{V:F}{B1 B2:Nat}{cs:Array G}{r:RtQ}(h:TwX V B1 B2 cs r)(o:Obj):TwX (V.alloc o) B1 B2 cs r:=h.below (Ba V o)
theorem TwX.set2{V:F}{B1 B2:Nat}{cs:Array G}{r:RtQ}(h:TwX V B1 B2 cs r){C:Nat}{x y:G}(q:JB V C 39 x y)(f:JR x=true)(g:JR y=true)(a b:G):TwX ((V.setCell ⟨C,0,none⟩ a).setCell ⟨C,1,none⟩ b) B1 B2 cs r:=by
 have c:B2≠C:=λe=>by
  have d:=h.z;rw[e,show Bx V C 46 _=(V.heap[C]?=_)from rfl,show V.heap[C]?=_ from q]at d;grind
 exact⟨h.x.set2 q f g a b,(h.z.far (p:=⟨C,0,none⟩) c a).far (p:=⟨C,1,none⟩) c b⟩
theorem TwX.put4{V:F}{B1 B2:Nat}{cs:Array G}{r:RtQ}(h:TwX V B1 B2 cs r){C:Nat}{x y z u:G}(q:JO V C 41 x y z u)(i:JR x=true)(j:JR y=true)(k:JR z=true)(l:JR u=true)(c d f b:G)(hl:2<=r.w.length:=by assumption):TwX (Go.Proofs.YtdmmbgahnkbnaaaGreatDoor.put4 V C c d f b) B1 B2 cs r:=by
 have far:∀ {B:Nat} {cs:Array G},Bx V B 46 cs->Bx (Go.Proofs.YtdmmbgahnkbnaaaGreatDoor.put4 V C c d f b) B 46 cs:=fun {B cs} g=>by
  have a:B≠C:=λe=>by
   rw[e,show Bx V C 46 _=(V.heap[C]?=_)from rfl,show V.heap[C]?=_ from q]at g;grind
  exact(((g.far (p:=⟨C,0,none⟩) a c).far (p:=⟨C,1,none⟩) a d).far (p:=⟨C,2,none⟩) a f).far (p:=⟨C,3,none⟩) a b
 exact⟨⟨far h.x.bx,JI.put4 h.x.is hl q i j k l c d f b⟩,far h.z⟩
def Kr(w:F)(B1 B2 B3 K:Nat)(L:Int)(r:RtQ)(n:Nat)(V:F):Prop:=
 ∃b,Gy V B1 b/\Bx V B2 46 #[D false,C none 0 0,D false,C none 0 0,D false,C none 0 0,D false,C none 0 0,C none 0 0,.int H 0,.int H 0]/\(∃s a l c,Bx V B3 39 #[D s,C a l c]/\Ji V (I #[D s,C a l c]) L)/\Bl w V/\(∃i,b=FZ i r/\i+n=K)/\Yd L n b=Yd L K r
theorem qf(K X k:Nat)(v:G)(r:RtQ)(w:F)(h:JI w v r)(hs:SlOk K X k r):
 Calls Tryz.prog 122 #[v] w λe w'=>∃u,e=.returned u/\JI w' u (GD k r)/\Bl w w':=by
 have h0:=h;obtain⟨am,aa,al,ac,at_,ab,ak,ad,bs,ba,bl,bc,bt,bb,bk,bd,pa,pl,pc,rfl,_,_⟩:=JI.form h;obtain⟨W0,cj,b1,n2,an⟩:=KF w 46 46 #[D am,C aa al ac,D at_,C ab ak ad,D bs,C ba bl bc,D bt,C bb bk bd,C pa pl pc,E H r.sg,E H (r.tm:Int)] #[D false,C none 0 0,D false,C none 0 0,D false,C none 0 0,D false,C none 0 0,C none 0 0,E H 0,E H 0];have n1:RtX W0 w.heap.size #[D am,C aa al ac,D at_,C ab ak ad,D bs,C ba bl bc,D bt,C bb bk bd,C pa pl pc,E H r.sg,E H (r.tm:Int)] r:=⟨b1,h0.below an⟩;have Qw:=Z cj;have Uc:=Ae.2 hs.w0;obtain⟨d,hd⟩:=ex (r.w.length-1:Nat);have Qo:(r.w.length:Int)-1=(d:Int):=O
 obtain⟨L,hL⟩:=ex (YN r.w);have Qs:=Z (show(cf r.w d).num=L by rw[<-hL,<-hd];rfl);have Qq:=Z λ(V:F) (y:G) (hy:Jd V y r.w)=>Yo y r.w V hy;rw[Qo]at Qq;have Ql:=Z λ(V:F) (y:G) (hy:Jd V y r.w)=>Hg y r.w (d:Int) V hy;rw[Hz]at Ql;have HS:=Z hs;have gu:(d:Int)<=1000000000:=by have A:=hs.sz;grind
 have M1:Hid (DI w W0 []):=Z ⟨λi B z h=>by simp at h,λi j B z z' h=>by simp at h,an⟩;have q:=Z (And.intro n1 n2);have HL:=Z hL;clear h h0 hs cj an b1 n1 n2 Uc hd Qo hL;go_enter Tryz.func122,Tryz.ntmps122
 go_upto_region 1 with fail
 rw[Qw.o];refine Yn Dd [[],[0],[],[2],[3],[1,4,4],[5,5],[],[7,6,6,0,1,2,3,4,5,6,7]] [.eq (.pointer (some ⟨w.heap.size,8,none⟩)),.eq (I #[C pa pl pc]),.eq (.pointer (some ⟨w.heap.size,8,none⟩)),.eq (I #[C pa pl pc]),.eq (E H (d:Int)),.rat (cf r.w d),.int L,.ptr,.eq undef] [7,8] (λb v V=>DI w V [nb b v 0 1 (.int 0) (.int L)]/\TwX V w.heap.size (w.heap.size+1) #[D am,C aa al ac,D at_,C ab ak ad,D bs,C ba bl bc,D bt,C bb bk bd,C pa pl pc,E H r.sg,E H (r.tm:Int)] r) ⟨(M1.o.none).drew,TwX.below ⟨q.o.1,q.o.2⟩ (BD _ W0).drew⟩ (SR (.vl rfl λ_ _=>⟨_,by refine DO ?_;go_simp,rfl⟩)<|SR (.vl rfl λh j=>⟨_,by have o:=j.2.x.bx.c (i:=8) rfl;refine DO ?_;rw[h.e 0];go_simp,rfl⟩)<|SR (.vl rfl λ_ _=>⟨_,by refine DO ?_;go_simp,rfl⟩)<|SR (.vl rfl λh j=>⟨_,by have o:=j.2.x.bx.c (i:=8) rfl;refine DO ?_;rw[h.e 2];go_simp,rfl⟩)<|SR (.cl λh j=>c1 (h.e 3) (rv (Qq.o _ _ j.2.x.w)))<|SR (.cl λh j=>c2 (h.e 1) (h.e 4) (Ql.o _ _ j.2.x.w))<|SR (.cl λh _=>Qs.o ▸ MG _ (cf r.w d) _ (h.g 5))<|SR (.wr rfl λ_ j=>GK 0 j.1 (hT:=λm=>⟨m,j.2.alloc _⟩))<|SR (.wr rfl λh j=>Et 0 j.1 (h.g 6) (hp:=h.g 7) (hT:=λn m=>⟨m,j.2.set2 n rfl rfl _ _⟩)) Stp.end_)
  λf V2 hF M=>?_
 obtain⟨M,t⟩:=M;replace t:=Z t;refine DO ?_;rw[hF.e 0,hF.e 1,hF.e 2,hF.e 3,hF.e 4];obtain⟨B3,ap⟩:=hF.p 7;have M:=Dn M;simp only[ap]at M;rw[ap];have M2:=Z M;clear M hF ap;clear M1;have Qy:=Z (M2.o.ge 0 rfl);have ML:Hid (Kr w w.heap.size (w.heap.size+1) B3 k L r k V2):=Z ⟨r,⟨_,t.o.x.bx,t.o.x.is⟩,t.o.z,(by obtain⟨s,a,l,c,A,h2⟩:=M2.o.int (i:=0) rfl;exact⟨s,a,l,c,A,h2⟩),M2.o.2.2,⟨0,rfl,O⟩,rfl⟩;clear t M2;go_wp2;go_loopw [] (λwr=>∃n,Kr w w.heap.size (w.heap.size+1) B3 k L r n wr) λwr=>Classical.epsilon (ID λn=>Kr w w.heap.size (w.heap.size+1) B3 k L r n wr)
 case atStart=>exact⟨k,ML.o⟩
 case round=>
  obtain⟨n0,df⟩:=hrel;obtain⟨m,hm,_⟩:=OV (P:=λn=>Kr w w.heap.size (w.heap.size+1) B3 k L r n wr) df;obtain⟨g,bu,di,⟨s3,a3,l3,c3,n3,i3⟩,hB,⟨i,hi,co⟩,ck⟩:=hm.1;obtain⟨fs,fa,fl,fc,ft,fb,fk,fd,gs,ga,gl,gc,gt,gb,gk,gd,ha,hl,hc,bx,bz,ce,bi,cn,bn⟩:=bu.open;obtain⟨S,bj⟩:=HS.o.it i O;rw[<-hi]at S bj;have hw:g.w=r.w:=by rw[hi];exact(OS i r).1
  have Qp:Sm X L:=by rw[<-HL.o];exact HS.o.smL
  obtain⟨W,H2,H3⟩:=DY (pz X _ _ g.lo g.hi L wr ce i3 S.lo S.hi Qp (by have:=S.x2;omega)) (λ(V:F) (h:Bl wr V)=>Ml K X _ _ g.w g.lo V (bn.below h) (bi.below h) S.wh S.lo (by have:=S.sz;omega)) λ(V:F) (h:Bl wr V)=>ZM K X _ g V (bz.below h) S bj;obtain⟨b1,ae⟩:=ex (decide (1<JZ g.hi L-JZ g.lo L));obtain⟨g1,bf⟩:=ex (DV (ev g.w g.lo));rw[ae]at W;rw[bf]at H2;obtain⟨q,Qf,HM,HI,HQ,Ua,Qu,HW⟩:=IP (λ(V:F) (h:Bl wr V)=>And.intro (bx.below h) (And.intro (di.below h) (And.intro (n3.below h) (i3.below h)))) hB hm (And.intro hi co) ck bu bz hw;obtain⟨Qz,Ub,T,HP⟩:=Do ae bf S (And.intro bi (And.intro cn (And.intro bn ce)));have N:=Z λ(V:F) (h:Bl wr V)=>And.intro (q.o V h).1.all (And.intro (q.o V h).2.2.1.all (q.o V h).1.f);have hq:Bl wr wr:=BD _ wr;obtain⟨o,p,fr⟩:=N.o _ hq;clear df hm bu di n3 i3 hB hi co ck bx bz ce bi cn bn S bj hw Qp ae bf;have Qc:(1<JZ g.hi L-JZ g.lo L\/ev g.w g.lo=0)↔(b1=true\/b1=false/\g1=0):=by
   rw[<-Qz.o,<-Ub.o,I4,Bu,Bn];grind
  by_cases ah:1<JZ g.hi L-JZ g.lo L\/ev g.w g.lo=0
  . obtain⟨m',rfl⟩:∃m',m=m'+1:=by
     cases m with
     |succ m'=>exact⟨m',rfl⟩
     |zero=>
      have A:=HQ.o;rw[Yd]at A;have h2:=HS.o.stop;rw[HL.o,<-A,<-HW.o]at h2;exact absurd ah h2
    have Qx:=Z (show Yd L m' g.hv=Yd L k r by have A:=HQ.o;rw[Yd,BH ah]at A;exact A);replace Qc:=Qc.1 ah;clear ah;rcases Qc with rfl|⟨rfl,rfl⟩
    all_goals
     go_wp2_with(first
      |(go_at_call 198;refine W.o.mono ?_;rintro e w1 ⟨rfl,ae⟩;have hq:=Bt hq ae;clear o p fr;obtain⟨o,p,fr⟩:=N.o _ hq)
      |(go_at_call 121;refine(H2.o _ hq).mono ?_;rintro e w2 ⟨rfl,ay⟩;have hq:=Bt hq ay;clear o p fr;obtain⟨o,p,fr⟩:=N.o _ hq)
      |(go_at_call 67;refine(H3.o _ hq).mono ?_;rintro e w3 ⟨u3,rfl,dh,gj⟩;have hq:=Bt hq gj;obtain⟨f9,dj,ei,dx,fg,dt,ed,dz,LU,fh,gh,fm,gi,fi,fx,fo,gn,gr,gq,rfl,_,_⟩:=JI.form dh;clear o p fr;obtain⟨o,p,fr⟩:=N.o _ hq))
     obtain⟨q1,q2,q3,q4⟩:=q.o _ hq;have Qh:w.heap.size+1≠w.heap.size:=O
     have Qg:B3≠w.heap.size:=λe=>by rw[e,show Bx w3 w.heap.size 39 _=(w3.heap[w.heap.size]?=_)from rfl,show w3.heap[w.heap.size]?=_ from q1]at q3;simp only[A9,DB]at q3;exact absurd q3.2.1 DJ
     have kk:=Rc q1 (D f9) (C dj ei dx) (D fg) (C dt ed dz) (D LU) (C fh gh fm) (D gi) (C fi fx fo) (C gn gr gq) (E H g.hv.sg) (E H (g.hv.tm:Int));have Qk:=(show Kr w w.heap.size (w.heap.size+1) B3 k L r m' _ from⟨g.hv,Gy.put (Ua.o.below hq) dh,q2.far11 Qh _ _ _ _ _ _ _ _ _ _ _,⟨s3,a3,l3,c3,q3.far11 Qg _ _ _ _ _ _ _ _ _ _ _,kk.int q4⟩,Re (Bt Qf.o hq) (Aa _) _ _ _ _ _ _ _ _ _ _ _,⟨i+1,by rw[Zm,<-HI.o.1],by have:=HI.o.2;omega⟩,Qx.o⟩);go_roundw
     case rel=>exact⟨m',Qk⟩
     case measure=>exact Rj (P:=λn=>Kr w w.heap.size (w.heap.size+1) B3 k L r n wr) (Q:=λn=>Kr w w.heap.size (w.heap.size+1) B3 k L r n _) HM.o Qk
  . have Qc:b1=false/\¬g1=0:=by
     grind
    obtain⟨rfl,ai⟩:=Qc;have Qm:(g1==0)=false:=by simpa using ai
    have HE:=Z (show g=Yd L k r by
     have A:=HQ.o;cases m with
      |zero=>exact A
      |succ m=>rw[Yd,BG ah]at A;exact A)
    clear ai ah;go_upto_region 4 with(first
     |(go_at_call 198;refine W.o.mono ?_;rintro e w1 ⟨rfl,ae⟩;have hq:=Bt hq ae;clear o p fr;obtain⟨o,p,fr⟩:=N.o _ hq)
     |(go_at_call 121;refine(H2.o _ hq).mono ?_;rintro e w2 ⟨rfl,ay⟩;have hq:=Bt hq ay;clear o p fr;obtain⟨o,p,fr⟩:=N.o _ hq))
    have gv:2<=g.w.length:=by rw[HW.o];exact HS.o.l2
    obtain⟨Qv,M9,Qt,Qd⟩:=Do (show TwX w2 w.heap.size (w.heap.size+1) #[D fs,C fa fl fc,D ft,C fb fk fd,D gs,C ga gl gc,D gt,C gb gk gd,C ha hl hc,E H g.sg,E H (g.tm:Int)] g from⟨⟨(q.o _ hq).1,Qu.o.below hq⟩,(q.o _ hq).2.1⟩) (DI.one (.int L) (q.o _ hq).2.2.1 (q.o _ hq).2.2.2 Qy.o (Bt Qf.o hq)) (show decide (L≠0)=true from BK (by have:=HS.o.pos;rw[HL.o]at this;omega)) (show Sm X L by rw[<-HL.o];exact HS.o.smL);have Qr:=Z (show Sm (X+X) (JZ g.hi L)from Sm.div (T.o.hi.1.mul Qd.o));clear o p fr hq Qm;refine Yn Dd [[],[0],[1],[],[2,3],[],[4,5,4],[6],[7],[7],[],[10,8,6,0,1,2,3,4,5,6,7,8,10],[9,11,0,1,2,3,4,5,6,7,8,9,10,11]] [.eq (.pointer (some ⟨w.heap.size,0,none⟩)),.eq (.pointer (some ⟨w.heap.size,4,none⟩)),.eq (I #[D gs,C ga gl gc,D gt,C gb gk gd]),.int L,.int (JZ g.hi L),.int L,.tup1 (.rat (Rat.divInt (JZ g.hi L) L)),.tup1 (.rat (Rat.divInt (JZ g.hi L) L)),.rat (Rat.divInt (JZ g.hi L) L),.eq (D true),.ptr,.eq undef,.eq (D true)] [10,11] (λb v V=>DI w V [some (B3,.int L),nb b v 0 1 (.rat 0) (.rat (Rat.divInt (JZ g.hi L) L))]/\TwX V w.heap.size (w.heap.size+1) #[D fs,C fa fl fc,D ft,C fb fk fd,D gs,C ga gl gc,D gt,C gb gk gd,C ha hl hc,E H g.sg,E H (g.tm:Int)] g) ⟨(M9.o.none).drew,Qv.o.below (BD _ w2).drew⟩ (SR (.vl rfl λ_ _=>⟨_,by refine DO ?_;go_simp,rfl⟩)<|SR (.vl rfl λh _=>⟨_,by refine DO ?_;rw[h.e 0];go_simp,rfl⟩)<|SR (.vl rfl λh j=>⟨_,by have o:=And.intro (j.2.x.bx.c (i:=4) rfl) (And.intro (j.2.x.bx.c (i:=5) rfl) (And.intro (j.2.x.bx.c (i:=6) rfl) (j.2.x.bx.c (i:=7) rfl)));refine DO ?_;rw[h.e 1];go_simp,rfl⟩)<|SR (.vl rfl λ_ j=>Ek 0 j.1)<|SR (.cl λh j=>c2 (h.e 2) rfl (RX X _ _ g.hi L _ j.2.x.hi (h.g 3) T.o.hi Qd.o (by have:=T.o.x2;omega)))<|SR (.vl rfl λ_ j=>Ek 0 j.1)<|SR (.cl λh _=>Lw (Qt.o ▸ IV _ _ (JZ g.hi L) L _ (h.g 4) (h.g 5) (Sok.of Qr.o (by have:=T.o.x2;omega)) (Sok.of Qd.o (by have:=T.o.x2;omega))))<|SR (.vl rfl λh _=>mw (h.g 6))<|SR (.vl rfl λh _=>L2 (h.g 7))<|SR (.vl rfl λh _=>L3 (h.g 7))<|SR (.wr rfl λ_ j=>L1 1 j.1 (hT:=λm=>⟨m,j.2.alloc _⟩))<|SR (.wr rfl λh j=>KZ 1 j.1 (h.g 8) (hp:=h.g 10) (hT:=λn m=>⟨m,j.2.put4 n rfl rfl rfl rfl _ _ _ _⟩))<|SR (.vl rfl λh _=>aw (h.g 9)) Stp.end_)
     λf U hF M=>?_
    obtain⟨M,t⟩:=M;replace t:=Z t;refine DO ?_;rw[hF.e 0,hF.e 1,hF.e 2,hF.e 9,hF.e 12];obtain⟨B6,aq⟩:=hF.p 10;have M:=Dn M;simp only[aq]at M;rw[aq];have Qe:=Z M;clear M hF aq;clear M9;obtain⟨x,hx⟩:=ex (Rat.divInt (JZ g.hi L) L);have HX:=Z hx;rw[hx]at Qe;have Qn:=Z (show DQ (X+X) x by rw[<-HX.o];exact DQ.divInt (by have:=HS.o.pos;rw[HL.o]at this;omega) Qr.o (Qd.o.mono O));obtain⟨s4,a4,l4,c4,t4,b4,k4,d4,n4,r4,_,_⟩:=Qe.o.rat (i:=1) rfl;have q:=Z λ(V:F) (h:Bl U V)=>And.intro (t.o.x.bx.below h) (And.intro (t.o.z.below h) (And.intro (n4.below h) (And.intro (t.o.x.below h).lo (And.intro (t.o.x.below h).hi (And.intro (t.o.x.below h).w (r4.below h))))));have HB:=Z Qe.o.2.2;have Qj:¬B6=w.heap.size:=λe=>by have A:=n4;rw[e]at A;have h2:=t.o.x.bx;rw[show Bx U w.heap.size 46 _=(U.heap[w.heap.size]?=_)from rfl,show U.heap[w.heap.size]?=_ from A]at h2;simp only[A9,DB]at h2;exact absurd h2.2.1 DJ
    have gw:¬w.heap.size=B6:=λe=>Qj e.symm;have gy:¬w.heap.size+1=w.heap.size:=O
    have ia:¬w.heap.size=w.heap.size+1:=O
    have W:=Z λ(V:F) (h:Bl U V)=>XT _ _ x g.lo V (r4.below h) (t.o.x.below h).lo (Sq.of Qn.o (by have:=T.o.x2;omega)) (Sq.of T.o.lo (by have:=T.o.x2;omega));have H2:=Z λ(V:F) (h:Bl U V)=>Ml K (X+X) _ _ g.w x V (t.o.x.below h).w (r4.below h) T.o.wh Qn.o (by have A:=HS.o.sz;rw[<-HW.o]at A;omega);obtain⟨n5,bm⟩:=ex (Xf x g.lo);obtain⟨g5,bg⟩:=ex (DV (ev g.w x));rw[bm]at W;rw[bg]at H2;obtain⟨HO,HG,Qi,N⟩:=Do (show 0<n5↔g.lo<x by rw[<-bm,<-I5];rw[Gx];have:=(ZE x).three g.lo;omega) (show g5=0↔ev g.w x=0 by rw[<-bg];exact I4) (show GD k r=Ho L g by unfold GD;rw[HL.o,HE.o]) λ(V:F) (h:Bl U V)=>And.intro (q.o V h).1.all (And.intro (q.o V h).2.1.all (And.intro (Bx.all (q.o V h).2.2.1) (And.intro (q.o V h).1.f (q.o V h).2.1.f)));have hq:Bl U U:=BD _ _;obtain⟨o,p,R,f0,f1⟩:=N.o _ hq;clear t Qe n4 r4 hx bm bg;by_cases de:0<n5
    . by_cases ai:g5=0
      . subst ai;have Qb:=Z (show Ho L g=⟨x,x,g.w,0,g.tm⟩by unfold Ho;rw[HX.o,BH ⟨HO.o.1 de,HG.o.1 rfl⟩]);go_upto_region 6 with(first
         |(go_at_call 32;refine(W.o _ hq).mono ?_;rintro e w5 ⟨rfl,aj⟩;have hq:=Bt hq aj;clear o p R f0 f1;obtain⟨o,p,R,f0,f1⟩:=N.o _ hq)
         |(go_at_call 121;refine(H2.o _ hq).mono ?_;rintro e w6 ⟨rfl,az⟩;have hq:=Bt hq az;clear o p R f0 f1;obtain⟨o,p,R,f0,f1⟩:=N.o _ hq))
        obtain⟨⟨t0,t1,t2,t3⟩,⟨t5,t6,t7,t8⟩,t9,o0,o1⟩:=(q.o _ hq).1.r11;obtain⟨o2,o3,o5,o6⟩:=Bx.r4 (q.o _ hq).2.2.1;clear o R;go_region
        go_wp2_with fail
        obtain⟨b0,k6,_,_,_,m3,m4⟩:=q.o _ hq;exact BC (v:=I #[D s4,C a4 l4 c4,D t4,C b4 k4 d4,D s4,C a4 l4 c4,D t4,C b4 k4 d4,C ha hl hc,E H 0,E H (g.tm:Int)]) (by simp[results,Tryz.results122,go_sem,p]) rfl (p9 (by rw[Qi.o,Qb.o];exact Ko b0.ty k6.ty m4 m4 m3 (Bt HB.o hq) (Aa _) O))
      . have Qm:(g5==0)=false:=by simpa using ai
        have Qb:=Z (show Ho L g=g by unfold Ho;rw[HX.o,BG λh=>ai (HG.o.2 h.2)]);go_wp2_with(first
         |(go_at_call 32;refine(W.o _ hq).mono ?_;rintro e w5 ⟨rfl,aj⟩;have hq:=Bt hq aj;clear o p R f0 f1;obtain⟨o,p,R,f0,f1⟩:=N.o _ hq)
         |(go_at_call 121;refine(H2.o _ hq).mono ?_;rintro e w6 ⟨rfl,az⟩;have hq:=Bt hq az;clear o p R f0 f1;obtain⟨o,p,R,f0,f1⟩:=N.o _ hq))
        obtain⟨b0,k6,_,m1,m2,m3,_⟩:=q.o _ hq;exact BC (v:=I #[D fs,C fa fl fc,D ft,C fb fk fd,D gs,C ga gl gc,D gt,C gb gk gd,C ha hl hc,E H g.sg,E H (g.tm:Int)]) (by simp[results,Tryz.results122,go_sem,p]) rfl (by rw[Qi.o,Qb.o];exact Ko b0.ty k6.ty m1 m2 m3 (Bt HB.o hq) (Aa _) O)
    . have Qb:=Z (show Ho L g=g by unfold Ho;rw[HX.o,BG λh=>de (HO.o.2 h.1)]);go_wp2_with(go_at_call 32;refine(W.o _ hq).mono ?_;rintro e w5 ⟨rfl,aj⟩;have hq:=Bt hq aj;clear o p R f0 f1;obtain⟨o,p,R,f0,f1⟩:=N.o _ hq)
      obtain⟨b0,k6,_,m1,m2,m3,_⟩:=q.o _ hq;exact BC (v:=I #[D fs,C fa fl fc,D ft,C fb fk fd,D gs,C ga gl gc,D gt,C gb gk gd,C ha hl hc,E H g.sg,E H (g.tm:Int)]) (by simp[results,Tryz.results122,go_sem,p]) rfl (by rw[Qi.o,Qb.o];exact Ko b0.ty k6.ty m1 m2 m3 (Bt HB.o hq) (Aa _) O)
def dT(m:Nat)(q:Rat):List UInt8:=Y5 (q.num*10^m/(q.den:Int)) m
def Y8(m:Nat):Nat->RtQ->RtQ
 |0,r=>r
 |k+1,r=>if dT m r.lo=dT m r.hi then r else Y8 m k r.hv
structure DgOk(K X k m:Nat)(r:RtQ):Prop where
 it:∀i,i<=k->RzOk K X (FZ i r)/\DQ X (DX (FZ i r).lo (FZ i r).hi)
 stop:dT m (Y8 m k r).lo=dT m (Y8 m k r).hi
def Ks(w:F)(B K m:Nat)(r:RtQ)(n:Nat)(V:F):Prop:=
 ∃a,Gy V B a/\Bl w V/\(∃i,a=FZ i r/\i+n=K)/\Y8 m n a=Y8 m K r
theorem Rk(K X k m:Nat)(v:G)(r:RtQ)(n:Int)(w:F)(h:JI w v r)(hs:DgOk K X k m r)(hn:min (max n 0) 30=(m:Int))(aq:Lib.TabIs Tryz.prog w "internal/strconv.uint64pow10" .u64 Lib.pow10Tab):
 Calls Tryz.prog 19 #[v,E H n] w λe w'=>e=.returned (.string ⟨(dT m (Y8 m k r).lo).toArray⟩)/\Bl w w':=by
 obtain⟨fs,fa,fl,fc,ft,fb,fk,fd,gs,ga,gl,gc,gt,gb,gk,gd,ha,hl,hc,rfl,_,_⟩:=JI.form h;obtain⟨W0,p⟩:=ex (w.alloc (L #[D fs,C fa fl fc,D ft,C fb fk fd,D gs,C ga gl gc,D gt,C gb gk gd,C ha hl hc,E H r.sg,E H (r.tm:Int)] 46));have z:Bl w W0:=by rw[<-p];exact Ba w _
 have ML:Hid (Ks w w.heap.size k m r k W0):=Z ⟨r,⟨_,by rw[<-p];exact Bx.new w _ _,h.below z⟩,z,⟨0,rfl,O⟩,rfl⟩;obtain⟨Qd,HT,HS⟩:=DY p aq hs;obtain⟨W,dx⟩:=ex (min n 30);have HM:=Z (show min (max W 0) 100=(m:Int)by omega);obtain⟨S,B⟩:=ex ((⟨(dT m (Y8 m k r).lo).toArray⟩:ByteArray):ByteArray);rw[B];have Ql:=Z B;clear h hs aq p z hn B;go_enter Tryz.func19,Tryz.ntmps19
 go_upto_region 1 with fail
 rw[Qd.o];clear Qd;go_wp2;go_loopw [] (λwr=>∃q,Ks w w.heap.size k m r q wr) λwr=>Classical.epsilon (ID λq=>Ks w w.heap.size k m r q wr)
 case atStart=>exact⟨k,ML.o⟩
 case round=>
  obtain⟨q0,an⟩:=hrel;obtain⟨q,R,_⟩:=OV (P:=λq=>Ks w w.heap.size k m r q wr) an;obtain⟨a,U,o,⟨i,hi,aj⟩,ah⟩:=R.1;obtain⟨xs,xa,xl,xc,xt,xb,xk,xd,ys,ya,yl,yc,yt,yb,yk,yd,za,zl,zc,bx,ap,bi,am,ai,bg⟩:=U.open;obtain⟨d,T⟩:=HS.o.it i O;rw[<-hi]at d T;obtain⟨g,s,t⟩:=DY (λ(V:F) (h:Bl wr V)=>VS _ a.lo W m V (am.below h) (Sq.of d.lo (by have:=d.x2;omega)) HM.o (I0 HT.o (Bt o h))) (λ(V:F) (h:Bl wr V)=>VS _ a.hi W m V (ai.below h) (Sq.of d.hi (by have:=d.x2;omega)) HM.o (I0 HT.o (Bt o h))) λ(V:F) (h:Bl wr V)=>ZM K X _ a V (ap.below h) d T;obtain⟨A,M⟩:=ex ((⟨(dT m a.lo).toArray⟩:ByteArray):ByteArray);obtain⟨S2,ae⟩:=ex ((⟨(dT m a.hi).toArray⟩:ByteArray):ByteArray);rw[show(⟨(Y5 (a.lo.num*10^m/(a.lo.den:Int)) m).toArray⟩:ByteArray)=A from M]at g;rw[show(⟨(Y5 (a.hi.num*10^m/(a.hi.den:Int)) m).toArray⟩:ByteArray)=S2 from ae]at s;obtain⟨c9,dt⟩:=ex ((A.toList==S2.toList):Bool);have Qf:=Z (show c9=true↔dT m a.lo=dT m a.hi by grind[ByteArray.toList_mk]);have Qh:=Z M;have H5:=g;obtain⟨HN,Qa,Qk,HI,x,Qg⟩:=IM (λ(V:F) (h:Bl wr V)=>bx.below h) o R (And.intro hi aj) ah U;have j:=Z λ(V:F) (h:Bl wr V)=>(HN.o V h).all;have l:=Z (show ∀V:F,Bl wr V->∀i,V.frozen? ⟨w.heap.size,i,none⟩=false from λV h i=>(HN.o V h).f i);clear an R U o hi aj ah bx ap bi am ai bg d T M ae ML;have c:=j.o _ (BD _ wr);have fr:=l.o _ (BD _ wr);go_upto_region 2 with fail
  have hq:Bl wr wr.drew:=(BD _ wr).drew;go_region_held3 (λw'=>∀i,w'.cell? ⟨w.heap.size,i,none⟩=#[D xs,C xa xl xc,D xt,C xb xk xd,D ys,C ya yl yc,D yt,C yb yk yd,C za zl zc,E H a.sg,E H (a.tm:Int)][i]?) (first|(with_reducible exact c)|(go_keep;done))
   (first
    |(go_at_call 33;refine(g.o _ hq).mono ?_;clear g;rintro e w1 ⟨rfl,az⟩;have hq:=Bt hq az;clear c fr;have c:=j.o _ hq;have fr:=l.o _ hq)
    |(go_at_call 33;refine(s.o _ hq).mono ?_;clear s;rintro e w2 ⟨rfl,bf⟩;have hq:=Bt hq bf;clear c fr;have c:=j.o _ hq;have fr:=l.o _ hq))
  cases c9 with
  |false=>
   have y:¬dT m a.lo=dT m a.hi:=λh=>by have:=Qf.o.2 h;cases this
   obtain⟨f,rfl⟩:∃f,q=f+1:=by
    cases q with
    |succ f=>exact⟨f,rfl⟩
    |zero=>
     have b:=x.o;rw[Y8]at b;have h2:=HS.o.stop;rw[<-b]at h2;exact absurd h2 y
   have Qj:=Z (show Y8 m f a.hv=Y8 m k r by have b:=x.o;rw[Y8,BG y]at b;exact b);clear y;go_wp2_with(go_at_call 67;refine(t.o _ hq).mono ?_;clear t;rintro e w3 ⟨u3,rfl,ay,N⟩;have hq:=Bt hq N;obtain⟨cj,bj,ce,bn,ck,bm,bz,bu,LU,cn,di,de,dj,co,dh,df,dz,ei,ed,rfl,_,_⟩:=JI.form ay;clear c fr;have c:=j.o _ hq;have fr:=l.o _ hq)
   have Qe:=(show Ks w w.heap.size k m r f _ from⟨a.hv,Gy.put (Qg.o.below hq) ay,Re (Bt Qa.o hq) (Aa _) _ _ _ _ _ _ _ _ _ _ _,⟨i+1,by rw[Zm,<-HI.o.1],by have:=HI.o.2;omega⟩,Qj.o⟩);go_roundw
   case rel=>exact⟨f,Qe⟩
   case measure=>exact Rj (P:=λq=>Ks w w.heap.size k m r q wr) (Q:=λq=>Ks w w.heap.size k m r q _) Qk.o Qe
  |true=>
   have HE:=Z (show a=Y8 m k r by
    have b:=x.o;have he:=Qf.o.1 rfl;cases q with
     |zero=>exact b
     |succ q=>rw[Y8,BH he]at b;exact b)
   have Qi:=Z (show A=S by rw[<-Qh.o,<-Ql.o,HE.o]);have u:=Z λ(V:F) (h:Bl wr V)=>H5.o V h;rw[Qi.o]at u;clear t H5;go_wp2_with(go_at_call 33;refine(u.o _ hq).mono ?_;clear u;rintro e w3 ⟨rfl,N⟩;have hq:=Bt hq N)
   go_ret;exact⟨rfl,Bt Qa.o hq⟩
end M3
section
open M3
def Ec(s:List UInt8 × Bool)(c:UInt8):List UInt8 × Bool:=if c=46\/(s.2=true/\c=48)then s else(s.1++[c],s.2&&decide (c=45))
def Rl(l:List UInt8):List UInt8 × Bool:=l.foldl Ec ([],true)
variable{a b:Int}{m:Nat}
def qg(l:List UInt8):∀s,l.foldl Ec s=(l.filter (· != 46)).foldl Ec s:=by
 induction l with
 |nil=>intro s;rfl
 |cons c l a=>
  intro s;by_cases h:c=46
  . subst h;rw[List.filter_cons_of_neg DJ,<-a,List.foldl_cons,Ec,BH (Or.inl rfl)]
  . rw[List.filter_cons_of_pos (by simpa using h),List.foldl_cons,List.foldl_cons,a]
def Rm(j:Nat)(p:List UInt8):(List.replicate j 48).foldl Ec (p,true)=(p,true):=by
 induction j with
 |zero=>rfl
 |succ j a=>rw[CQ,List.foldl_cons,Ec,BH (Or.inr ⟨rfl,rfl⟩),a]
def qh(l:List UInt8):∀p,(∀c∈l,c≠46)->l.foldl Ec (p,false)=(p++l,false):=by
 induction l with
 |nil=>intro p _;rw[CC];rfl
 |cons c l b=>
  intro p h;rw[List.foldl_cons,Ec,BG (by rintro(e|⟨e,_⟩);exact h c AH e;cases e)];rw[show((p,false).2&&decide (c=45))=false from rfl,b _ λd a=>h d (A5 _ a),Cz];rfl
def Zn{n:Nat}(hn:n≠0)(p:List UInt8):(Yz n).foldl Ec (p,true)=(p++Yz n,false):=by
 obtain⟨c,t,f,g,i,j,_⟩:=It hn;have b:∀d∈c::t,d≠46:=λd a e=>by
  have:=YY (AD.1 j d a);rw[e]at this;simp at this
 rw[f,List.foldl_cons,Ec,BG (by rintro(e|⟨_,e⟩);exact b c AH e;exact g e)];rw[show((p,true).2&&decide (c=45))=false by simp[i],qh _ _ λd a=>b d (A5 _ a),Cz];rfl
def Rn(z:Int)(k:Nat):(Rl (Y5 z k)).1=if z=0 then []else XP z:=by
 unfold Rl;rw[qg,lk];by_cases a:z=0
 . subst a;rw[BG O,BH rfl];unfold EE;rw[List.foldl_append,Rm,show Yz (0:Int).natAbs=[48]by decide];rfl
 . have hn:z.natAbs≠0:=O
   rw[BG a];unfold EE XP;split
   . rw[List.foldl_cons,Ec,BG (by rintro(e|⟨_,e⟩)<;>cases e),List.foldl_append];rw[show(([],true):List UInt8 × Bool).1++[45]=[45]from rfl,show((([],true):List UInt8 × Bool).2&&decide ((45:UInt8)=45))=true by decide,Rm,Zn hn];rfl
   . rw[List.foldl_append,Rm,Zn hn];rfl
def Ro(z:Int):XP z≠[]:=by
 have:=lm z.natAbs;unfold XP;split
 . simp
 . exact λe=>by rw[e]at this;simp at this
def Zo{a b:Nat}(h:Yz a=Yz b):a=b:=by
 by_cases g:a=0
 . by_cases e:b=0
   . omega
   . obtain⟨c,t,d,f,_⟩:=It e;rw[g,show Yz 0=[48]by decide,d]at h;injection h with h _
     exact absurd h.symm f
 . obtain⟨c,t,d,f,_,_,i⟩:=It g;by_cases e:b=0
   . rw[e,show Yz 0=[48]by decide,d]at h;injection h with h _
     exact absurd h f
   . obtain⟨c',l,j,_,_,_,k⟩:=It e;rw[d,j]at h;rw[<-i,<-k,h]
def qi(h:XP a=XP b):a=b:=by
 have no:∀n t,Yz n≠45::t:=λn t e=>by
  have:=VO n;rw[e]at this;exact this rfl
 unfold XP at h;split at h<;>split at h
 . injection h with _ h
   have:=Zo h;omega
 . exact absurd h.symm (no _ _)
 . exact absurd h (no _ _)
 . have:=Zo h;omega
def qj{k:Nat}(h:Y5 a k=Y5 b k):a=b:=by
 have c:=Rn a k;have f:=Rn b k;rw[h,f]at c;by_cases e:a=0
 . by_cases d:b=0
   . omega
   . rw[BH e,BG d]at c;exact absurd c (Ro b)
 . by_cases d:b=0
   . rw[BG e,BH d]at c;exact absurd c.symm (Ro a)
   . rw[BG e,BG d]at c;exact(qi c).symm
def Ed(m:Nat)(q:Rat):Int:=q.num*10^m/(q.den:Int)
def Mo(m:Nat)(q:Rat):Rat.divInt (Ed m q) (10^m)<=q:=VX.1 (ld q (10^m) (Jx m))
def Mp(m:Nat)(q:Rat):q<Rat.divInt (Ed m q+1) (10^m):=VY.1 (lj q (10^m) (Jx m))
def Zp(h:a<=b):Rat.divInt a (10^m)<=Rat.divInt b (10^m):=by
 have hp:(0:Rat)<((10^m:Int):Rat):=Rat.intCast_pos.2 (Jx m);have c:((10^m:Int):Rat)≠0:=λe=>by rw[e]at hp;exact absurd hp Rat.lt_irrefl
 rw[AA,AA,<-Rat.not_lt,Rat.lt_div_iff hp,Aj c,Rat.not_lt];exact_mod_cast h
theorem qm{a b:Rat}(f:a<=b)(h:∀M:Int,a<Rat.divInt M (10^m)->¬Rat.divInt M (10^m)<=b):Ed m a=Ed m b:=by
 have l1:=Mo m a;have d:=Mp m a;have l2:=Mo m b;have e:=Mp m b;refine Int.le_antisymm (Int.not_lt.1 λc=>?_) (Int.not_lt.1 λc=>?_)
 . have:=Zp (m:=m) (show Ed m b+1<=Ed m a by omega);grind
 . have:=Zp (m:=m) (show Ed m a+1<=Ed m b by omega);exact h (Ed m b) DG l2
end
namespace M3
def qn(v:G)(ps:List Rat)(w:F)(h:Jd w v ps)(tp:Jc ps=ps)(P:ps≠[])(aj:Sqs ps)(m:∀i,Sq (cf ps i/cf ps (ps.length-1))):
 Calls Tryz.prog 194 #[v] w λe w'=>∃u,e=.returned u/\Jg w' u (Yh ps)/\Bl w w':=by
 obtain⟨c,la,d,rfl⟩:=h.form;obtain⟨bf,ay,az,bg,_⟩:=h.row.forms;have s:=Jq tp P;obtain⟨n,hn⟩:=ex (ps.length-1:Nat);have Qh:(ps.length:Int)-1=(n:Int):=by have:=Ae.2 P;omega
 rw[hn]at s m;obtain⟨Qm,Qi,Qn,Qf,Qo,Qk⟩:=IM (show decide (cf ps n≠0)=true from BK s) (show ∀i,Ij (EA ps i) (Yg (cf ps i/cf ps n))=EA ps (i+1)from λi=>by rw[EA,hn]) (show EA ps n+1=Yh ps by unfold Yh;rw[hn]) aj m (show ∀i,Sq (Yg (cf ps i/cf ps n))from λi=>lX (m i));have Qg:=Z (show ∀i,Sq (EA ps i)from λi=>by
  induction i with
   |zero=>exact FV
   |succ i ih=>rw[<-Qi.o];unfold Ij;split;exact Qk.o i;exact ih)
 have HP:=Z λ(V:F) (Q:Bl w V)=>h.below Q;have A:=Z λ(V:F) (Q:Bl w V)=>Yo (I #[C c la d]) ps V (h.below Q);rw[Qh]at A;obtain⟨W0,ae,k⟩:=Hw 25 (.cell 25 (C c la d)) EJ 41 (.rat 0) (Xx _) 41 (.rat (EA ps 0)) (Xx _) (w:=w);have bz:n<=1099511627776:=O
 clear h bf ay az bg hn Qh aj m s tp P;go_enter Tryz.func194,Tryz.ntmps194
 go_upto_region 2 with fail
 rw[ae.o];clear ae;have c0:=(k.o.cell (i:=0) rfl).1.cell;go_upto_region 3 with(go_at_call 26;refine(A.o _ k.o.2.2).mono ?_;rintro e w2 ⟨rfl,ah⟩)
 have ML:Hid (DI w w2 [some (w.heap.size,.cell 25 (C c la d)),some (w.heap.size+1,.rat 0),some (w.heap.size+1+1,.rat (EA ps 0))]):=Z (k.o.below ah);clear c0 ah k;go_loopw [11] (λU wr=>∃i:Nat,i<=n/\U=E H (i:Int)/\Hid (DI w wr [some (w.heap.size,.cell 25 (C c la d)),some (w.heap.size+1,.rat 0),some (w.heap.size+1+1,.rat (EA ps i))])) λU _=>n-(intOf U).toNat
 case atStart=>exact⟨0,At _,rfl,ML⟩
 case round=>
  obtain⟨i,hi,rfl,l⟩:=hrel;clear ML;by_cases bn:i<n
  . have bu:(i:Int)<(n:Int):=O
    go_upto_region 5 with fail
    refine Yn Dd [[],[],[0,1],[],[],[4,2],[3,5,5],[2,6,6],[7],[8],[8],[],[11,9,7,0,1,2,3,4,5,6,7,8,9,11],[10,12,0,1,2,3,4,5,6,7,8,9,10,11,12]] [.eq (I #[C c la d]),.eq (Value.int IntKind.i64 ↑i),.rat (cf ps i),.eq (I #[C c la d]),.eq (I #[C c la d]),.eq (E H (n:Int)),.rat (cf ps n),.tup1 (.rat (cf ps i/cf ps n)),.tup1 (.rat (cf ps i/cf ps n)),.rat (cf ps i/cf ps n),.eq (D true),.ptr,.eq undef,.eq (D true)] [11,12] (λb v V=>DI w V [some (w.heap.size,.cell 25 (C c la d)),some (w.heap.size+1,.rat 0),some (w.heap.size+1+1,.rat (EA ps i)),nb b v 0 1 (.rat 0) (.rat (cf ps i/cf ps n))]) (l.o.none).drew (SR (.vl rfl λ_ j=>Ey 0 j)<|SR (.vl rfl λ_ _=>mv)<|SR (.cl λh j=>c2 (h.e 0) (h.e 1) (by have q:=Hg _ ps (i:Int) _ (HP.o _ j.2.2);rw[Hz]at q;exact q))<|SR (.vl rfl λ_ j=>Ey 0 j)<|SR (.vl rfl λ_ j=>Ey 0 j)<|SR (.cl λh j=>c1 (h.e 4) (rv (A.o _ j.2.2)))<|SR (.cl λh j=>c2 (h.e 3) (h.e 5) (by have q:=Hg _ ps (n:Int) _ (HP.o _ j.2.2);rw[Hz]at q;exact q))<|SR (.cl λh _=>Lw (Qm.o ▸ Py _ _ (cf ps i) (cf ps n) _ (h.g 2) (h.g 6) (Qf.o.at i) (Qf.o.at n)))<|SR (.vl rfl λh _=>mw (h.g 7))<|SR (.vl rfl λh _=>L2 (h.g 8))<|SR (.vl rfl λh _=>L3 (h.g 8))<|SR (.wr rfl λ_ j=>L1 3 j)<|SR (.wr rfl λh j=>KZ 3 j (h.g 9) (hp:=h.g 11))<|SR (.vl rfl λh _=>aw (h.g 10)) Stp.end_)
     λf V2 hF a=>?_
    refine DO ?_;rw[hF.e 0,hF.e 1,hF.e 3,hF.e 4,hF.e 5,hF.e 10,hF.e 13];obtain⟨B3,R⟩:=hF.p 11;have a:=Dn a;simp only[R]at a;rw[R];have M3:=Z a;clear a hF R;clear l;go_upto_region 6 with fail
    refine Yn Dd [[],[],[1],[0,2,2],[3,3,0,1,2,3]] [.rat (EA ps i),.rat (cf ps i/cf ps n),.rat (Yg (cf ps i/cf ps n)),.rat (EA ps (i+1)),.eq undef] [4] (λb _ V=>DI w V [some (w.heap.size,.cell 25 (C c la d)),some (w.heap.size+1,.rat 0),some (w.heap.size+1+1,if b.getD 0 false then .rat (EA ps (i+1))else .rat (EA ps i)),some (B3,.rat (cf ps i/cf ps n))]) M3.o.drew (SR (.vl rfl λ_ j=>EC 2 j)<|SR (.vl rfl λ_ j=>EC 3 j)<|SR (.cl λh _=>pu _ (cf ps i/cf ps n) _ (h.g 1) (Qo.o i))<|SR (.cl λh _=>by have q:=px _ _ (EA ps i) (Yg (cf ps i/cf ps n)) _ (h.g 0) (h.g 2) (Qg.o i) (Qk.o i);rw[Qi.o]at q;exact q)<|SR (.wr rfl λh j=>KZ 2 j (h.g 3)) Stp.end_)
     λf V5 hF a=>?_
    refine DO ?_;have a:=Dn a;have M4:=Z a;clear a hF;clear M3;go_wp2_with fail
    go_roundw
    case rel=>exact⟨i+1,O,by go_num,Z (M4.o.take 3)⟩
    case measure=>simp[intOf];omega
  . obtain rfl:i=n:=O
    have p:=Z λ(V:F)=>Ex 1 O O V;have HB:=p;have r:=Z λ(V:F) (x y:G) (hx:Ji V x 1) (hy:Ji V y 1)=>IV x y 1 1 V hx hy (Sok.of (Sm.one 1 O) O) (Sok.of (Sm.one 1 O) O);rw[show decide ((1:Int)≠0)=true from rfl,show Rat.divInt 1 1=1 from rfl]at r;go_upto_region 9 with(first
     |(go_at_call 35;refine(p.o _).mono ?_;clear p;rintro e w3 ⟨u3,rfl,t,ap⟩)
     |(go_at_call 35;refine(HB.o _).mono ?_;clear HB;rintro e w4 ⟨u4,rfl,bi,ai⟩;have t:=t.below ai)
     |(go_at_call 38;refine(r.o _ _ _ t bi).mono ?_;clear r;rintro e o ⟨u5,rfl,am,aq⟩;obtain⟨s9,K,X,M,t9,b9,W,N,rfl⟩:=Jg.form am))
    obtain⟨V6,T⟩:=ex (o.alloc (L #[D s9,C K X M,D t9,C b9 W N] 41));obtain⟨B6,S⟩:=ex (o.heap.size);have a:DI w (o.alloc (L #[D s9,C K X M,D t9,C b9 W N] 41)) [some (w.heap.size,.cell 25 (C c la d)),some (w.heap.size+1,.rat 0),some (w.heap.size+1+1,.rat (EA ps i)),some (o.heap.size,.rat 1)]:=DI.push (((l.o.below ap).below ai).below aq) (.rat 1) am;rw[T,S]at a;rw[T];rw[S];have M3:Hid (DI w V6 [some (w.heap.size,.cell 25 (C c la d)),some (w.heap.size+1,.rat 0),some (w.heap.size+1+1,.rat (EA ps i)),some (B6,.rat 1)]):=Z (a);clear l;clear a T S;obtain⟨s7,a7,l7,c7,t7,b7,k7,d7,n7,r7,i7,j7⟩:=M3.o.rat (i:=2) rfl;have bj:=n7.kb;obtain⟨s8,a8,l8,c8,t8,b8,k8,d8,n8,r8,i8,j8⟩:=M3.o.rat (i:=3) rfl;have bm:=n8.kb;obtain⟨s9,K,X,M,t9,b9,W,N,g,r9,i9,j9⟩:=M3.o.rat (i:=1) rfl;have B:=g.kb;have Qj:=g.fb;have z:=Z (Kb _ _ (EA ps i) 1 V6 r7 r8 (Qg.o i) pt);rw[Qn.o]at z;go_wp2_with(go_at_call 104;refine z.o.mono ?_;clear z;rintro e w6 ⟨u6,rfl,an,hq⟩;obtain⟨s8,a8,l8,c8,t8,b8,k8,d8,rfl⟩:=Jg.form an;clear B;have B:=(g.below hq).kb;clear Qj;have Qj:=(g.below hq).fb)
    have Qp:=Bt M3.o.2.2 hq;have Ql:=M3.o.ge 1 rfl;exact BC (by simp[results,Tryz.results194,go_sem,B]) rfl ⟨_,rfl,an.put4 (g.below hq) rfl rfl rfl rfl _ _ _ _,Jt Qp Ql _ _ _ _⟩
def YE(B:Rat):Nat->Nat->Nat
 |0,i=>i
 |n+1,i=>if(2:Rat)^i<B then YE B n (i+1)else i
structure ArOk(X k:Nat)(p:List Rat):Prop where
 tp:Jc p=p
 p0:p≠[]
 sp:Sqs p
 sr:∀i,Sq (cf p i/cf p (p.length-1))
 sb:Sq (Yh p)
 sx:∀i,i<=k->DQ X ((2:Rat)^i)
 x2:X+X+2<=1000000000
 stop:¬(2:Rat)^(YE (Yh p) k 0)<Yh p
def ArI(w:F)(B2 B3 B4 k:Nat)(B:Rat)(n:Nat)(V:F):Prop:=
 ∃i,i+n=k/\YE B n i=YE B k 0/\Bx V B2 44 #[D false,C none 0 0,D false,C none 0 0,D false,C none 0 0,D false,C none 0 0]/\DI w V [some (B3,.rat B),some (B4,.rat ((2:Rat)^i))]/\Bl w V
def qo{V:F}{B:Nat}{cs:Array G}(h:Bx V B 44 cs)(x0 x1 x2 x3 y0 y1 y2 y3:G):Kp V ((((((((V.setCell ⟨B,0,none⟩ x0).setCell ⟨B,1,none⟩ x1).setCell ⟨B,2,none⟩ x2).setCell ⟨B,3,none⟩ x3).setCell ⟨B,4,none⟩ y0).setCell ⟨B,5,none⟩ y1).setCell ⟨B,6,none⟩ y2).setCell ⟨B,7,none⟩ y3):=
 (((((((KG h 0 x0).trans (KG (h.set 0 x0) 1 x1)).trans (KG ((h.set 0 x0).set 1 x1) 2 x2)).trans (KG (((h.set 0 x0).set 1 x1).set 2 x2) 3 x3)).trans (KG ((((h.set 0 x0).set 1 x1).set 2 x2).set 3 x3) 4 y0)).trans (KG (((((h.set 0 x0).set 1 x1).set 2 x2).set 3 x3).set 4 y0) 5 y1)).trans (KG ((((((h.set 0 x0).set 1 x1).set 2 x2).set 3 x3).set 4 y0).set 5 y1) 6 y2)).trans (KG (((((((h.set 0 x0).set 1 x1).set 2 x2).set 3 x3).set 4 y0).set 5 y1).set 6 y2) 7 y3)
def qp{n B:Nat}{w V:F}(h:Below n w V)(a:n<=B)(x0 x1 x2 x3 y0 y1 y2 y3:G):Below n w ((((((((V.setCell ⟨B,0,none⟩ x0).setCell ⟨B,1,none⟩ x1).setCell ⟨B,2,none⟩ x2).setCell ⟨B,3,none⟩ x3).setCell ⟨B,4,none⟩ y0).setCell ⟨B,5,none⟩ y1).setCell ⟨B,6,none⟩ y2).setCell ⟨B,7,none⟩ y3):=
 (((((((h.setCell (p:=⟨B,0,none⟩) a _).setCell (p:=⟨B,1,none⟩) a _).setCell (p:=⟨B,2,none⟩) a _).setCell (p:=⟨B,3,none⟩) a _).setCell (p:=⟨B,4,none⟩) a _).setCell (p:=⟨B,5,none⟩) a _).setCell (p:=⟨B,6,none⟩) a _).setCell (p:=⟨B,7,none⟩) a _
def Bx.far4{V:F}{B C:Nat}{t:TypeId}{cs:Array G}(h:Bx V C t cs)(a:C≠B)(x0 x1 x2 x3:G):Bx (put4 V B x0 x1 x2 x3) C t cs:=
 (((h.far (p:=⟨B,0,none⟩) a _).far (p:=⟨B,1,none⟩) a _).far (p:=⟨B,2,none⟩) a _).far (p:=⟨B,3,none⟩) a _
theorem qq(X k:Nat)(v:G)(p:List Rat)(w:F)(h:Jd w v p)(hs:ArOk X k p):
 Calls Tryz.prog 118 #[v] w λe w'=>∃u,e=.returned u/\Yk w' u (-((2:Rat)^YE (Yh p) k 0)) ((2:Rat)^YE (Yh p) k 0)/\Bl w w':=by
 obtain⟨pa,la,pc,rfl⟩:=h.form;obtain⟨W0,T⟩:=ex ((w.alloc (L #[C pa la pc] 25)).alloc (L #[D false,C none 0 0,D false,C none 0 0,D false,C none 0 0,D false,C none 0 0] 44));have Qe:Bl w W0:=by rw[<-T];exact(Ba w _).alloc (by simp only[Ax];omega) _
 have n1:Boxed W0 w.heap.size 25 (C pa la pc):=by rw[<-T];exact(BI w _ _).alloc _
 have W:Bx W0 (w.heap.size+1) 44 #[D false,C none 0 0,D false,C none 0 0,D false,C none 0 0,D false,C none 0 0]:=by
  have h:=Bx.new (w.alloc (L #[C pa la pc] 25)) 44 #[D false,C none 0 0,D false,C none 0 0,D false,C none 0 0,D false,C none 0 0];simp only[Ax]at h;rw[T]at h;exact h
 have Qj:=Z T;have b:=n1.cell;have y:=Z (qn _ p W0 (h.below Qe) hs.tp hs.p0 hs.sp hs.sr);obtain⟨B,A⟩:=ex (Yh p);obtain⟨H2,HS,Qg⟩:=DY (λ(V:F)=>ZG 1 O O V) hs A;rw[A]at y ⊢;have a:=Z (And.intro W Qe);clear h hs T Qe n1 W A;go_enter Tryz.func118,Tryz.ntmps118
 go_upto_region 1 with fail
 rw[Qj.o];go_upto_region 2 with(first
  |(go_at_call 194;refine y.o.mono ?_;rintro e w1 ⟨u1,rfl,R,aq⟩)
  |(go_at_call 195;refine(H2.o _).mono ?_;rintro e w2 ⟨u2,rfl,ap,ai⟩;have R:=R.below ai;have hq:=Bt aq ai;obtain⟨s1,a1,l1,c1,t1,b1,k1,d1,rfl⟩:=Jg.form R;obtain⟨s2,a2,l2,c2,t2,b2,k2,d2,rfl⟩:=Jg.form ap))
 have M0:DI w w2 []:=⟨λi B z h=>by simp at h,λi j B z z' h=>by simp at h,Bt a.o.2 hq⟩;have M1:=DI.push (DI.push M0 (.rat B) R) (.rat ((2:Rat)^0)) (Has.alloc (d:=.rat ((2:Rat)^0)) (show Jg _ _ ((2:Rat)^0)by rw[Rat.pow_zero];exact ap) _);simp only[Ax]at M1;obtain⟨V2,ah⟩:=ex ((w2.alloc (L #[D s1,C a1 l1 c1,D t1,C b1 k1 d1] 41)).alloc (L #[D s2,C a2 l2 c2,D t2,C b2 k2 d2] 41));obtain⟨B3,ae⟩:=ex (w2.heap.size);have M2:DI w V2 [some (B3,.rat B),some (B3+1,.rat ((2:Rat)^0))]:=by rw[<-ah,<-ae];exact M1
 have bi:w.heap.size+1<B3:=by rw[<-ae];have:=hq.size;have:=a.o.1.lt;omega
 have ML:Hid (ArI w (w.heap.size+1) B3 (B3+1) k B k V2):=Z ⟨0,O,rfl,by rw[<-ah];exact((a.o.1.below hq).alloc _).alloc _,M2,M2.2.2⟩;rw[ah,ae];clear M0 M1 M2 ah ae R ap hq aq ai b;go_loopw [] (λwr=>∃n,ArI w (w.heap.size+1) B3 (B3+1) k B n wr) λwr=>Classical.epsilon (ID λn=>ArI w (w.heap.size+1) B3 (B3+1) k B n wr)
 case atStart=>exact⟨k,ML.o⟩
 case round=>
  obtain⟨n0,bf⟩:=hrel;obtain⟨m,hm,_⟩:=OV (P:=λn=>ArI w (w.heap.size+1) B3 (B3+1) k B n wr) bf;obtain⟨i,az,ay,W,M,A⟩:=hm.1;have sx:=HS.o.sx i O;have S:=Sq.of sx (by have:=HS.o.x2;omega);have Qh:Sq B:=by rw[<-Qg.o];exact HS.o.sb
  obtain⟨s3,a3,l3,c3,t3,b3,k3,d3,K,r3,_,_⟩:=M.rat (i:=0) rfl;obtain⟨s4,a4,l4,c4,t4,b4,k4,d4,c,r4,_,_⟩:=M.rat (i:=1) rfl;obtain⟨y,H2,H3⟩:=DY (XT _ _ ((2:Rat)^i) B wr r4 r3 S Qh) (λ(V:F) (h:Bl wr V)=>Kb _ _ ((2:Rat)^i) ((2:Rat)^i) V (r4.below h) (r4.below h) S S) λ(V:F) (h:Bl wr V)=>I3 _ _ 0 ((2:Rat)^i) V (Xx _) (r4.below h) FV S;rw[show(2:Rat)^i+(2:Rat)^i=(2:Rat)^(i+1)by rw[Rat.pow_succ];grind]at H2;rw[show(0:Rat)-(2:Rat)^i=-((2:Rat)^i)by grind]at H3;obtain⟨z,hz⟩:=ex (Xf ((2:Rat)^i) B);rw[hz]at y;obtain⟨HZ,HN,HM,HQ,Qd,N,HF⟩:=Iu (show z<0↔(2:Rat)^i<B by rw[<-hz];exact IY) (λ(V:F) (h:Bl wr V)=>And.intro (W.below h) (And.intro (K.below h) (And.intro (c.below h) (And.intro (M.below h) (r4.below h))))) hm (And.intro az ay) A (show ∀V:F,Bl wr V->V.cell? ⟨B3,0,none⟩=some (D s3)/\V.cell? ⟨B3,1,none⟩=some (C a3 l3 c3)/\V.cell? ⟨B3,2,none⟩=some (D t3)/\V.cell? ⟨B3,3,none⟩=some (C b3 k3 d3)/\V.cell? ⟨B3+1,0,none⟩=some (D s4)/\V.cell? ⟨B3+1,1,none⟩=some (C a4 l4 c4)/\V.cell? ⟨B3+1,2,none⟩=some (D t4)/\V.cell? ⟨B3+1,3,none⟩=some (C b4 k4 d4)from λV h=>⟨(K.below h).c0,(K.below h).c1,(K.below h).c2,(K.below h).c3,(c.below h).c0,(c.below h).c1,(c.below h).c2,(c.below h).c3⟩) (show ∀V:F,Bl wr V->(V.frozen? ⟨B3+1,0,none⟩=false/\V.frozen? ⟨B3+1,1,none⟩=false/\V.frozen? ⟨B3+1,2,none⟩=false/\V.frozen? ⟨B3+1,3,none⟩=false)from λV h=>⟨(c.below h).f0,(c.below h).f1,(c.below h).f2,(c.below h).f3⟩);clear bf hm az ay W M A sx S Qh K r3 c r4 hz ML;have hq:Bl wr wr:=BD _ wr;obtain⟨l,b,o,q,g0,r,s,t⟩:=N.o _ hq;obtain⟨f0,f1,f2,f3⟩:=HF.o _ hq;by_cases an:z<0
  . have hl:=HZ.o.1 an;obtain⟨x,rfl⟩:∃x,m=x+1:=by
     cases m with
     |succ x=>exact⟨x,rfl⟩
     |zero=>
      have f:=HQ.o.2;rw[YE]at f;have h2:=HS.o.stop;rw[Qg.o,<-f]at h2;exact absurd hl h2
    have Qk:=Z (show YE B x (i+1)=YE B k 0 by have f:=HQ.o.2;rw[YE,BH hl]at f;exact f);clear hl;go_wp2_with(first
     |(go_at_call 32;refine y.o.mono ?_;rintro e g ⟨rfl,aj⟩;have hq:=Bt hq aj;clear l b o q g0 r s t f0 f1 f2 f3;obtain⟨l,b,o,q,g0,r,s,t⟩:=N.o _ hq;obtain⟨f0,f1,f2,f3⟩:=HF.o _ hq)
     |(go_at_call 104;refine(H2.o _ hq).mono ?_;rintro e w4 ⟨u4,rfl,U,am⟩;obtain⟨s5,a5,l5,c5,t5,b5,k5,d5,rfl⟩:=Jg.form U;have hq:=Bt hq am;clear l b o q g0 r s t f0 f1 f2 f3;obtain⟨l,b,o,q,g0,r,s,t⟩:=N.o _ hq;obtain⟨f0,f1,f2,f3⟩:=HF.o _ hq))
    obtain⟨q1,q2,q3,q4,q5⟩:=HN.o _ hq;have Qf:=(show ArI w (w.heap.size+1) B3 (B3+1) k B x _ from⟨i+1,by have:=HQ.o.1;omega,Qk.o,q1.far4 (B:=B3+1) O _ _ _ _,q4.putRat (i:=1) rfl U,Jt (Bt Qd.o hq) O _ _ _ _⟩);go_roundw
    case rel=>exact⟨x,Qf⟩
    case measure=>exact Rj (P:=λn=>ArI w (w.heap.size+1) B3 (B3+1) k B n wr) (Q:=λn=>ArI w (w.heap.size+1) B3 (B3+1) k B n _) HM.o Qf
  . have HE:=Z (show i=YE B k 0 by
     have f:=HQ.o.2;cases m with
      |zero=>exact f
      |succ m=>rw[YE,BG λh=>an (HZ.o.2 h)]at f;exact f)
    obtain⟨E,hE⟩:=ex ((2:Rat)^YE B k 0);have bg:=Z hE;go_upto_region 4 with(go_at_call 32;refine y.o.mono ?_;rintro e g ⟨rfl,aj⟩;have hq:=Bt hq aj;clear l b o q g0 r s t f0 f1 f2 f3;obtain⟨l,b,o,q,g0,r,s,t⟩:=N.o _ hq;obtain⟨f0,f1,f2,f3⟩:=HF.o _ hq)
    obtain⟨Ql,a,H4⟩:=DY (λ(V:F) (h:Bl g V)=>N.o V (Bt hq h)) (λ(V:F) (h:Bl g V)=>HN.o V (Bt hq h)) λ(V:F) (h:Bl g V)=>H3.o V (Bt hq h);have HJ:=Z (show ∀V:F,Bl g V->V.cell? ⟨w.heap.size+1,0,none⟩=some (D false)/\V.cell? ⟨w.heap.size+1,1,none⟩=some (C none 0 0)/\V.cell? ⟨w.heap.size+1,2,none⟩=some (D false)/\V.cell? ⟨w.heap.size+1,3,none⟩=some (C none 0 0)/\V.cell? ⟨w.heap.size+1,4,none⟩=some (D false)/\V.cell? ⟨w.heap.size+1,5,none⟩=some (C none 0 0)/\V.cell? ⟨w.heap.size+1,6,none⟩=some (D false)/\V.cell? ⟨w.heap.size+1,7,none⟩=some (C none 0 0)/\∀i,V.frozen? ⟨w.heap.size+1,i,none⟩=false from λV h=>⟨(a.o V h).1.c rfl,(a.o V h).1.c rfl,(a.o V h).1.c rfl,(a.o V h).1.c rfl,(a.o V h).1.c rfl,(a.o V h).1.c rfl,(a.o V h).1.c rfl,(a.o V h).1.c rfl,λi=>(a.o V h).1.f i⟩);have Qi:=Z (Bt Qd.o hq);have bj:¬w.heap.size+1=B3+1:=O
    have bm:¬B3+1=w.heap.size+1:=O
    clear hq f0 f1 f2 f3 hE an;obtain⟨j0,j1,j2,j3,j4,j5,j6,j7,fj⟩:=HJ.o _ (BD _ g);have hq:Bl g g.drew:=(BD _ g).drew;go_region_held3 (λw'=>w'.cell? ⟨B3+1,0,none⟩=some (D s4)/\w'.cell? ⟨B3+1,1,none⟩=some (C a4 l4 c4)/\w'.cell? ⟨B3+1,2,none⟩=some (D t4)/\w'.cell? ⟨B3+1,3,none⟩=some (C b4 k4 d4)) (first|grind|(go_keep;done)|(refine⟨?_,?_,?_,?_⟩<;>((repeat rw[JP O]);omega)))
     (first
      |(go_at_call 41;refine(H4.o _ hq).mono ?_;rintro e w4 ⟨u4,rfl,U,am⟩;obtain⟨s5,a5,l5,c5,t5,b5,k5,d5,rfl⟩:=Jg.form U;have hq:=Bt hq am;clear l b o q g0 r s t j0 j1 j2 j3 j4 j5 j6 j7 fj;obtain⟨l,b,o,q,g0,r,s,t⟩:=Ql.o _ hq;obtain⟨j0,j1,j2,j3,j4,j5,j6,j7,fj⟩:=HJ.o _ hq))
    go_wp2_with fail
    obtain⟨q1,q2,q3,q4,q5⟩:=a.o _ hq;have kk:=qo q1 (D s5) (C a5 l5 c5) (D t5) (C b5 k5 d5) (D s4) (C a4 l4 c4) (D t4) (C b4 k4 d4);exact BC (v:=I #[D s5,C a5 l5 c5,D t5,C b5 k5 d5,D s4,C a4 l4 c4,D t4,C b4 k4 d4]) (by simp[results,Tryz.results118,go_sem,j0,j1,j2,j3,j4,j5,j6,j7]) rfl ⟨_,rfl,by rw[<-HE.o];exact⟨_,_,_,_,_,_,_,_,rfl,kk.rat U,kk.rat q5⟩,qp (Bt Qi.o hq) O _ _ _ _ _ _ _ _⟩
