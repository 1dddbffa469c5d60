import Derived.Test.YtdmmbgahnkbnaaaGreatDoorT40
set_option linter.all false
open Go.Value renaming slice->C,bool->D,int->E,agg->I
open Go renaming World->F,Value->G
open Go.IntKind renaming i64->H
open Go.Obj renaming cells->L
set_option maxRecDepth 99999
set_option maxHeartbeats 0
namespace Go.Proofs.YtdmmbgahnkbnaaaGreatDoor
open Go.RowKit Go.Shelf
attribute [local go_sem] Oper.semAt_some
section
structure RtOk(J' K X:Nat)(p:List Rat):Prop where
 rok:RwOk J' K p
 fit:(DO p).length*(Da K (DO p) (Jb (DO p))+1+X+1)+1+X<=1000000000
variable{J' K:Nat}
def ry{p:List Rat}(h:RwOk J' K p):∀(n:Nat) (a b:List Rat),b.length<=n->Shn (DO p) (Jb (DO p)) (Da K (DO p) (Jb (DO p))) 500000000 a b->∀y∈Ec n a b,Cd (Da K (DO p) (Jb (DO p))+1) y/\y.length<=(DO p).length:=by
 intro n;induction n with
 |zero=>
  intro a b _ hs y c
  have:y=a:=by simpa[Ec]using c
  subst this;exact⟨hs.ca,hs.la⟩
 |succ n d=>
  intro a b hn hs y c;by_cases b0:b=[]
  . rw[Ec,BF b0]at c
    have:y=a:=by simpa using c
    subst this;exact⟨hs.ca,hs.la⟩
  . rw[Ec,BE b0]at c;rcases Fu.1 c with rfl|c
    . exact⟨hs.ca,hs.la⟩
    . obtain⟨c0,cl⟩:=Rz hs.tb b0;have l2:=(Y3 a (J8 b) (Mr b) c0).2.1;have e:=R1 (-1) (JU a (J8 b));exact d _ _ O (h.next hs b0) y c
def RtOk.row{X:Nat}{p:List Rat}(h:RtOk J' K X p):∀y∈EU p,y≠[]/\∀x,DV X x->Sqs y/\M3.LK y x:=by
 intro y b;obtain⟨a,c⟩:=ry h.rok _ _ _ (Aa _) h.rok.start y b;have f:=h.fit;have d:=Ac.2 h.rok.f0;have g:y.length*(Da K (DO p) (Jb (DO p))+1+X+1)<=(DO p).length*(Da K (DO p) (Jb (DO p))+1+X+1):=Ae _ c;have i:1*(Da K (DO p) (Jb (DO p))+1+X+1)<=(DO p).length*(Da K (DO p) (Jb (DO p))+1+X+1):=Ae _ d;exact⟨(oz h.rok.fr.ch.tp h.rok.p0 y b).2,λx e=>⟨a.sqs O,Rx e a.smq O⟩⟩
end
theorem sC(p:List Rat)(zs:List Int)(e:p=zs.map (λz:Int=>(z:Rat)))(h:zs.all (λz=>decide (z.natAbs<100))=true):Cd 1 p:=by
 refine⟨1,DN,Sm.one 1 O,EZ.cdl λi=>?_⟩;rw[e];by_cases hi:i<zs.length
 . refine⟨zs[i],?_,?_⟩
   . have a:=AN.1 h zs[i] (Fi hi);have b:=Bj a;unfold Sm Y;omega
   grind[cf]
 . exact⟨0,Sm.zero 1,by rw[Ys si];rfl⟩
def eP:List Rat:=[-2,0,1]
def sF:Y4 [120,94,50,45,50]=(eP,0,0):=EY
def sG:Jb eP=[0,2]:=EY
def Zy:Cd 1 eP:=sC eP [-2,0,1] EY DN
section
variable{S:List Rat}{l:List UInt8}{i k n x:Nat}{c:Rat}
def Zz(h:l.all Dc=true):num l<10^l.length:=by
 have:=YS (NC h);rwa[Lo]at this
def Fr(x:Nat)(c:Rat):Prop:=∃(a b:Nat) (y z:Nat),c=Rat.divInt a b/\a<=10^y/\b<=10^z/\b≠0/\y+z<=x
def Fr.mono{y:Nat}(h:Fr x c)(j:x<=y):Fr y c:=by
 obtain⟨a,b,u,v,d,e,f,g,i⟩:=h;exact⟨a,b,u,v,d,e,f,g,O⟩
theorem Fr.one:Fr 0 1:=⟨1,1,0,0,DN,DN,DN,DN,DN⟩
def sH(hi:i<=l.length)(h:X8 l i=.ok c k):Fr (k-i) c:=by
 unfold X8 at h;split at h
 . cases h
 . rename_i ds p a f;have b:=IR hi f;have r:=Hz l a;have o:=Zz b.2.2.2.2.2.2.2.2;rw[b.2.2.2.2.2.2.2.1]at o;split at h
   . rename_i d;have d:=YT d;split at h
     . cases h
     . rename_i es q m j;have e:=IR O j;have n:=Zz e.2.2.2.2.2.2.2.2;rw[e.2.2.2.2.2.2.2.1]at n;split at h
       . cases h
       . rename_i g;cases h;exact⟨num ds,num es,a-p,k-q,J,O,O,g,O⟩
   . cases h;exact⟨num ds,1,a-p,0,(VZ _).symm,O,DN,DN,O⟩
def sI(hi:i<=l.length)(h:XO l i=.ok (c,n) k):Fr (k-i) c:=by
 unfold XO at h;have o:=Hz l i;have d:=Ga hi;split at h
 . split at h
   . cases h
   . rename_i c' g b;have j:=PQ d b;have a:=sH d b;have p:=Hz l g;split at h
     . rename_i e;have e:=YT e;split at h
       . cases h
       . rename_i r m f;have q:=PR O f;cases h;exact a.mono O
     . cases h;exact a.mono O
 . split at h
   . split at h
     . cases h
     . cases h;exact Fr.one.mono O
   . cases h
def Gl(i:Nat)(S:List Rat):Prop:=S.length=9/\∃D:Int,D≠0/\D.natAbs<=10^i/\∀j,∃z:Int,z.natAbs<=10^i/\cf S j=Rat.divInt z D
def Gl.mono(h:Gl i S)(hk:i<=k):Gl k S:=by
 obtain⟨a,D,b,e,c⟩:=h;have hp:(10:Nat)^i<=10^k:=AC O hk;exact⟨a,D,b,O,λj=>by obtain⟨z,f,d⟩:=c j;exact⟨z,O,d⟩⟩
def Gl.start(i:Nat):Gl i (List.replicate 9 0):=⟨J,1,DN,by have:1<=10^i:=CE O;simpa using this,λj=>⟨0,DL,by rw[J9,Rat.zero_divInt]⟩⟩
def Gl.next(h:Gl i S)(s:Fr x c)(hn:n<=8)(b:Bool):Gl (i+x+1) (S.set n (if b then cf S n-c else cf S n+c)):=by
 obtain⟨m,D,g,o,p⟩:=h;obtain⟨a,d,y,z,rfl,r,t,B,K⟩:=s;have f:(d:Int)≠0:=O
 have p1:(10:Nat)^i*10^z<=10^(i+x):=by rw[<-CM];exact AC O O
 have u:(10:Nat)^y*10^i<=10^(i+x):=by rw[<-CM];exact AC O O
 have e:∀w:Int,w.natAbs<=10^i->(w*(d:Int)).natAbs<=10^(i+x):=λw e=>by
  rw[Cv,Ay];exact Ad (Cq e t) p1
 have A:((a:Int)*D).natAbs<=10^(i+x):=by
  rw[Cv,Ay];exact Ad (Cq r o) u
 refine⟨by rw[Fm];exact m,D*d,Cw g f,by have:=e D o;omega,λj=>?_⟩;rw[GY _ _ _ _ (by rw[m];omega)];by_cases q:j=n
 . rw[BF q];obtain⟨w,k,l⟩:=p n;have v:=e w k;rw[l];cases b with
   |true=>
    refine⟨w*d-a*D,by have:=Int.natAbs_sub_le (w*(d:Int)) ((a:Int)*D);omega,?_⟩;rw[BF J,Rat.sub_eq_add_neg,Rat.neg_divInt,FA _ _ g f];congr 1;rw[Int.neg_mul];rfl
   |false=>
    refine⟨w*d+a*D,by have:=Int.natAbs_add_le (w*(d:Int)) ((a:Int)*D);omega,?_⟩;rw[BE DN,FA _ _ g f]
 . rw[BE q];obtain⟨w,k,l⟩:=p j;exact⟨w*d,by have:=e w k;omega,by rw[l,Fs f]⟩
def Z0:∀(f:Nat) (b:Bool) (I:Nat) (S d:List Rat) (k:Nat),I<=l.length->Gl I S->Ez l f b I S=.ok d k->Gl (l.length+1) d:=by
 intro f;induction f with
 |zero=>intro b I S d k _ _ h;cases h
 |succ f o=>
  intro b I S d k m r h;cases g:XO l I with
  |error e p=>rw[QL g]at h;cases h
  |ok a s=>
   obtain⟨c,n⟩:=a;have q:=PS m g;have i:=r.next (sI m g) q.2.2 b;have t:=Hz l s;rw[QM g]at h;split at h
   . rename_i j;have:=YT j;exact o _ _ _ _ _ O (i.mono O) h
   . split at h
     . rename_i j;have:=YT j;exact o _ _ _ _ _ O (i.mono O) h
     . split at h
       . cases h;exact i.mono O
       . cases h
def sJ(h:Er l=.ok S k):Gl (l.length+1) S:=by
 unfold Er at h;have a:=Ga (l:=l) (i:=0) O;split at h
 . rename_i b;have:=YT b;exact Z0 _ _ _ _ _ _ O (Gl.start _) h
 . exact Z0 _ _ _ _ _ _ a (Gl.start _) h
def sK(a b c:Nat)(h:a*b<64*c):((2:Nat)^a)^b<Y^c:=by
 rw[show Y=2^64 from by decide,<-Fg,<-Fg];exact FF O h
def sL(h:n<=43*k)(hk:k<=7):(10:Nat)^n<Y^16:=by
 have b:((10:Nat)^43)^k<=(2^143)^k:=CG DN k;have a:(10:Nat)^n<=10^(43*k):=AC O h;rw[Fg]at a;exact CB (Ad a b) (sK 143 k 16 O)
def sM(l:List UInt8):∃D:Int,D≠0/\Sm 16 D/\EO D 16 (Y4 l).1:=by
 have a:∃D:Int,D≠0/\Sm 16 D/\EO D 16 []:=⟨1,DN,Sm.one _ O,λi=>by rw[Xk];exact CD.zero _ _⟩;by_cases h:300<l.length
 . rw[show Y4 l=([],1,0)by unfold Y4;rw[BF h]];exact a
 . rw[N9 h];cases b:Er l with
   |error e p=>exact a
   |ok S k=>
    rw[show(MI (EStateM.Result.ok S k)).1=Jc S from J];obtain⟨_,D,c,g,d⟩:=sJ b;have b:=sL (n:=l.length+1) (k:=7) O O;exact⟨D,c,by unfold Sm;omega,λi=>by
     obtain⟨z,j,f⟩:=d i;exact⟨z,by rw[Yp];exact f,by unfold Sm;omega⟩⟩
def R3(l:List UInt8):Jc (Y4 l).1=(Y4 l).1:=by
 by_cases h:300<l.length
 . rw[show Y4 l=([],1,0)by unfold Y4;rw[BF h]];rfl
 . rw[N9 h];cases Er l with
   |error e p=>rfl
   |ok S k=>exact Yl _
def R4(s:ByteArray)(w:F):
 Calls Tryz.prog 8 #[.string s] w λe w'=>∃u,e=.returned u/\Jd w' u (Y4 (Jj s)).1/\Bl w w':=by
 have n:=Z λ(V:F)=>Vy s V;have b0:=BH w 25 (C none 0 0);have f:Bl w (w.alloc (L #[C none 0 0] 25)):=Ba w _;obtain⟨A,k⟩:=ex (w.alloc (L #[C none 0 0] 25));obtain⟨r,i⟩:=ex (w.heap.size);rw[k]at b0 f;rw[i]at b0;obtain⟨t,o,z,q⟩:=Dr b0 f k i;clear b0 f k i;go_enter Tryz.func8,Tryz.ntmps8
 go_upto_region 1 with fail
 rw[z.o,q.o];go_upto_region 2 with(go_at_call 42;refine(n.o _).mono ?_;clear n;rintro e w1 ⟨u,K,p1,rfl,⟨rfl,rfl,l⟩,d⟩;obtain⟨a,l1,c1,rfl⟩:=l.form)
 have hA:Bl w1 (w1.alloc (L #[C a l1 c1] 25)):=Ba w1 _;have m:=BH w1 25 (C a l1 c1);have b:=(t.o.bel d).bel hA;have r1:=l.row.below hA;have g:=(Bt o.o d).trans (hA.mono (Bt o.o d).size);obtain⟨B,c⟩:=ex (w1.alloc (L #[C a l1 c1] 25));obtain⟨B1,j⟩:=ex (w1.heap.size);rw[c,j]at m;rw[c]at b r1 g;rw[c,j];have x1:=m.cell;have x0:=b.cell;have f0:=b.frozen;have x:=Z (FV b (C a l1 c1) r1);have y:=Z (g.setCell (p:=⟨r,0,none⟩) (by rw[q.o];exact Aa _) (C a l1 c1));clear hA m b r1 g c j l d;go_wp2_with fail
 exact BA (v:=I #[C a l1 c1]) (by simp[results,Tryz.results8,go_sem,x0]) J ⟨_,J,⟨_,J,x.o⟩,y.o⟩
end
section
variable{M:Nat}
def R5(l:List UInt8):Cd 16 (Y4 l).1:=sM l
def Cd.mul{M N:Nat}{p q:List Rat}(h:Cd M p)(g:Cd N q):Cd (M+N+p.length) (Ji p q):=by
 obtain⟨D,d1,b,c⟩:=h;obtain⟨E,d,e,f⟩:=g;have a:D*E≠0:=Cw d1 d;exact⟨D*E,a,(b.mul e).mono O,λi=>m9 a (λi j=>(c i).mul (f j)) i⟩
def Cd.times{N:Nat}{p q:List Rat}(h:Cd M p)(f:Cd N q)(hl:M+N+p.length+1<=1000000000):M3.Kj p q:=by
 obtain⟨D,d1,a,b⟩:=h;obtain⟨E,c,d,e⟩:=f;exact m8 (Cw d1 c) ((a.mul d).mono O) (λi j=>(b i).mul (e j)) hl
theorem Cd.slope{p:List Rat}(h:Cd M p)(hl:p.length<=1000000000):Cd (M+1) (Jb p):=by
 obtain⟨D,d1,a,b⟩:=h;refine⟨D,d1,a.mono O,λi=>?_⟩;rw[XH];by_cases hi:i+1<p.length
 . have c:=(b (i+1)).mul (E:=1) (M:=1) (d:=(((i+1:Nat):Int):Rat)) ⟨((i+1:Nat):Int),by rw[AP,show((1:Int):Rat)=1 from J];grind,by unfold Sm Y;rw[Ay];omega⟩;rwa[Int.mul_one]at c
 . rw[Ys O,A6];exact CD.zero _ _
namespace M3
def R6(a b:G)(ps qs:List Rat)(w:F)(g:Jd w a ps)(i:Jd w b qs)(l:Sqs ps)(m:Sqs qs)(k:Kj ps qs)(j:ps.length+qs.length<=1099511627776):
 Calls Tryz.prog 9 #[a,b] w λe w'=>∃u,e=.returned u/\Jd w' u (Ji ps qs)/\Bl w w':=by
 refine(ky a b ps qs w g i l m k j).mono ?_;rintro e w' ⟨u,c,d,_,f⟩;exact⟨u,c,d,f⟩
theorem ChOk.of{K:Nat}{p q:List Rat}(tp:Jc p=p)(tq:Jc q=q)(cp:Cd K p)(cq:Cd K q){n:Nat}(lp:p.length<=n)(lq:q.length<=n)(hle:4*((n+2)*((K+1)*(n+n+1)+1))<=1000000000)(hn:n<=1000):ChOk K p q:=by
 refine⟨tp,tq,cp,cq,?_,O⟩;have a:Da K p q<=(K+1)*(n+n+1):=Ai _ O;have b:(max p.length q.length+2)*(Da K p q+1)<=(n+2)*((K+1)*(n+n+1)+1):=Cq O O;omega
end M3
end
def sO(x:List Rat):(Jb x).length<=x.length:=Ad (Ym _) (by simp[Hv])
def Z3{K n:Nat}{p:List Rat}(tp:Jc p=p)(cp:Cd K p)(lp:p.length<=n)(b:4*((n+2)*((K+1+1)*(n+n+1)+1))<=1000000000)(c:n<=1000){X:Nat}(g:n*((K+1+1)*(n+n+1)+n*((K+1+1)*(n+n+1)+1)+1+X+1)+1+X<=1000000000):CtOk (K+1) X p:=by
 have sl:=sO p;refine⟨M3.ChOk.of tp (Jt _) (cp.mono O) (cp.slope O) (n:=n) lp O b c,?_⟩;have d:Da (K+1) p (Jb p)<=(K+1+1)*(n+n+1):=Ai _ O;have a:max p.length (Jb p).length<=n:=O
 have e:max p.length (Jb p).length*(Da (K+1) p (Jb p)+1)<=n*((K+1+1)*(n+n+1)+1):=Cq a O;have f:max p.length (Jb p).length*(Da (K+1) p (Jb p)+max p.length (Jb p).length*(Da (K+1) p (Jb p)+1)+1+X+1)<=n*((K+1+1)*(n+n+1)+n*((K+1+1)*(n+n+1)+1)+1+X+1):=Cq a O;omega
def Z4(l:List Rat):DP l<=l.length:=Ad (OT l) O
namespace M3
theorem Z6(A l X g cap:Nat)(v:G)(row:List (List Rat))(a b:Rat)(w:F)(hE:XY w g row.length λj=>row.getD j [])(h:Yn w v a b)(f:RowOk A l row)(Q:DV X a)(R:DV X b)(N:A+l*(X+2)+X+A<=10000000000):
 Calls Tryz.prog 73 #[C (some ⟨g,0,none⟩) row.length cap,v] w λe w'=>e=.returned (E H (Ey row a b))/\Bl w w':=by
 obtain⟨r,s,t,u,x,y,z,B,rfl,T,S⟩:=h;obtain⟨W0,q⟩:=ex (w.alloc (L #[r,s,t,u,x,y,z,B] 44));have c:Bl w W0:=by rw[<-q];exact(Ba w _)
 have np:Bx W0 (w.heap.size) 44 #[r,s,t,u,x,y,z,B]:=by
  have h:=Bx.new w 44 #[r,s,t,u,x,y,z,B];rw[q]at h;exact h
 obtain⟨P,o,p⟩:=Db q (λ(V:F) (h:Bl W0 V)=>Zx A l X g cap _ row a V ((hE.below c).below h) ((T.below c).below h) f Q N) λ(V:F) (h:Bl W0 V)=>Zx A l X g cap _ row b V ((hE.below c).below h) ((S.below c).below h) f R N;obtain⟨m,M⟩:=ex (DP (JF row a));obtain⟨k,hk⟩:=ex (DP (JF row b));have Qd:(m:Int)<=1000000:=by have h1:=Z4 (JF row a);have h2:=f.n;grind[JF]
 have Qe:(k:Int)<=1000000:=by have h1:=Z4 (JF row b);have h2:=f.n;grind[JF]
 have U:=Z (show Ey row a b=(m:Int)-(k:Int)by unfold Ey;rw[M,hk]);rw[M]at o;rw[hk]at p;rw[U.o];obtain⟨n,hn⟩:=ex (row.length);rw[hn]at o p ⊢;have ai:IntKind.i64.wrap ((m:Int)-(k:Int))=(m:Int)-(k:Int):=by rw[BJ];omega
 have K:=Z λ(V:F) (h:Bl W0 V)=>(np.below h).all;have W:=Z c;clear hE f Q R N T S np q c M hk hn Qd Qe;have hq:Bl W0 W0.drew:=(BB _ W0).drew;have d:=K.o _ (BB _ W0);go_enter Tryz.func73,Tryz.ntmps73
 go_upto_region 1 with fail
 rw[P.o];clear P;go_region_held3 (λw'=>∀i,w'.cell? ⟨w.heap.size,i,none⟩=#[r,s,t,u,x,y,z,B][i]?) (first|(with_reducible exact d)|(go_keep;done)|(refine⟨?_,?_,?_,?_,?_,?_,?_,?_⟩<;>((repeat rw[JQ O]);first|assumption|(go_keep;done))))
  (first
   |(go_at_call 153;refine(o.o _ hq).mono ?_;clear o;rintro e w1 ⟨rfl,ae⟩;have hq:=Bt hq ae;clear d;have d:=K.o _ hq)
   |(go_at_call 153;refine(p.o _ hq).mono ?_;clear p;rintro e w2 ⟨rfl,ah⟩;have hq:=Bt hq ah;clear d;have d:=K.o _ hq))
 go_wp2_with fail
 go_ret;exact⟨J,Bt W.o hq⟩
structure SnOk(K A l X:Nat)(r:RtQ)(q:List Rat):Prop where
 sq:Sqs q
 atk:¬r.lo<r.hi->LK q r.lo/\Sq (ev q r.lo)
 sw:Sqs r.w
 sl:∀i,Sq (GD r.w i)
 ss:Sqs (Jb r.w)
 tm:Kj (Jb r.w) q
 ln:(Jb r.w).length+q.length<=1099511627776
 ch:ChOk K r.w (Ji (Jb r.w) q)
 row:RowOk A l (YQ r.w (Ji (Jb r.w) q))
 w0:r.w≠[]
 sz:A+l*(X+2)+X+A<=10000000000
def Z7(p q:List Rat):YQ p q≠[]:=by
 unfold YQ EQ;cases(Jp q).length with
 |zero=>simp[Eb]
 |succ n=>
  rw[Eb];split<;>simp
theorem Z8(K A l X J':Nat)(v vq:G)(r:RtQ)(q:List Rat)(w:F)(h:JG w v r)(hq:Jd w vq q)(hz:RzOk J' X r)(hs:SnOk K A l X r q):
 Calls Tryz.prog 22 #[v,vq] w λe w'=>e=.returned (E H (r.sign q))/\Bl w w':=by
 have h0:=h;have Qk:=hq;obtain⟨aj,am,an,ap,aq,ay,az,bf,x,B,z,rfl,bj,bi,pw⟩:=h;obtain⟨M,P,N,rfl⟩:=Jd.form hq;obtain⟨W0,bg,np,nq,s⟩:=KG w 46 25 #[aj,am,an,ap,aq,ay,az,bf,C x B z,E H r.sg,E H (r.tm:Int)] #[C M P N];obtain⟨Qd,m,o,Qc⟩:=Dr bg (λ(V:F) (h:Bl W0 V)=>Zq J' X _ r V ((h0.below s).below h) hz) (λ(V:F) (h:Bl W0 V)=>And.intro (np.below h).all ((nq.below h).all)) s;obtain⟨n,hn⟩:=ex (r.sign q);rw[hn];obtain⟨HN,Q,S,d⟩:=Dr hn (λ(V:F) (h:Bl W0 V)=>And.intro ((Qk.below s).below h) (And.intro ((pw.below s).below h) (show Yn V (I #[aj,am,an,ap,aq,ay,az,bf]) r.lo r.hi from⟨_,_,_,_,_,_,_,_,J,(bj.below s).below h,(bi.below s).below h⟩))) hz hs;clear hz hs bj bi pw h0 Qk np nq bg s hn;have hq:Bl W0 W0:=BB _ W0;obtain⟨a,b⟩:=o.o _ hq;by_cases k:r.lo<r.hi
 . have hd:decide (¬r.lo<r.hi)=false:=BN λh=>h k;rw[hd]at m;clear hd;go_enter Tryz.func22,Tryz.ntmps22
   go_upto_region 1 with fail
   rw[Qd.o];clear Qd;go_upto_region 2 with(go_at_call 14;refine(m.o _ hq).mono ?_;clear m;rintro e w1 ⟨u1,rfl,u,ae⟩;have hq:=Bt hq ae;obtain⟨s9,T,l9,U,t9,b9,k9,W,rfl⟩:=Jg.form u;clear a b;obtain⟨a,b⟩:=o.o _ hq)
   obtain⟨c,f⟩:=ex (w1.alloc (L #[D s9,C T l9 U,D t9,C b9 k9 W] 41));obtain⟨B5,t⟩:=ex (w1.heap.size);have p:Bl w1 c:=by rw[<-f];exact Ba w1 _
   have n5:JP c B5 41 (D s9) (C T l9 U) (D t9) (C b9 k9 W):=by rw[<-f,<-t];exact JP.new w1 _ _ _ _ _
   have r5:=u.below p;rw[f,t];have hq:=Bt hq p
   clear a b;obtain⟨a,b⟩:=o.o _ hq;clear f t n5 r5 u p;obtain⟨Qj,Ql,Qm,Qg⟩:=Dr (λ(V:F) (h:Bl c V)=>LS _ r.w V (Q.o V (Bt hq h)).2.1 d.o.sw d.o.sl) (λ(V:F) (h:Bl c V) (y:G) (hy:Jd V y (Jb r.w))=>R6 y _ (Jb r.w) q V hy (Q.o V (Bt hq h)).1 d.o.ss d.o.sq d.o.tm d.o.ln) (λ(V:F) (h:Bl c V) (y:G) (hy:Jd V y (Ji (Jb r.w) q))=>Rv _ y r.w _ V (Q.o V (Bt hq h)).2.1 hy) λ(V:F) (Bp Bq:Nat) (x M:Option Addr) (B z P N:Nat) (h1:Dd V Bp x B z) (h2:Dd V Bq M P N) (h3:Jd V (I #[C x B z]) r.w) (h4:Jd V (I #[C M P N]) (Ji (Jb r.w) q))=>Rw K Bp Bq x M B z P N r.w (Ji (Jb r.w) q) V d.o.ch h1 h2 h3 h4;obtain⟨R,hR⟩:=ex (YQ r.w (Ji (Jb r.w) q));have Qp:=Z (show RowOk A l R by rw[<-hR];exact d.o.row);have Qq:=Z (show Ey R r.lo r.hi=n by rw[<-HN.o,<-hR];unfold RtQ.sign;rw[BF k]);rw[hR]at Qg;have Qn:=Z (show R≠[]by rw[<-hR];exact Z7 _ _);have Qh:=Z λ(V:F) (h:Bl c V) (g cap:Nat) (hE:XY V g R.length λj=>R.getD j [])=>Z6 A l X g cap _ R r.lo r.hi V hE (Q.o V (Bt hq h)).2.2 Qp.o S.o.lo S.o.hi d.o.sz;rw[Qq.o]at Qh;have Qe:=Z λ(V:F) (h:Bl c V)=>o.o V (Bt hq h);have Qb:=Z (Bt Qc.o hq);clear hR HN S o hq k;go_upto_region 4 with fail
   have hq:Bl c c.drew:=(BB _ c).drew;go_region_held3 (λw'=>(∀i,w'.cell? ⟨w.heap.size,i,none⟩=#[aj,am,an,ap,aq,ay,az,bf,C x B z,E H r.sg,E H (r.tm:Int)][i]?)/\(∀i,w'.cell? ⟨w.heap.size+1,i,none⟩=#[C M P N][i]?)) (first|grind|(go_keep;done)|(refine⟨?_,?_,?_,?_,?_,?_,?_,?_,?_,?_,?_,?_⟩<;>((repeat rw[JQ O]);first|assumption|(go_keep;done))))
    (first
     |(go_at_call 27;refine(Qj.o _ hq).mono ?_;clear Qj;rintro e w5 ⟨v5,rfl,g5,ah⟩;have hq:=Bt hq ah;clear a b;obtain⟨a,b⟩:=Qe.o _ hq)
     |(go_at_call 9;refine(Ql.o _ hq _ g5).mono ?_;clear Ql g5;rintro e w6 ⟨v6,rfl,g6,ai⟩;have hq:=Bt hq ai;clear a b;obtain⟨a,b⟩:=Qe.o _ hq)
     |(go_at_call 72;refine(Qm.o _ hq _ g6).mono ?_;clear Qm g6;rintro e w7 ⟨Bp,Bq,xa,xl,xc,ya,yl,yc,rfl,k1,k2,k3,k4,bm⟩;have hq:=Bt hq bm;clear a b;obtain⟨a,b⟩:=Qe.o _ hq)
     |(go_at_call 71;refine(Qg.o _ _ _ _ _ _ _ _ _ k1 k2 k3 k4).mono ?_;clear Qg k1 k2 k3 k4;rintro e w8 ⟨v8,cj,rfl,o8,p8,bn⟩;have hq:=Bt hq bn;obtain⟨g,cap,rfl,hg,bz,ce,hE⟩:=F9.els o8 p8 Qn.o;clear o8 p8;clear a b;obtain⟨a,b⟩:=Qe.o _ hq))
   have HE:=Z hE;clear hE hg bz ce;go_wp2_with(go_at_call 73;refine(Qh.o _ hq _ _ HE.o).mono ?_;clear Qh;rintro e w9 ⟨rfl,bu⟩;have hq:=Bt hq bu)
   go_ret;exact⟨J,Bt Qb.o hq⟩
 . have hd:=BK k;rw[hd]at m;clear hd;have HV:=Z (show Iq r=r.lo by unfold Iq;rw[BE k]);rw[HV.o]at m;have Qo:=Z (show Xt (ev q r.lo) 0=n by rw[<-HN.o,Nz];unfold RtQ.sign;rw[BE k]);go_enter Tryz.func22,Tryz.ntmps22
   go_upto_region 1 with fail
   rw[Qd.o];clear Qd;go_upto_region 2 with(go_at_call 14;refine(m.o _ hq).mono ?_;clear m;rintro e w1 ⟨u1,rfl,u,ae⟩;have hq:=Bt hq ae;obtain⟨s9,T,l9,U,t9,b9,k9,W,rfl⟩:=Jg.form u;clear a b;obtain⟨a,b⟩:=o.o _ hq)
   obtain⟨c,f⟩:=ex (w1.alloc (L #[D s9,C T l9 U,D t9,C b9 k9 W] 41));obtain⟨B5,t⟩:=ex (w1.heap.size);have p:Bl w1 c:=by rw[<-f];exact Ba w1 _
   have n5:JP c B5 41 (D s9) (C T l9 U) (D t9) (C b9 k9 W):=by rw[<-f,<-t];exact JP.new w1 _ _ _ _ _
   have r5:=u.below p;rw[f,t];have hq:=Bt hq p
   clear a b;obtain⟨a,b⟩:=o.o _ hq;obtain⟨ck,cn,co,de⟩:=n5.cq;have Qi:=Z (kz _ _ q r.lo c (Q.o c hq).1 r5 d.o.sq (Sq.of S.o.lo (by have:=S.o.x2;omega)) (d.o.atk k).1);have Qf:=Z λ(V:F) (y:G) (hy:Jg V y (ev q r.lo))=>XU y _ (ev q r.lo) 0 V hy (XE _) (d.o.atk k).2 GS;rw[Qo.o]at Qf;have Qb:=Z (Bt Qc.o hq);clear f t n5 r5 u p hq k;go_wp2_with(first
    |(go_at_call 70;refine Qi.o.mono ?_;clear Qi;rintro e w5 ⟨v5,rfl,g5,ah⟩)
    |(go_at_call 32;refine(Qf.o _ _ g5).mono ?_;clear Qf g5;rintro e w6 ⟨rfl,ai⟩;have hq:=Bt ah ai))
   go_ret;exact⟨J,Bt Qb.o hq⟩
theorem R7(K A l X J':Nat)(v vs:G)(r s:RtQ)(w:F)(h:JG w v r)(hv:JG w vs s)(hz:RzOk J' X r)(hy:RzOk J' X s)(hs:SnOk K A l X r s.w)(hg:-1<=s.sg/\s.sg<=1)(hb:-1000000<=r.sign s.w/\r.sign s.w<=1000000):
 Calls Tryz.prog 24 #[v,vs] w λe w'=>e=.returned (E H (r.ord s))/\Bl w w':=by
 have h0:=h;have Qe:=hv;obtain⟨ai,aj,am,an,ap,aq,ay,az,pa,pl,pc,rfl,co,cn,pw⟩:=h;obtain⟨bi,bj,bm,bn,bu,bz,ce,cj,qa,ql,qc,rfl,bg,bf,qw⟩:=hv;obtain⟨W0,ah,np,nq,M⟩:=KG w 46 46 #[ai,aj,am,an,ap,aq,ay,az,C pa pl pc,E H r.sg,E H (r.tm:Int)] #[bi,bj,bm,bn,bu,bz,ce,cj,C qa ql qc,E H s.sg,E H (s.tm:Int)];obtain⟨P,n,N,W,H4,H5,d,Qc⟩:=ID ah (λ(V:F) (h:Bl W0 V)=>Zq J' X _ s V ((Qe.below M).below h) hy) (λ(V:F) (h:Bl W0 V)=>Ru J' X _ _ r s.lo V ((h0.below M).below h) ((bg.below M).below h) hz hy.lo) (λ(V:F) (h:Bl W0 V)=>Ru J' X _ _ r s.hi V ((h0.below M).below h) ((bf.below M).below h) hz hy.hi) (λ(V:F) (h:Bl W0 V)=>Z8 K A l X J' _ _ r s.w V ((h0.below M).below h) ((qw.below M).below h) hz hs) (λ(V:F) (h:Bl W0 V) (y:G) (hx:Jg V y s.lo)=>Ru J' X _ y r s.lo V ((h0.below M).below h) hx hz hy.lo) (λ(V:F) (h:Bl W0 V)=>And.intro (np.below h).all ((nq.below h).all)) M;obtain⟨o,j⟩:=ex (r.ord s);rw[j];unfold RtQ.ord at j;obtain⟨n1,e1⟩:=ex (r.side s.lo);obtain⟨n2,e2⟩:=ex (r.side s.hi);obtain⟨n3,e3⟩:=ex (r.sign s.w);rw[e1,e2,e3]at j;rw[e1]at N H5;rw[e2]at W;rw[e3]at H4 hb;clear hz hy hs co cn pw bg bf qw h0 Qe np nq ah M e1 e2 e3;have hq:Bl W0 W0:=BB _ W0;obtain⟨a,b⟩:=d.o _ hq;by_cases U:s.lo<s.hi
 . rw[BF U]at j;have hd:decide (¬s.lo<s.hi)=false:=BN λh=>h U;rw[hd]at n;clear hd U H5;by_cases c1:n1<=0
   . rw[BF c1]at j;subst j;go_enter Tryz.func24,Tryz.ntmps24
     go_upto_region 1 with fail
     rw[P.o];clear P;go_upto_region 2 with(go_at_call 14;refine(n.o _ hq).mono ?_;clear n;rintro e w1 ⟨u1,rfl,k,Q⟩;have hq:=Bt hq Q;obtain⟨z,p,x,q,B,b9,u,t,rfl⟩:=Jg.form k;clear a b;obtain⟨a,b⟩:=d.o _ hq)
     obtain⟨m,c⟩:=ex (w1.alloc (L #[D z,C p x q,D B,C b9 u t] 41));obtain⟨B5,g⟩:=ex (w1.heap.size);have f:Bl w1 m:=by rw[<-c];exact Ba w1 _
     have R:JP m B5 41 (D z) (C p x q) (D B) (C b9 u t):=by rw[<-c,<-g];exact JP.new w1 _ _ _ _ _
     have S:=k.below f;rw[c,g];have hq:=Bt hq f
     clear a b;obtain⟨a,b⟩:=d.o _ hq;clear c g R S k f;go_wp2_with(first
      |(go_at_call 76;refine(N.o _ hq).mono ?_;clear N;rintro e w2 ⟨rfl,T⟩;have hq:=Bt hq T;clear a b;obtain⟨a,b⟩:=d.o _ hq))
     go_ret;exact⟨J,Bt Qc.o hq⟩
   . rw[BE c1]at j;by_cases c2:0<=n2
     . rw[BF c2]at j;subst j;go_enter Tryz.func24,Tryz.ntmps24
       go_upto_region 1 with fail
       rw[P.o];clear P;go_upto_region 2 with(go_at_call 14;refine(n.o _ hq).mono ?_;clear n;rintro e w1 ⟨u1,rfl,k,Q⟩;have hq:=Bt hq Q;obtain⟨z,p,x,q,B,b9,u,t,rfl⟩:=Jg.form k;clear a b;obtain⟨a,b⟩:=d.o _ hq)
       obtain⟨m,c⟩:=ex (w1.alloc (L #[D z,C p x q,D B,C b9 u t] 41));obtain⟨B5,g⟩:=ex (w1.heap.size);have f:Bl w1 m:=by rw[<-c];exact Ba w1 _
       have R:JP m B5 41 (D z) (C p x q) (D B) (C b9 u t):=by rw[<-c,<-g];exact JP.new w1 _ _ _ _ _
       have S:=k.below f;rw[c,g];have hq:=Bt hq f
       clear a b;obtain⟨a,b⟩:=d.o _ hq;clear c g R S k f;go_wp2_with(first
        |(go_at_call 76;refine(N.o _ hq).mono ?_;clear N;rintro e w2 ⟨rfl,T⟩;have hq:=Bt hq T;clear a b;obtain⟨a,b⟩:=d.o _ hq)
        |(go_at_call 76;refine(W.o _ hq).mono ?_;clear W;rintro e w3 ⟨rfl,ae⟩;have hq:=Bt hq ae;clear a b;obtain⟨a,b⟩:=d.o _ hq))
       go_ret;exact⟨J,Bt Qc.o hq⟩
     . rw[BE c2]at j;have dj:IntKind.i64.wrap (n3*s.sg)=o:=by
        have Q:-1000000<=n3*s.sg/\n3*s.sg<=1000000:=by
         obtain⟨g1,g2⟩:=hg;rcases(show s.sg=-1\/s.sg=0\/s.sg=1 by omega)with e|e|e<;>rw[e]<;>omega
        rw[BJ,<-j];omega
       have HO:=Z j;clear j hb hg;go_enter Tryz.func24,Tryz.ntmps24
       go_upto_region 1 with fail
       rw[P.o];clear P;go_upto_region 2 with(go_at_call 14;refine(n.o _ hq).mono ?_;clear n;rintro e w1 ⟨u1,rfl,k,Q⟩;have hq:=Bt hq Q;obtain⟨z,p,x,q,B,b9,u,t,rfl⟩:=Jg.form k;clear a b;obtain⟨a,b⟩:=d.o _ hq)
       obtain⟨m,c⟩:=ex (w1.alloc (L #[D z,C p x q,D B,C b9 u t] 41));obtain⟨B5,g⟩:=ex (w1.heap.size);have f:Bl w1 m:=by rw[<-c];exact Ba w1 _
       have R:JP m B5 41 (D z) (C p x q) (D B) (C b9 u t):=by rw[<-c,<-g];exact JP.new w1 _ _ _ _ _
       have S:=k.below f;rw[c,g];have hq:=Bt hq f
       clear a b;obtain⟨a,b⟩:=d.o _ hq;clear c g R S k f;go_upto_region 8 with(first
        |(go_at_call 76;refine(N.o _ hq).mono ?_;clear N;rintro e w2 ⟨rfl,T⟩;have hq:=Bt hq T;clear a b;obtain⟨a,b⟩:=d.o _ hq)
        |(go_at_call 76;refine(W.o _ hq).mono ?_;clear W;rintro e w3 ⟨rfl,ae⟩;have hq:=Bt hq ae;clear a b;obtain⟨a,b⟩:=d.o _ hq))
       obtain⟨Qg,H4,Qf⟩:=Db (λ(V:F) (h:Bl w3 V)=>d.o V (Bt hq h)) (λ(V:F) (h:Bl w3 V)=>H4.o V (Bt hq h)) (Bt Qc.o hq);clear d hq;have hq:Bl w3 w3.drew:=(BB _ w3).drew;go_region_held3 (λw'=>(∀i,w'.cell? ⟨w.heap.size,i,none⟩=#[ai,aj,am,an,ap,aq,ay,az,C pa pl pc,E H r.sg,E H (r.tm:Int)][i]?)/\(∀i,w'.cell? ⟨w.heap.size+1,i,none⟩=#[bi,bj,bm,bn,bu,bz,ce,cj,C qa ql qc,E H s.sg,E H (s.tm:Int)][i]?)) (first|grind|(go_keep;done)|(refine⟨?_,?_,?_,?_,?_,?_,?_,?_,?_,?_,?_,?_,?_,?_,?_,?_,?_,?_,?_,?_,?_,?_⟩<;>((repeat rw[JQ O]);first|assumption|(go_keep;done))))
        (first
         |(go_at_call 22;refine(H4.o _ hq).mono ?_;clear H4;rintro e w4 ⟨rfl,ck⟩;have hq:=Bt hq ck;clear a b;obtain⟨a,b⟩:=Qg.o _ hq))
       go_wp2_with fail
       go_ret;exact⟨J,Bt Qf.o hq⟩
 . rw[BE U]at j;have hd:=BK U;rw[hd]at n;have HV:=Z (show Iq s=s.lo by unfold Iq;rw[BE U]);rw[HV.o]at n;clear hd U N W H4;subst j;go_enter Tryz.func24,Tryz.ntmps24
   go_upto_region 1 with fail
   rw[P.o];clear P;go_upto_region 2 with(go_at_call 14;refine(n.o _ hq).mono ?_;clear n;rintro e w1 ⟨u1,rfl,k,Q⟩;have hq:=Bt hq Q;obtain⟨z,p,x,q,B,b9,u,t,rfl⟩:=Jg.form k;clear a b;obtain⟨a,b⟩:=d.o _ hq)
   obtain⟨m,c⟩:=ex (w1.alloc (L #[D z,C p x q,D B,C b9 u t] 41));obtain⟨B5,g⟩:=ex (w1.heap.size);have f:Bl w1 m:=by rw[<-c];exact Ba w1 _
   have R:JP m B5 41 (D z) (C p x q) (D B) (C b9 u t):=by rw[<-c,<-g];exact JP.new w1 _ _ _ _ _
   have S:=k.below f;rw[c,g];have hq:=Bt hq f
   clear a b;obtain⟨a,b⟩:=d.o _ hq;obtain⟨de,df,dh,di⟩:=R.cq;have H6:=Z (H5.o m hq _ S);clear H5 c g R S k f;go_wp2_with(first
    |(go_at_call 76;refine H6.o.mono ?_;clear H6;rintro e w2 ⟨rfl,T⟩;have hq:=Bt hq T))
   go_ret;exact⟨J,Bt Qc.o hq⟩
end M3
section
def IK(P:Nat->Prop)(m:Nat):Prop:=P m/\∀j,P j->m<=j
variable{m:Nat}{P:Nat->Prop}
def Oc{n:Nat}(h:P n):∃m,IK P m/\m<=n:=by
 induction n using Nat.strongRecOn with
 |_ n d=>
  by_cases b:∃j,j<n/\P j
  . obtain⟨j,a,hp⟩:=b;obtain⟨m,c,e⟩:=d j a hp;exact⟨m,c,O⟩
  . exact⟨n,⟨h,λj a=>Nat.le_of_not_lt λhl=>b ⟨j,hl,a⟩⟩,Aa _⟩
def Z9(h:IK P m):Classical.epsilon (IK P)=m:=by
 have a:=Classical.epsilon_spec (p:=IK P) ⟨m,h⟩;exact FI (a.2 m h.1) (h.2 _ a.1)
def R8{Q:Nat->Prop}(h:IK P (m+1))(hq:Q m):Classical.epsilon (IK Q)<Classical.epsilon (IK P):=by
 obtain⟨k,a,b⟩:=Oc hq;rw[Z9 h,Z9 a];omega
namespace M3
def Ha(V:F)(B:Nat)(r:RtQ):Prop:=∃cs,Bx V B 46 cs/\JG V (I cs) r
section
variable {V W:World} {B:Nat} {r:RtQ}
def Ha.below(h:Ha V B r)(a:Bl V W):Ha W B r:=by
 obtain⟨cs,b,c⟩:=h;exact⟨cs,b.below a,c.below a⟩
variable{t:TypeId}
def Ha.open(h:Ha V B r):∃f a al b at_ ab d c bs g bl j l i k bd m o n,Bx V B 46 #[D f,C a al b,D at_,C ab d c,D bs,C g bl j,D l,C i k bd,C m o n,E H r.sg,E H (r.tm:Int)]/\JG V (I #[D f,C a al b,D at_,C ab d c,D bs,C g bl j,D l,C i k bd,C m o n,E H r.sg,E H (r.tm:Int)]) r/\Yn V (I #[D f,C a al b,D at_,C ab d c,D bs,C g bl j,D l,C i k bd]) r.lo r.hi/\Jg V (I #[D f,C a al b,D at_,C ab d c]) r.lo/\Jg V (I #[D bs,C g bl j,D l,C i k bd]) r.hi/\Jd V (I #[C m o n]) r.w:=by
 obtain⟨cs,s,p⟩:=h;have t:=p;obtain⟨f,a,al,b,at_,ab,d,c,bs,g,bl,j,l,i,k,bd,m,o,n,e,q,u⟩:=JG.form p;cases e;have v:=q;obtain⟨x0,x1,x2,x3,y0,y1,y2,y3,e,w,x⟩:=v;cases e;exact⟨_,_,_,_,_,_,_,_,_,_,_,_,_,_,_,_,_,_,_,s,t,q,w,x,u⟩
def Bx.put11{x0 x1 x2 x3 y0 y1 y2 y3 p s u z0 a b c u0 u1 u2 u3 q t o:G}{y:TypeId}(h:Bx V B y #[z0,a,b,c,u0,u1,u2,u3,q,t,o]):Bx (La V B x0 x1 x2 x3 y0 y1 y2 y3 p s u) B y #[x0,x1,x2,x3,y0,y1,y2,y3,p,s,u]:=by
 have h:=((((((((((h.set 0 x0).set 1 x1).set 2 x2).set 3 x3).set 4 y0).set 5 y1).set 6 y2).set 7 y3).set 8 p).set 9 s).set 10 u;simp only[Aj,At,Ar]at h;exact h
def Ha.put{x0 x1 x2 x3 y0 y1 y2 y3 p s u:G}{b:RtQ}(h:Ha V B r)(c:JG V (I #[x0,x1,x2,x3,y0,y1,y2,y3,p,s,u]) b):Ha (La V B x0 x1 x2 x3 y0 y1 y2 y3 p s u) B b:=by
 obtain⟨_,_,_,_,_,_,_,_,_,_,_,_,_,_,_,_,_,_,_,a,_⟩:=h.open;exact⟨_,a.put11,(Rs a ..).root c⟩
def Bx.far11{C:Nat}{cs:Array G}(h:Bx V C t cs)(a:C≠B)(x0 x1 x2 x3 y0 y1 y2 y3 p s u:G):Bx (La V B x0 x1 x2 x3 y0 y1 y2 y3 p s u) C t cs:=(Rr.far C a).trans h
structure RtX(V:World)(B:Nat)(cs:Array Value)(r:RtQ):Prop where
 bx:Bx V B 46 cs
 is:JG V (.agg cs) r
variable {cs:Array Value}
def RtX.below(h:RtX V B cs r)(a:Bl V W):RtX W B cs r:=⟨h.bx.below a,h.is.below a⟩
def RtX.size(h:RtX V B cs r):cs.size=11:=by
 obtain⟨x0,x1,x2,x3,y0,y1,y2,y3,a,c,b,e,_⟩:=h.is;cases e;rfl
def RtX.set2(h:RtX V B cs r){C:Nat}{x y:G}(q:JD V C t x y)(_:JT x=true)(_:JT y=true)(a c:G)(f:∀k,He k≠t:=by intro k;cases k<;>decide)(g:Gv true≠t:=by decide):RtX ((V.setCell ⟨C,0,none⟩ a).setCell ⟨C,1,none⟩ c) B cs r:=by
 have hq:Bx V C t #[x,y]:=q;have d:B≠C:=λe=>by
  have b:=h.bx;rw[e,show Bx V C 46 cs=(V.heap[C]?=_)from J,show V.heap[C]?=_ from hq]at b;simp only[AU,Bv]at b;have:=h.size;rw[<-b.1]at this;simp at this
 have i:=Oa hq f g 0 a;have j:=Oa (hq.set 0 a) f g 1 c;exact⟨(h.bx.far (p:=⟨C,0,none⟩) d a).far (p:=⟨C,1,none⟩) d c,(i.trans j).root h.is⟩
section
variable {x0 x1 x2 x3 y0 y1 y2 y3 p s u:Value}
def RtX.parts(h:RtX V B #[x0,x1,x2,x3,y0,y1,y2,y3,p,s,u] r):Jg V (I #[x0,x1,x2,x3]) r.lo/\Jg V (I #[y0,y1,y2,y3]) r.hi/\Jd V (I #[p]) r.w/\Yn V (I #[x0,x1,x2,x3,y0,y1,y2,y3]) r.lo r.hi:=by
 obtain⟨a0,d,f,g,b0,i,j,k,l,n,m,e,a,b,c⟩:=h.is;cases e;exact⟨a,b,c,_,_,_,_,_,_,_,_,J,a,b⟩
def RtX.lo(h:RtX V B #[x0,x1,x2,x3,y0,y1,y2,y3,p,s,u] r):Jg V (I #[x0,x1,x2,x3]) r.lo:=h.parts.1
def RtX.hi(h:RtX V B #[x0,x1,x2,x3,y0,y1,y2,y3,p,s,u] r):Jg V (I #[y0,y1,y2,y3]) r.hi:=h.parts.2.1
def RtX.w(h:RtX V B #[x0,x1,x2,x3,y0,y1,y2,y3,p,s,u] r):Jd V (I #[p]) r.w:=h.parts.2.2.1
end
def Jd.put4{v:G}{p:List Rat}(h:Jd V v p)(hl:2<=p.length){C:Nat}{t:TypeId}{x y z u:G}(q:JP V C t x y z u)(s:JT x=true)(w:JT y=true)(A:JT z=true)(B:JT u=true)(N P Q K:G):Jd (Go.Proofs.YtdmmbgahnkbnaaaGreatDoor.put4 V C N P Q K) v p:=by
 obtain⟨M,e,a,cap,k,n,o,r,f⟩:=h;refine⟨M,e,a,cap,k,n,o,r,?_⟩;rcases f with f|⟨b,l,j⟩
 . exact Or.inl f
 . refine Or.inr ⟨b,l,j.keep ?_ λ_ _ _ g=>Row.put4 g q s w A B _ _ _ _⟩;have c:b≠C:=λe=>by
    obtain⟨cs,d,m⟩:=j;obtain⟨x0,_,_,_,i,_⟩:=m 1 O;rw[e,show V.heap[C]?=_ from q]at d;simp only[AU,Bv]at d;rw[<-d.1]at i;simp at i
   exact(BC _ _ _ b c).trans ((BC _ _ _ b c).trans ((BC _ _ _ b c).trans (BC _ _ _ b c)))
def JG.put4{v:G}(h:JG V v r)(hl:2<=r.w.length){C:Nat}{t:TypeId}{x y z u:G}(q:JP V C t x y z u)(a:JT x=true)(b:JT y=true)(c:JT z=true)(d:JT u=true)(B K M A:G):JG (Go.Proofs.YtdmmbgahnkbnaaaGreatDoor.put4 V C B K M A) v r:=by
 obtain⟨a0,f,g,i,b0,j,k,l,p,w,s,e,m,n,o⟩:=h;exact⟨a0,f,g,i,b0,j,k,l,p,w,s,e,m.put4 q a b c d _ _ _ _,n.put4 q a b c d _ _ _ _,Jd.put4 o hl q a b c d _ _ _ _⟩
def aA:∀(i:Nat) (r:RtQ),F0 (i+1) r=(F0 i r).hv:=by
 intro i;induction i with
 |zero=>intro r;rfl
 |succ i a=>intro r;exact a r.hv
theorem DM.one{w V:F}{B:Nat}{cs:Array G}(d:Dat)(b:Bx V B d.ty cs)(c:Has V (I cs) d)(f:w.heap.size<=B)(g:Bl w V):DM w V [some (B,d)]:=by
 refine⟨λi C e h=>?_,λi j C e k h a=>?_,g⟩
 . cases i with
   |zero=>
    simp at h;obtain⟨rfl,rfl⟩:=h;exact⟨⟨cs,b,c⟩,f⟩
   |succ i=>simp at h
 . cases i<;>cases j<;>simp at h a ⊢
end
end M3
end
namespace M3
structure SlOk(K X k:Nat)(r:RtQ):Prop where
 tw:Jc r.w=r.w
 w0:r.w≠[]
 lead:cf r.w (r.w.length-1)=(YL r.w:Rat)
 pos:0<YL r.w
 l2:2<=r.w.length
 smL:Sm X (YL r.w)
 it:∀i,i<=k->RzOk K X (F0 i r)/\DV X (Dg (F0 i r).lo (F0 i r).hi)
 stop:¬(1<J0 (Yj (YL r.w) k r).hi (YL r.w)-J0 (Yj (YL r.w) k r).lo (YL r.w)\/ev r.w (Yj (YL r.w) k r).lo=0)
 sz:K+r.w.length*(X+X+2)+X+X+K<=1000000000
structure TwX(V:World)(B1 B2:Nat)(cs:Array Value)(r:RtQ):Prop where
 x:RtX V B1 cs r
 z:Bx V B2 46 #[.bool false,.slice none 0 0,.bool false,.slice none 0 0,.bool false,.slice none 0 0,.bool false,.slice none 0 0,.slice none 0 0,.int .i64 0,.int .i64 0]
def TwX.below{V W:F}{B1 B2:Nat}{cs:Array G}{r:RtQ}(h:TwX V B1 B2 cs r)(a:Bl V W):TwX W B1 B2 cs r:=⟨h.x.below a,h.z.below a⟩
def TwX.alloc{V:F}{B1 B2:Nat}{cs:Array G}{r:RtQ}(h:TwX V B1 B2 cs r)(o:Obj):TwX (V.alloc o) B1 B2 cs r:=h.below (Ba V o)
theorem TwX.set2{V:F}{B1 B2:Nat}{cs:Array G}{r:RtQ}(h:TwX V B1 B2 cs r){C:Nat}{x y:G}(q:JD V C 39 x y)(f:JT x=true)(g:JT y=true)(a b:G):TwX ((V.setCell ⟨C,0,none⟩ a).setCell ⟨C,1,none⟩ b) B1 B2 cs r:=by
 have c:B2≠C:=λe=>by
  have d:=h.z;rw[e,show Bx V C 46 _=(V.heap[C]?=_)from J,show V.heap[C]?=_ from q]at d;grind
 exact⟨h.x.set2 q f g a b,(h.z.far (p:=⟨C,0,none⟩) c a).far (p:=⟨C,1,none⟩) c b⟩
theorem TwX.put4{V:F}{B1 B2:Nat}{cs:Array G}{r:RtQ}(h:TwX V B1 B2 cs r){C:Nat}{x y z u:G}(q:JP V C 41 x y z u)(i:JT x=true)(j:JT y=true)(k:JT z=true)(l:JT u=true)(c d f b:G)(hl:2<=r.w.length:=by assumption):TwX (Go.Proofs.YtdmmbgahnkbnaaaGreatDoor.put4 V C c d f b) B1 B2 cs r:=by
 have far:∀ {B:Nat} {cs:Array G},Bx V B 46 cs->Bx (Go.Proofs.YtdmmbgahnkbnaaaGreatDoor.put4 V C c d f b) B 46 cs:=fun {B cs} g=>by
  have a:B≠C:=λe=>by
   rw[e,show Bx V C 46 _=(V.heap[C]?=_)from J,show V.heap[C]?=_ from q]at g;grind
  exact(((g.far (p:=⟨C,0,none⟩) a c).far (p:=⟨C,1,none⟩) a d).far (p:=⟨C,2,none⟩) a f).far (p:=⟨C,3,none⟩) a b
 exact⟨⟨far h.x.bx,JG.put4 h.x.is hl q i j k l c d f b⟩,far h.z⟩
def K0(w:F)(B1 B2 B3 K:Nat)(L:Int)(r:RtQ)(n:Nat)(V:F):Prop:=
 ∃b,Ha V B1 b/\Bx V B2 46 #[D false,C none 0 0,D false,C none 0 0,D false,C none 0 0,D false,C none 0 0,C none 0 0,.int H 0,.int H 0]/\(∃s a l c,Bx V B3 39 #[D s,C a l c]/\Jk V (I #[D s,C a l c]) L)/\Bl w V/\(∃i,b=F0 i r/\i+n=K)/\Yj L n b=Yj L K r
theorem sR(K X k:Nat)(v:G)(r:RtQ)(w:F)(h:JG w v r)(hs:SlOk K X k r):
 Calls Tryz.prog 122 #[v] w λe w'=>∃u,e=.returned u/\JG w' u (GI k r)/\Bl w w':=by
 have h0:=h;obtain⟨am,aa,al,ac,at_,ab,ak,ad,bs,ba,bl,bc,bt,bb,bk,bd,pa,pl,pc,rfl,_,_⟩:=JG.form h;obtain⟨W0,cj,b1,n2,an⟩:=KG w 46 46 #[D am,C aa al ac,D at_,C ab ak ad,D bs,C ba bl bc,D bt,C bb bk bd,C pa pl pc,E H r.sg,E H (r.tm:Int)] #[D false,C none 0 0,D false,C none 0 0,D false,C none 0 0,D false,C none 0 0,C none 0 0,E H 0,E H 0];have n1:RtX W0 w.heap.size #[D am,C aa al ac,D at_,C ab ak ad,D bs,C ba bl bc,D bt,C bb bk bd,C pa pl pc,E H r.sg,E H (r.tm:Int)] r:=⟨b1,h0.below an⟩;have Qw:=Z cj;have Uc:=Ac.2 hs.w0;obtain⟨d,hd⟩:=ex (r.w.length-1:Nat);have Qo:(r.w.length:Int)-1=(d:Int):=O
 obtain⟨L,hL⟩:=ex (YL r.w);have Qs:=Z (show(cf r.w d).num=L by rw[<-hL,<-hd];rfl);have Qq:=Z λ(V:F) (y:G) (hy:Jd V y r.w)=>JY y r.w V hy;rw[Qo]at Qq;have Ql:=Z λ(V:F) (y:G) (hy:Jd V y r.w)=>X9 y r.w (d:Int) V hy;rw[IG]at Ql;have HS:=Z hs;have gu:(d:Int)<=1000000000:=by have A:=hs.sz;grind
 have M1:Hid (DM w W0 []):=Z ⟨λi B z h=>by simp at h,λi j B z z' h=>by simp at h,an⟩;have q:=Z (And.intro n1 n2);have HL:=Z hL;clear h h0 hs cj an b1 n1 n2 Uc hd Qo hL;go_enter Tryz.func122,Tryz.ntmps122
 go_upto_region 1 with fail
 rw[Qw.o];refine YB Dj [[],[0],[],[2],[3],[1,4,4],[5,5],[],[7,6,6,0,1,2,3,4,5,6,7]] [.eq (.pointer (some ⟨w.heap.size,8,none⟩)),.eq (I #[C pa pl pc]),.eq (.pointer (some ⟨w.heap.size,8,none⟩)),.eq (I #[C pa pl pc]),.eq (E H (d:Int)),.rat (cf r.w d),.int L,.ptr,.eq undef] [7,8] (λb v V=>DM w V [nb b v 0 1 (.int 0) (.int L)]/\TwX V w.heap.size (w.heap.size+1) #[D am,C aa al ac,D at_,C ab ak ad,D bs,C ba bl bc,D bt,C bb bk bd,C pa pl pc,E H r.sg,E H (r.tm:Int)] r) ⟨(M1.o.none).drew,TwX.below ⟨q.o.1,q.o.2⟩ (BB _ W0).drew⟩ (Pu (.vl J λ_ _=>⟨_,by refine DS ?_;go_simp,J⟩)<|Pu (.vl J λh j=>⟨_,by have o:=j.2.x.bx.c (i:=8) J;refine DS ?_;rw[h.e 0];go_simp,J⟩)<|Pu (.vl J λ_ _=>⟨_,by refine DS ?_;go_simp,J⟩)<|Pu (.vl J λh j=>⟨_,by have o:=j.2.x.bx.c (i:=8) J;refine DS ?_;rw[h.e 2];go_simp,J⟩)<|Pu (.cl λh j=>c1 (h.e 3) (rv (Qq.o _ _ j.2.x.w)))<|Pu (.cl λh j=>c2 (h.e 1) (h.e 4) (Ql.o _ _ j.2.x.w))<|Pu (.cl λh _=>Qs.o ▸ MN _ (cf r.w d) _ (h.g 5))<|Pu (.wr J λ_ j=>GP 0 j.1 (hT:=λm=>⟨m,j.2.alloc _⟩))<|Pu (.wr J λh j=>Ew 0 j.1 (h.g 6) (hp:=h.g 7) (hT:=λn m=>⟨m,j.2.set2 n J J _ _⟩)) Stp.end_)
  λf V2 hF M=>?_
 obtain⟨M,t⟩:=M;replace t:=Z t;refine DS ?_;rw[hF.e 0,hF.e 1,hF.e 2,hF.e 3,hF.e 4];obtain⟨B3,ap⟩:=hF.p 7;have M:=Dz M;simp only[ap]at M;rw[ap];have M2:=Z M;clear M hF ap;clear M1;have Qy:=Z (M2.o.ge 0 J);have ML:Hid (K0 w w.heap.size (w.heap.size+1) B3 k L r k V2):=Z ⟨r,⟨_,t.o.x.bx,t.o.x.is⟩,t.o.z,(by obtain⟨s,a,l,c,A,h2⟩:=M2.o.int (i:=0) J;exact⟨s,a,l,c,A,h2⟩),M2.o.2.2,⟨0,J,O⟩,J⟩;clear t M2;go_wp2;go_loopw [] (λwr=>∃n,K0 w w.heap.size (w.heap.size+1) B3 k L r n wr) λwr=>Classical.epsilon (IK λn=>K0 w w.heap.size (w.heap.size+1) B3 k L r n wr)
 case atStart=>exact⟨k,ML.o⟩
 case round=>
  obtain⟨n0,df⟩:=hrel;obtain⟨m,hm,_⟩:=Oc (P:=λn=>K0 w w.heap.size (w.heap.size+1) B3 k L r n wr) df;obtain⟨g,bu,di,⟨s3,a3,l3,c3,n3,i3⟩,hB,⟨i,hi,co⟩,ck⟩:=hm.1;obtain⟨fs,fa,fl,fc,ft,fb,fk,fd,gs,ga,gl,gc,gt,gb,gk,gd,ha,hl,hc,bx,bz,ce,bi,cn,bn⟩:=bu.open;obtain⟨S,bj⟩:=HS.o.it i O;rw[<-hi]at S bj;have hw:g.w=r.w:=by rw[hi];exact(Ro i r).1
  have Qp:Sm X L:=by rw[<-HL.o];exact HS.o.smL
  obtain⟨W,H2,H3⟩:=Db (qu X _ _ g.lo g.hi L wr ce i3 S.lo S.hi Qp (by have:=S.x2;omega)) (λ(V:F) (h:Bl wr V)=>Mo K X _ _ g.w g.lo V (bn.below h) (bi.below h) S.wh S.lo (by have:=S.sz;omega)) λ(V:F) (h:Bl wr V)=>Zp K X _ g V (bz.below h) S bj;obtain⟨b1,ae⟩:=ex (decide (1<J0 g.hi L-J0 g.lo L));obtain⟨g1,bf⟩:=ex (DY (ev g.w g.lo));rw[ae]at W;rw[bf]at H2;obtain⟨q,Qf,HM,HI,HQ,Ua,Qu,HW⟩:=ID (λ(V:F) (h:Bl wr V)=>And.intro (bx.below h) (And.intro (di.below h) (And.intro (n3.below h) (i3.below h)))) hB hm (And.intro hi co) ck bu bz hw;obtain⟨Qz,Ub,T,HP⟩:=Dr ae bf S (And.intro bi (And.intro cn (And.intro bn ce)));have N:=Z λ(V:F) (h:Bl wr V)=>And.intro (q.o V h).1.all (And.intro (q.o V h).2.2.1.all (q.o V h).1.f);have hq:Bl wr wr:=BB _ wr;obtain⟨o,p,fr⟩:=N.o _ hq;clear df hm bu di n3 i3 hB hi co ck bx bz ce bi cn bn S bj hw Qp ae bf;have Qc:(1<J0 g.hi L-J0 g.lo L\/ev g.w g.lo=0)↔(b1=true\/b1=false/\g1=0):=by
   rw[<-Qz.o,<-Ub.o,XV,Bw,Bu];grind
  by_cases ah:1<J0 g.hi L-J0 g.lo L\/ev g.w g.lo=0
  . obtain⟨m',rfl⟩:∃m',m=m'+1:=by
     cases m with
     |succ m'=>exact⟨m',J⟩
     |zero=>
      have A:=HQ.o;rw[Yj]at A;have h2:=HS.o.stop;rw[HL.o,<-A,<-HW.o]at h2;exact absurd ah h2
    have Qx:=Z (show Yj L m' g.hv=Yj L k r by have A:=HQ.o;rw[Yj,BF ah]at A;exact A);replace Qc:=Qc.1 ah;clear ah;rcases Qc with rfl|⟨rfl,rfl⟩
    all_goals
     go_wp2_with(first
      |(go_at_call 198;refine W.o.mono ?_;rintro e w1 ⟨rfl,ae⟩;have hq:=Bt hq ae;clear o p fr;obtain⟨o,p,fr⟩:=N.o _ hq)
      |(go_at_call 121;refine(H2.o _ hq).mono ?_;rintro e w2 ⟨rfl,ay⟩;have hq:=Bt hq ay;clear o p fr;obtain⟨o,p,fr⟩:=N.o _ hq)
      |(go_at_call 67;refine(H3.o _ hq).mono ?_;rintro e w3 ⟨u3,rfl,dh,gj⟩;have hq:=Bt hq gj;obtain⟨f9,dj,ei,dx,fe,dt,ed,dz,gh,fg,fx,fi,gi,fh,fo,fm,gn,gr,gq,rfl,_,_⟩:=JG.form dh;clear o p fr;obtain⟨o,p,fr⟩:=N.o _ hq))
     obtain⟨q1,q2,q3,q4⟩:=q.o _ hq;have Qh:w.heap.size+1≠w.heap.size:=O
     have Qg:B3≠w.heap.size:=λe=>by rw[e,show Bx w3 w.heap.size 39 _=(w3.heap[w.heap.size]?=_)from J,show w3.heap[w.heap.size]?=_ from q1]at q3;simp only[AU,Bv]at q3;exact absurd q3.2.1 DN
     have kk:=Rs q1 (D f9) (C dj ei dx) (D fe) (C dt ed dz) (D gh) (C fg fx fi) (D gi) (C fh fo fm) (C gn gr gq) (E H g.hv.sg) (E H (g.hv.tm:Int));have Qk:=(show K0 w w.heap.size (w.heap.size+1) B3 k L r m' _ from⟨g.hv,Ha.put (Ua.o.below hq) dh,q2.far11 Qh _ _ _ _ _ _ _ _ _ _ _,⟨s3,a3,l3,c3,q3.far11 Qg _ _ _ _ _ _ _ _ _ _ _,kk.int q4⟩,Rt (Bt Qf.o hq) (Aa _) _ _ _ _ _ _ _ _ _ _ _,⟨i+1,by rw[aA,<-HI.o.1],by have:=HI.o.2;omega⟩,Qx.o⟩);go_roundw
     case rel=>exact⟨m',Qk⟩
     case measure=>exact R8 (P:=λn=>K0 w w.heap.size (w.heap.size+1) B3 k L r n wr) (Q:=λn=>K0 w w.heap.size (w.heap.size+1) B3 k L r n _) HM.o Qk
  . have Qc:b1=false/\¬g1=0:=by
     grind
    obtain⟨rfl,ai⟩:=Qc;have Qm:(g1==0)=false:=by simpa using ai
    have HE:=Z (show g=Yj L k r by
     have A:=HQ.o;cases m with
      |zero=>exact A
      |succ m=>rw[Yj,BE ah]at A;exact A)
    clear ai ah;go_upto_region 4 with(first
     |(go_at_call 198;refine W.o.mono ?_;rintro e w1 ⟨rfl,ae⟩;have hq:=Bt hq ae;clear o p fr;obtain⟨o,p,fr⟩:=N.o _ hq)
     |(go_at_call 121;refine(H2.o _ hq).mono ?_;rintro e w2 ⟨rfl,ay⟩;have hq:=Bt hq ay;clear o p fr;obtain⟨o,p,fr⟩:=N.o _ hq))
    have gv:2<=g.w.length:=by rw[HW.o];exact HS.o.l2
    obtain⟨Qv,M9,Qt,Qd⟩:=Dr (show TwX w2 w.heap.size (w.heap.size+1) #[D fs,C fa fl fc,D ft,C fb fk fd,D gs,C ga gl gc,D gt,C gb gk gd,C ha hl hc,E H g.sg,E H (g.tm:Int)] g from⟨⟨(q.o _ hq).1,Qu.o.below hq⟩,(q.o _ hq).2.1⟩) (DM.one (.int L) (q.o _ hq).2.2.1 (q.o _ hq).2.2.2 Qy.o (Bt Qf.o hq)) (show decide (L≠0)=true from BK (by have:=HS.o.pos;rw[HL.o]at this;omega)) (show Sm X L by rw[<-HL.o];exact HS.o.smL);have Qr:=Z (show Sm (X+X) (J0 g.hi L)from Sm.div (T.o.hi.1.mul Qd.o));clear o p fr hq Qm;refine YB Dj [[],[0],[1],[],[2,3],[],[4,5,4],[6],[7],[7],[],[10,8,6,0,1,2,3,4,5,6,7,8,10],[9,11,0,1,2,3,4,5,6,7,8,9,10,11]] [.eq (.pointer (some ⟨w.heap.size,0,none⟩)),.eq (.pointer (some ⟨w.heap.size,4,none⟩)),.eq (I #[D gs,C ga gl gc,D gt,C gb gk gd]),.int L,.int (J0 g.hi L),.int L,.tup1 (.rat (Rat.divInt (J0 g.hi L) L)),.tup1 (.rat (Rat.divInt (J0 g.hi L) L)),.rat (Rat.divInt (J0 g.hi L) L),.eq (D true),.ptr,.eq undef,.eq (D true)] [10,11] (λb v V=>DM w V [some (B3,.int L),nb b v 0 1 (.rat 0) (.rat (Rat.divInt (J0 g.hi L) L))]/\TwX V w.heap.size (w.heap.size+1) #[D fs,C fa fl fc,D ft,C fb fk fd,D gs,C ga gl gc,D gt,C gb gk gd,C ha hl hc,E H g.sg,E H (g.tm:Int)] g) ⟨(M9.o.none).drew,Qv.o.below (BB _ w2).drew⟩ (Pu (.vl J λ_ _=>⟨_,by refine DS ?_;go_simp,J⟩)<|Pu (.vl J λh _=>⟨_,by refine DS ?_;rw[h.e 0];go_simp,J⟩)<|Pu (.vl J λh j=>⟨_,by have o:=And.intro (j.2.x.bx.c (i:=4) J) (And.intro (j.2.x.bx.c (i:=5) J) (And.intro (j.2.x.bx.c (i:=6) J) (j.2.x.bx.c (i:=7) J)));refine DS ?_;rw[h.e 1];go_simp,J⟩)<|Pu (.vl J λ_ j=>E0 0 j.1)<|Pu (.cl λh j=>c2 (h.e 2) J (Rl X _ _ g.hi L _ j.2.x.hi (h.g 3) T.o.hi Qd.o (by have:=T.o.x2;omega)))<|Pu (.vl J λ_ j=>E0 0 j.1)<|Pu (.cl λh _=>Nb (Qt.o ▸ I6 _ _ (J0 g.hi L) L _ (h.g 4) (h.g 5) (Sok.of Qr.o (by have:=T.o.x2;omega)) (Sok.of Qd.o (by have:=T.o.x2;omega))))<|Pu (.vl J λh _=>mw (h.g 6))<|Pu (.vl J λh _=>Nj (h.g 7))<|Pu (.vl J λh _=>Nk (h.g 7))<|Pu (.wr J λ_ j=>Nf 1 j.1 (hT:=λm=>⟨m,j.2.alloc _⟩))<|Pu (.wr J λh j=>LG 1 j.1 (h.g 8) (hp:=h.g 10) (hT:=λn m=>⟨m,j.2.put4 n J J J J _ _ _ _⟩))<|Pu (.vl J λh _=>aw (h.g 9)) Stp.end_)
     λf U hF M=>?_
    obtain⟨M,t⟩:=M;replace t:=Z t;refine DS ?_;rw[hF.e 0,hF.e 1,hF.e 2,hF.e 9,hF.e 12];obtain⟨B6,aq⟩:=hF.p 10;have M:=Dz M;simp only[aq]at M;rw[aq];have Qe:=Z M;clear M hF aq;clear M9;obtain⟨x,hx⟩:=ex (Rat.divInt (J0 g.hi L) L);have HX:=Z hx;rw[hx]at Qe;have Qn:=Z (show DV (X+X) x by rw[<-HX.o];exact DV.divInt (by have:=HS.o.pos;rw[HL.o]at this;omega) Qr.o (Qd.o.mono O));obtain⟨s4,a4,l4,c4,t4,b4,k4,d4,n4,r4,_,_⟩:=Qe.o.rat (i:=1) J;have q:=Z λ(V:F) (h:Bl U V)=>And.intro (t.o.x.bx.below h) (And.intro (t.o.z.below h) (And.intro (n4.below h) (And.intro (t.o.x.below h).lo (And.intro (t.o.x.below h).hi (And.intro (t.o.x.below h).w (r4.below h))))));have HB:=Z Qe.o.2.2;have Qj:¬B6=w.heap.size:=λe=>by have A:=n4;rw[e]at A;have h2:=t.o.x.bx;rw[show Bx U w.heap.size 46 _=(U.heap[w.heap.size]?=_)from J,show U.heap[w.heap.size]?=_ from A]at h2;simp only[AU,Bv]at h2;exact absurd h2.2.1 DN
    have gw:¬w.heap.size=B6:=λe=>Qj e.symm;have gy:¬w.heap.size+1=w.heap.size:=O
    have ia:¬w.heap.size=w.heap.size+1:=O
    have W:=Z λ(V:F) (h:Bl U V)=>XU _ _ x g.lo V (r4.below h) (t.o.x.below h).lo (Sq.of Qn.o (by have:=T.o.x2;omega)) (Sq.of T.o.lo (by have:=T.o.x2;omega));have H2:=Z λ(V:F) (h:Bl U V)=>Mo K (X+X) _ _ g.w x V (t.o.x.below h).w (r4.below h) T.o.wh Qn.o (by have A:=HS.o.sz;rw[<-HW.o]at A;omega);obtain⟨n5,bm⟩:=ex (Xt x g.lo);obtain⟨g5,bg⟩:=ex (DY (ev g.w x));rw[bm]at W;rw[bg]at H2;obtain⟨HO,HG,Qi,N⟩:=Dr (show 0<n5↔g.lo<x by rw[<-bm,<-LL];rw[G9];have:=(Zg x).three g.lo;omega) (show g5=0↔ev g.w x=0 by rw[<-bg];exact XV) (show GI k r=Ht L g by unfold GI;rw[HL.o,HE.o]) λ(V:F) (h:Bl U V)=>And.intro (q.o V h).1.all (And.intro (q.o V h).2.1.all (And.intro (Bx.all (q.o V h).2.2.1) (And.intro (q.o V h).1.f (q.o V h).2.1.f)));have hq:Bl U U:=BB _ _;obtain⟨o,p,R,f0,f1⟩:=N.o _ hq;clear t Qe n4 r4 hx bm bg;by_cases de:0<n5
    . by_cases ai:g5=0
      . subst ai;have Qb:=Z (show Ht L g=⟨x,x,g.w,0,g.tm⟩by unfold Ht;rw[HX.o,BF ⟨HO.o.1 de,HG.o.1 J⟩]);go_upto_region 6 with(first
         |(go_at_call 32;refine(W.o _ hq).mono ?_;rintro e w5 ⟨rfl,aj⟩;have hq:=Bt hq aj;clear o p R f0 f1;obtain⟨o,p,R,f0,f1⟩:=N.o _ hq)
         |(go_at_call 121;refine(H2.o _ hq).mono ?_;rintro e w6 ⟨rfl,az⟩;have hq:=Bt hq az;clear o p R f0 f1;obtain⟨o,p,R,f0,f1⟩:=N.o _ hq))
        obtain⟨⟨t0,t1,t2,t3⟩,⟨t5,t6,t7,t8⟩,t9,o0,o1⟩:=(q.o _ hq).1.r11;obtain⟨o2,o3,o5,o6⟩:=Bx.r4 (q.o _ hq).2.2.1;clear o R;go_region
        go_wp2_with fail
        obtain⟨b0,k6,_,_,_,m3,m4⟩:=q.o _ hq;exact BA (v:=I #[D s4,C a4 l4 c4,D t4,C b4 k4 d4,D s4,C a4 l4 c4,D t4,C b4 k4 d4,C ha hl hc,E H 0,E H (g.tm:Int)]) (by simp[results,Tryz.results122,go_sem,p]) J (q7 (by rw[Qi.o,Qb.o];exact Ky b0.ty k6.ty m4 m4 m3 (Bt HB.o hq) (Aa _) O))
      . have Qm:(g5==0)=false:=by simpa using ai
        have Qb:=Z (show Ht L g=g by unfold Ht;rw[HX.o,BE λh=>ai (HG.o.2 h.2)]);go_wp2_with(first
         |(go_at_call 32;refine(W.o _ hq).mono ?_;rintro e w5 ⟨rfl,aj⟩;have hq:=Bt hq aj;clear o p R f0 f1;obtain⟨o,p,R,f0,f1⟩:=N.o _ hq)
         |(go_at_call 121;refine(H2.o _ hq).mono ?_;rintro e w6 ⟨rfl,az⟩;have hq:=Bt hq az;clear o p R f0 f1;obtain⟨o,p,R,f0,f1⟩:=N.o _ hq))
        obtain⟨b0,k6,_,m1,m2,m3,_⟩:=q.o _ hq;exact BA (v:=I #[D fs,C fa fl fc,D ft,C fb fk fd,D gs,C ga gl gc,D gt,C gb gk gd,C ha hl hc,E H g.sg,E H (g.tm:Int)]) (by simp[results,Tryz.results122,go_sem,p]) J (by rw[Qi.o,Qb.o];exact Ky b0.ty k6.ty m1 m2 m3 (Bt HB.o hq) (Aa _) O)
    . have Qb:=Z (show Ht L g=g by unfold Ht;rw[HX.o,BE λh=>de (HO.o.2 h.1)]);go_wp2_with(go_at_call 32;refine(W.o _ hq).mono ?_;rintro e w5 ⟨rfl,aj⟩;have hq:=Bt hq aj;clear o p R f0 f1;obtain⟨o,p,R,f0,f1⟩:=N.o _ hq)
      obtain⟨b0,k6,_,m1,m2,m3,_⟩:=q.o _ hq;exact BA (v:=I #[D fs,C fa fl fc,D ft,C fb fk fd,D gs,C ga gl gc,D gt,C gb gk gd,C ha hl hc,E H g.sg,E H (g.tm:Int)]) (by simp[results,Tryz.results122,go_sem,p]) J (by rw[Qi.o,Qb.o];exact Ky b0.ty k6.ty m1 m2 m3 (Bt HB.o hq) (Aa _) O)
def dT(m:Nat)(q:Rat):List UInt8:=LP (q.num*10^m/(q.den:Int)) m
def Eh(m:Nat):Nat->RtQ->RtQ
 |0,r=>r
 |k+1,r=>if dT m r.lo=dT m r.hi then r else Eh m k r.hv
structure DgOk(K X k m:Nat)(r:RtQ):Prop where
 it:∀i,i<=k->RzOk K X (F0 i r)/\DV X (Dg (F0 i r).lo (F0 i r).hi)
 stop:dT m (Eh m k r).lo=dT m (Eh m k r).hi
def K1(w:F)(B K m:Nat)(r:RtQ)(n:Nat)(V:F):Prop:=
 ∃a,Ha V B a/\Bl w V/\(∃i,a=F0 i r/\i+n=K)/\Eh m n a=Eh m K r
theorem aB(K X k m:Nat)(v:G)(r:RtQ)(n:Int)(w:F)(h:JG w v r)(hs:DgOk K X k m r)(hn:min (max n 0) 30=(m:Int))(aq:Lib.TabIs Tryz.prog w "internal/strconv.uint64pow10" .u64 Lib.pow10Tab):
 Calls Tryz.prog 19 #[v,E H n] w λe w'=>e=.returned (.string ⟨(dT m (Eh m k r).lo).toArray⟩)/\Bl w w':=by
 obtain⟨fs,fa,fl,fc,ft,fb,fk,fd,gs,ga,gl,gc,gt,gb,gk,gd,ha,hl,hc,rfl,_,_⟩:=JG.form h;obtain⟨W0,p⟩:=ex (w.alloc (L #[D fs,C fa fl fc,D ft,C fb fk fd,D gs,C ga gl gc,D gt,C gb gk gd,C ha hl hc,E H r.sg,E H (r.tm:Int)] 46));have z:Bl w W0:=by rw[<-p];exact Ba w _
 have ML:Hid (K1 w w.heap.size k m r k W0):=Z ⟨r,⟨_,by rw[<-p];exact Bx.new w _ _,h.below z⟩,z,⟨0,J,O⟩,J⟩;obtain⟨Qd,HT,HS⟩:=Db p aq hs;obtain⟨W,dz⟩:=ex (min n 30);have HM:=Z (show min (max W 0) 100=(m:Int)by omega);obtain⟨S,B⟩:=ex ((⟨(dT m (Eh m k r).lo).toArray⟩:ByteArray):ByteArray);rw[B];have Ql:=Z B;clear h hs aq p z hn B;go_enter Tryz.func19,Tryz.ntmps19
 go_upto_region 1 with fail
 rw[Qd.o];clear Qd;go_wp2;go_loopw [] (λwr=>∃q,K1 w w.heap.size k m r q wr) λwr=>Classical.epsilon (IK λq=>K1 w w.heap.size k m r q wr)
 case atStart=>exact⟨k,ML.o⟩
 case round=>
  obtain⟨q0,an⟩:=hrel;obtain⟨q,R,_⟩:=Oc (P:=λq=>K1 w w.heap.size k m r q wr) an;obtain⟨a,U,o,⟨i,hi,aj⟩,ah⟩:=R.1;obtain⟨xs,xa,xl,xc,xt,xb,xk,xd,ys,ya,yl,yc,yt,yb,yk,yd,za,zl,zc,bx,ap,bi,am,ai,bg⟩:=U.open;obtain⟨d,T⟩:=HS.o.it i O;rw[<-hi]at d T;obtain⟨g,s,t⟩:=Db (λ(V:F) (h:Bl wr V)=>Vq _ a.lo W m V (am.below h) (Sq.of d.lo (by have:=d.x2;omega)) HM.o (Ka HT.o (Bt o h))) (λ(V:F) (h:Bl wr V)=>Vq _ a.hi W m V (ai.below h) (Sq.of d.hi (by have:=d.x2;omega)) HM.o (Ka HT.o (Bt o h))) λ(V:F) (h:Bl wr V)=>Zp K X _ a V (ap.below h) d T;obtain⟨A,M⟩:=ex ((⟨(dT m a.lo).toArray⟩:ByteArray):ByteArray);obtain⟨S2,ae⟩:=ex ((⟨(dT m a.hi).toArray⟩:ByteArray):ByteArray);rw[show(⟨(LP (a.lo.num*10^m/(a.lo.den:Int)) m).toArray⟩:ByteArray)=A from M]at g;rw[show(⟨(LP (a.hi.num*10^m/(a.hi.den:Int)) m).toArray⟩:ByteArray)=S2 from ae]at s;obtain⟨c9,dx⟩:=ex ((A.toList==S2.toList):Bool);have Qf:=Z (show c9=true↔dT m a.lo=dT m a.hi by grind[ByteArray.toList_mk]);have Qh:=Z M;have H5:=g;obtain⟨HN,Qa,Qk,HI,x,Qg⟩:=IC (λ(V:F) (h:Bl wr V)=>bx.below h) o R (And.intro hi aj) ah U;have j:=Z λ(V:F) (h:Bl wr V)=>(HN.o V h).all;have l:=Z (show ∀V:F,Bl wr V->∀i,V.frozen? ⟨w.heap.size,i,none⟩=false from λV h i=>(HN.o V h).f i);clear an R U o hi aj ah bx ap bi am ai bg d T M ae ML;have c:=j.o _ (BB _ wr);have fr:=l.o _ (BB _ wr);go_upto_region 2 with fail
  have hq:Bl wr wr.drew:=(BB _ wr).drew;go_region_held3 (λw'=>∀i,w'.cell? ⟨w.heap.size,i,none⟩=#[D xs,C xa xl xc,D xt,C xb xk xd,D ys,C ya yl yc,D yt,C yb yk yd,C za zl zc,E H a.sg,E H (a.tm:Int)][i]?) (first|(with_reducible exact c)|(go_keep;done))
   (first
    |(go_at_call 33;refine(g.o _ hq).mono ?_;clear g;rintro e w1 ⟨rfl,az⟩;have hq:=Bt hq az;clear c fr;have c:=j.o _ hq;have fr:=l.o _ hq)
    |(go_at_call 33;refine(s.o _ hq).mono ?_;clear s;rintro e w2 ⟨rfl,bf⟩;have hq:=Bt hq bf;clear c fr;have c:=j.o _ hq;have fr:=l.o _ hq))
  cases c9 with
  |false=>
   have y:¬dT m a.lo=dT m a.hi:=λh=>by have:=Qf.o.2 h;cases this
   obtain⟨f,rfl⟩:∃f,q=f+1:=by
    cases q with
    |succ f=>exact⟨f,J⟩
    |zero=>
     have b:=x.o;rw[Eh]at b;have h2:=HS.o.stop;rw[<-b]at h2;exact absurd h2 y
   have Qj:=Z (show Eh m f a.hv=Eh m k r by have b:=x.o;rw[Eh,BE y]at b;exact b);clear y;go_wp2_with(go_at_call 67;refine(t.o _ hq).mono ?_;clear t;rintro e w3 ⟨u3,rfl,ay,N⟩;have hq:=Bt hq N;obtain⟨cj,bj,ce,bn,ck,bm,bz,bu,dj,cn,di,de,dt,co,dh,df,ed,f9,ei,rfl,_,_⟩:=JG.form ay;clear c fr;have c:=j.o _ hq;have fr:=l.o _ hq)
   have Qe:=(show K1 w w.heap.size k m r f _ from⟨a.hv,Ha.put (Qg.o.below hq) ay,Rt (Bt Qa.o hq) (Aa _) _ _ _ _ _ _ _ _ _ _ _,⟨i+1,by rw[aA,<-HI.o.1],by have:=HI.o.2;omega⟩,Qj.o⟩);go_roundw
   case rel=>exact⟨f,Qe⟩
   case measure=>exact R8 (P:=λq=>K1 w w.heap.size k m r q wr) (Q:=λq=>K1 w w.heap.size k m r q _) Qk.o Qe
  |true=>
   have HE:=Z (show a=Eh m k r by
    have b:=x.o;have he:=Qf.o.1 J;cases q with
     |zero=>exact b
     |succ q=>rw[Eh,BF he]at b;exact b)
   have Qi:=Z (show A=S by rw[<-Qh.o,<-Ql.o,HE.o]);have u:=Z λ(V:F) (h:Bl wr V)=>H5.o V h;rw[Qi.o]at u;clear t H5;go_wp2_with(go_at_call 33;refine(u.o _ hq).mono ?_;clear u;rintro e w3 ⟨rfl,N⟩;have hq:=Bt hq N)
   go_ret;exact⟨J,Bt Qa.o hq⟩
def sS(v:G)(ps:List Rat)(w:F)(h:Jd w v ps)(tp:Jc ps=ps)(P:ps≠[])(aj:Sqs ps)(m:∀i,Sq (cf ps i/cf ps (ps.length-1))):
 Calls Tryz.prog 194 #[v] w λe w'=>∃u,e=.returned u/\Jg w' u (Yh ps)/\Bl w w':=by
 obtain⟨c,la,d,rfl⟩:=h.form;obtain⟨bf,ay,az,bg,_⟩:=h.row.forms;have s:=Ju tp P;obtain⟨n,hn⟩:=ex (ps.length-1:Nat);have Qh:(ps.length:Int)-1=(n:Int):=by have:=Ac.2 P;omega
 rw[hn]at s m;obtain⟨Qm,Qi,Qn,Qf,Qo,Qk⟩:=IC (show decide (cf ps n≠0)=true from BK s) (show ∀i,Im (EH ps i) (Yt (cf ps i/cf ps n))=EH ps (i+1)from λi=>by rw[EH,hn]) (show EH ps n+1=Yh ps by unfold Yh;rw[hn]) aj m (show ∀i,Sq (Yt (cf ps i/cf ps n))from λi=>mh (m i));have Qg:=Z (show ∀i,Sq (EH ps i)from λi=>by
  induction i with
   |zero=>exact GS
   |succ i ih=>rw[<-Qi.o];unfold Im;split;exact Qk.o i;exact ih)
 have HP:=Z λ(V:F) (Q:Bl w V)=>h.below Q;have A:=Z λ(V:F) (Q:Bl w V)=>JY (I #[C c la d]) ps V (h.below Q);rw[Qh]at A;obtain⟨W0,ae,k⟩:=IE 25 (.cell 25 (C c la d)) EN 41 (.rat 0) (XE _) 41 (.rat (EH ps 0)) (XE _) (w:=w);have bz:n<=1099511627776:=O
 clear h bf ay az bg hn Qh aj m s tp P;go_enter Tryz.func194,Tryz.ntmps194
 go_upto_region 2 with fail
 rw[ae.o];clear ae;have c0:=(k.o.cell (i:=0) J).1.cell;go_upto_region 3 with(go_at_call 26;refine(A.o _ k.o.2.2).mono ?_;rintro e w2 ⟨rfl,ah⟩)
 have ML:Hid (DM w w2 [some (w.heap.size,.cell 25 (C c la d)),some (w.heap.size+1,.rat 0),some (w.heap.size+1+1,.rat (EH ps 0))]):=Z (k.o.below ah);clear c0 ah k;go_loopw [11] (λU wr=>∃i:Nat,i<=n/\U=E H (i:Int)/\Hid (DM w wr [some (w.heap.size,.cell 25 (C c la d)),some (w.heap.size+1,.rat 0),some (w.heap.size+1+1,.rat (EH ps i))])) λU _=>n-(intOf U).toNat
 case atStart=>exact⟨0,As _,J,ML⟩
 case round=>
  obtain⟨i,hi,rfl,l⟩:=hrel;clear ML;by_cases bn:i<n
  . have bu:(i:Int)<(n:Int):=O
    go_upto_region 5 with fail
    refine YB Dj [[],[],[0,1],[],[],[4,2],[3,5,5],[2,6,6],[7],[8],[8],[],[11,9,7,0,1,2,3,4,5,6,7,8,9,11],[10,12,0,1,2,3,4,5,6,7,8,9,10,11,12]] [.eq (I #[C c la d]),.eq (Value.int IntKind.i64 ↑i),.rat (cf ps i),.eq (I #[C c la d]),.eq (I #[C c la d]),.eq (E H (n:Int)),.rat (cf ps n),.tup1 (.rat (cf ps i/cf ps n)),.tup1 (.rat (cf ps i/cf ps n)),.rat (cf ps i/cf ps n),.eq (D true),.ptr,.eq undef,.eq (D true)] [11,12] (λb v V=>DM w V [some (w.heap.size,.cell 25 (C c la d)),some (w.heap.size+1,.rat 0),some (w.heap.size+1+1,.rat (EH ps i)),nb b v 0 1 (.rat 0) (.rat (cf ps i/cf ps n))]) (l.o.none).drew (Pu (.vl J λ_ j=>E5 0 j)<|Pu (.vl J λ_ _=>mv)<|Pu (.cl λh j=>c2 (h.e 0) (h.e 1) (by have q:=X9 _ ps (i:Int) _ (HP.o _ j.2.2);rw[IG]at q;exact q))<|Pu (.vl J λ_ j=>E5 0 j)<|Pu (.vl J λ_ j=>E5 0 j)<|Pu (.cl λh j=>c1 (h.e 4) (rv (A.o _ j.2.2)))<|Pu (.cl λh j=>c2 (h.e 3) (h.e 5) (by have q:=X9 _ ps (n:Int) _ (HP.o _ j.2.2);rw[IG]at q;exact q))<|Pu (.cl λh _=>Nb (Qm.o ▸ P7 _ _ (cf ps i) (cf ps n) _ (h.g 2) (h.g 6) (Qf.o.at i) (Qf.o.at n)))<|Pu (.vl J λh _=>mw (h.g 7))<|Pu (.vl J λh _=>Nj (h.g 8))<|Pu (.vl J λh _=>Nk (h.g 8))<|Pu (.wr J λ_ j=>Nf 3 j)<|Pu (.wr J λh j=>LG 3 j (h.g 9) (hp:=h.g 11))<|Pu (.vl J λh _=>aw (h.g 10)) Stp.end_)
     λf V2 hF a=>?_
    refine DS ?_;rw[hF.e 0,hF.e 1,hF.e 3,hF.e 4,hF.e 5,hF.e 10,hF.e 13];obtain⟨B3,R⟩:=hF.p 11;have a:=Dz a;simp only[R]at a;rw[R];have M3:=Z a;clear a hF R;clear l;go_upto_region 6 with fail
    refine YB Dj [[],[],[1],[0,2,2],[3,3,0,1,2,3]] [.rat (EH ps i),.rat (cf ps i/cf ps n),.rat (Yt (cf ps i/cf ps n)),.rat (EH ps (i+1)),.eq undef] [4] (λb _ V=>DM w V [some (w.heap.size,.cell 25 (C c la d)),some (w.heap.size+1,.rat 0),some (w.heap.size+1+1,if b.getD 0 false then .rat (EH ps (i+1))else .rat (EH ps i)),some (B3,.rat (cf ps i/cf ps n))]) M3.o.drew (Pu (.vl J λ_ j=>Ek 2 j)<|Pu (.vl J λ_ j=>Ek 3 j)<|Pu (.cl λh _=>qp _ (cf ps i/cf ps n) _ (h.g 1) (Qo.o i))<|Pu (.cl λh _=>by have q:=qq _ _ (EH ps i) (Yt (cf ps i/cf ps n)) _ (h.g 0) (h.g 2) (Qg.o i) (Qk.o i);rw[Qi.o]at q;exact q)<|Pu (.wr J λh j=>LG 2 j (h.g 3)) Stp.end_)
     λf V5 hF a=>?_
    refine DS ?_;have a:=Dz a;have M4:=Z a;clear a hF;clear M3;go_wp2_with fail
    go_roundw
    case rel=>exact⟨i+1,O,by go_num,Z (M4.o.take 3)⟩
    case measure=>simp[intOf];omega
  . obtain rfl:i=n:=O
    have p:=Z λ(V:F)=>F6 1 O O V;have HB:=p;have r:=Z λ(V:F) (x y:G) (hx:Jk V x 1) (hy:Jk V y 1)=>I6 x y 1 1 V hx hy (Sok.of (Sm.one 1 O) O) (Sok.of (Sm.one 1 O) O);rw[show decide ((1:Int)≠0)=true from J,show Rat.divInt 1 1=1 from J]at r;go_upto_region 9 with(first
     |(go_at_call 35;refine(p.o _).mono ?_;clear p;rintro e w3 ⟨u3,rfl,t,ap⟩)
     |(go_at_call 35;refine(HB.o _).mono ?_;clear HB;rintro e w4 ⟨u4,rfl,bi,ai⟩;have t:=t.below ai)
     |(go_at_call 38;refine(r.o _ _ _ t bi).mono ?_;clear r;rintro e o ⟨u5,rfl,am,aq⟩;obtain⟨s9,K,X,M,t9,b9,W,N,rfl⟩:=Jg.form am))
    obtain⟨V6,T⟩:=ex (o.alloc (L #[D s9,C K X M,D t9,C b9 W N] 41));obtain⟨B6,S⟩:=ex (o.heap.size);have a:DM w (o.alloc (L #[D s9,C K X M,D t9,C b9 W N] 41)) [some (w.heap.size,.cell 25 (C c la d)),some (w.heap.size+1,.rat 0),some (w.heap.size+1+1,.rat (EH ps i)),some (o.heap.size,.rat 1)]:=DM.push (((l.o.below ap).below ai).below aq) (.rat 1) am;rw[T,S]at a;rw[T];rw[S];have M3:Hid (DM w V6 [some (w.heap.size,.cell 25 (C c la d)),some (w.heap.size+1,.rat 0),some (w.heap.size+1+1,.rat (EH ps i)),some (B6,.rat 1)]):=Z (a);clear l;clear a T S;obtain⟨s7,a7,l7,c7,t7,b7,k7,d7,n7,r7,i7,j7⟩:=M3.o.rat (i:=2) J;have bj:=n7.kb;obtain⟨s8,a8,l8,c8,t8,b8,k8,d8,n8,r8,i8,j8⟩:=M3.o.rat (i:=3) J;have bm:=n8.kb;obtain⟨s9,K,X,M,t9,b9,W,N,g,r9,i9,j9⟩:=M3.o.rat (i:=1) J;have B:=g.kb;have Qj:=g.fb;have z:=Z (Kf _ _ (EH ps i) 1 V6 r7 r8 (Qg.o i) qo);rw[Qn.o]at z;go_wp2_with(go_at_call 104;refine z.o.mono ?_;clear z;rintro e w6 ⟨u6,rfl,an,hq⟩;obtain⟨s8,a8,l8,c8,t8,b8,k8,d8,rfl⟩:=Jg.form an;clear B;have B:=(g.below hq).kb;clear Qj;have Qj:=(g.below hq).fb)
    have Qp:=Bt M3.o.2.2 hq;have Ql:=M3.o.ge 1 J;exact BA (by simp[results,Tryz.results194,go_sem,B]) J ⟨_,J,an.put4 (g.below hq) J J J J _ _ _ _,Jw Qp Ql _ _ _ _⟩
def Yz(B:Rat):Nat->Nat->Nat
 |0,i=>i
 |n+1,i=>if(2:Rat)^i<B then Yz B n (i+1)else i
structure ArOk(X k:Nat)(p:List Rat):Prop where
 tp:Jc p=p
 p0:p≠[]
 sp:Sqs p
 sr:∀i,Sq (cf p i/cf p (p.length-1))
 sb:Sq (Yh p)
 sx:∀i,i<=k->DV X ((2:Rat)^i)
 x2:X+X+2<=1000000000
 stop:¬(2:Rat)^(Yz (Yh p) k 0)<Yh p
def ArI(w:F)(B2 B3 B4 k:Nat)(B:Rat)(n:Nat)(V:F):Prop:=
 ∃i,i+n=k/\Yz B n i=Yz B k 0/\Bx V B2 44 #[D false,C none 0 0,D false,C none 0 0,D false,C none 0 0,D false,C none 0 0]/\DM w V [some (B3,.rat B),some (B4,.rat ((2:Rat)^i))]/\Bl w V
def sU{V:F}{B:Nat}{cs:Array G}(h:Bx V B 44 cs)(x0 x1 x2 x3 y0 y1 y2 y3:G):Kp V ((((((((V.setCell ⟨B,0,none⟩ x0).setCell ⟨B,1,none⟩ x1).setCell ⟨B,2,none⟩ x2).setCell ⟨B,3,none⟩ x3).setCell ⟨B,4,none⟩ y0).setCell ⟨B,5,none⟩ y1).setCell ⟨B,6,none⟩ y2).setCell ⟨B,7,none⟩ y3):=
 (((((((KH h 0 x0).trans (KH (h.set 0 x0) 1 x1)).trans (KH ((h.set 0 x0).set 1 x1) 2 x2)).trans (KH (((h.set 0 x0).set 1 x1).set 2 x2) 3 x3)).trans (KH ((((h.set 0 x0).set 1 x1).set 2 x2).set 3 x3) 4 y0)).trans (KH (((((h.set 0 x0).set 1 x1).set 2 x2).set 3 x3).set 4 y0) 5 y1)).trans (KH ((((((h.set 0 x0).set 1 x1).set 2 x2).set 3 x3).set 4 y0).set 5 y1) 6 y2)).trans (KH (((((((h.set 0 x0).set 1 x1).set 2 x2).set 3 x3).set 4 y0).set 5 y1).set 6 y2) 7 y3)
def sV{n B:Nat}{w V:F}(h:Below n w V)(a:n<=B)(x0 x1 x2 x3 y0 y1 y2 y3:G):Below n w ((((((((V.setCell ⟨B,0,none⟩ x0).setCell ⟨B,1,none⟩ x1).setCell ⟨B,2,none⟩ x2).setCell ⟨B,3,none⟩ x3).setCell ⟨B,4,none⟩ y0).setCell ⟨B,5,none⟩ y1).setCell ⟨B,6,none⟩ y2).setCell ⟨B,7,none⟩ y3):=
 (((((((h.setCell (p:=⟨B,0,none⟩) a _).setCell (p:=⟨B,1,none⟩) a _).setCell (p:=⟨B,2,none⟩) a _).setCell (p:=⟨B,3,none⟩) a _).setCell (p:=⟨B,4,none⟩) a _).setCell (p:=⟨B,5,none⟩) a _).setCell (p:=⟨B,6,none⟩) a _).setCell (p:=⟨B,7,none⟩) a _
def Bx.far4{V:F}{B C:Nat}{t:TypeId}{cs:Array G}(h:Bx V C t cs)(a:C≠B)(x0 x1 x2 x3:G):Bx (put4 V B x0 x1 x2 x3) C t cs:=
 (((h.far (p:=⟨B,0,none⟩) a _).far (p:=⟨B,1,none⟩) a _).far (p:=⟨B,2,none⟩) a _).far (p:=⟨B,3,none⟩) a _
theorem sW(X k:Nat)(v:G)(p:List Rat)(w:F)(h:Jd w v p)(hs:ArOk X k p):
 Calls Tryz.prog 118 #[v] w λe w'=>∃u,e=.returned u/\Yn w' u (-((2:Rat)^Yz (Yh p) k 0)) ((2:Rat)^Yz (Yh p) k 0)/\Bl w w':=by
 obtain⟨pa,la,pc,rfl⟩:=h.form;obtain⟨W0,T⟩:=ex ((w.alloc (L #[C pa la pc] 25)).alloc (L #[D false,C none 0 0,D false,C none 0 0,D false,C none 0 0,D false,C none 0 0] 44));have Qe:Bl w W0:=by rw[<-T];exact(Ba w _).alloc (by simp only[Ax];omega) _
 have n1:Boxed W0 w.heap.size 25 (C pa la pc):=by rw[<-T];exact(BH w _ _).alloc _
 have W:Bx W0 (w.heap.size+1) 44 #[D false,C none 0 0,D false,C none 0 0,D false,C none 0 0,D false,C none 0 0]:=by
  have h:=Bx.new (w.alloc (L #[C pa la pc] 25)) 44 #[D false,C none 0 0,D false,C none 0 0,D false,C none 0 0,D false,C none 0 0];simp only[Ax]at h;rw[T]at h;exact h
 have Qj:=Z T;have b:=n1.cell;have y:=Z (sS _ p W0 (h.below Qe) hs.tp hs.p0 hs.sp hs.sr);obtain⟨B,A⟩:=ex (Yh p);obtain⟨H2,HS,Qg⟩:=Db (λ(V:F)=>Zj 1 O O V) hs A;rw[A]at y ⊢;have a:=Z (And.intro W Qe);clear h hs T Qe n1 W A;go_enter Tryz.func118,Tryz.ntmps118
 go_upto_region 1 with fail
 rw[Qj.o];go_upto_region 2 with(first
  |(go_at_call 194;refine y.o.mono ?_;rintro e w1 ⟨u1,rfl,R,aq⟩)
  |(go_at_call 195;refine(H2.o _).mono ?_;rintro e w2 ⟨u2,rfl,ap,ai⟩;have R:=R.below ai;have hq:=Bt aq ai;obtain⟨s1,a1,l1,c1,t1,b1,k1,d1,rfl⟩:=Jg.form R;obtain⟨s2,a2,l2,c2,t2,b2,k2,d2,rfl⟩:=Jg.form ap))
 have M0:DM w w2 []:=⟨λi B z h=>by simp at h,λi j B z z' h=>by simp at h,Bt a.o.2 hq⟩;have M1:=DM.push (DM.push M0 (.rat B) R) (.rat ((2:Rat)^0)) (Has.alloc (d:=.rat ((2:Rat)^0)) (show Jg _ _ ((2:Rat)^0)by rw[Rat.pow_zero];exact ap) _);simp only[Ax]at M1;obtain⟨V2,ah⟩:=ex ((w2.alloc (L #[D s1,C a1 l1 c1,D t1,C b1 k1 d1] 41)).alloc (L #[D s2,C a2 l2 c2,D t2,C b2 k2 d2] 41));obtain⟨B3,ae⟩:=ex (w2.heap.size);have M2:DM w V2 [some (B3,.rat B),some (B3+1,.rat ((2:Rat)^0))]:=by rw[<-ah,<-ae];exact M1
 have bi:w.heap.size+1<B3:=by rw[<-ae];have:=hq.size;have:=a.o.1.lt;omega
 have ML:Hid (ArI w (w.heap.size+1) B3 (B3+1) k B k V2):=Z ⟨0,O,J,by rw[<-ah];exact((a.o.1.below hq).alloc _).alloc _,M2,M2.2.2⟩;rw[ah,ae];clear M0 M1 M2 ah ae R ap hq aq ai b;go_loopw [] (λwr=>∃n,ArI w (w.heap.size+1) B3 (B3+1) k B n wr) λwr=>Classical.epsilon (IK λn=>ArI w (w.heap.size+1) B3 (B3+1) k B n wr)
 case atStart=>exact⟨k,ML.o⟩
 case round=>
  obtain⟨n0,bf⟩:=hrel;obtain⟨m,hm,_⟩:=Oc (P:=λn=>ArI w (w.heap.size+1) B3 (B3+1) k B n wr) bf;obtain⟨i,az,ay,W,M,A⟩:=hm.1;have sx:=HS.o.sx i O;have S:=Sq.of sx (by have:=HS.o.x2;omega);have Qh:Sq B:=by rw[<-Qg.o];exact HS.o.sb
  obtain⟨s3,a3,l3,c3,t3,b3,k3,d3,K,r3,_,_⟩:=M.rat (i:=0) J;obtain⟨s4,a4,l4,c4,t4,b4,k4,d4,c,r4,_,_⟩:=M.rat (i:=1) J;obtain⟨y,H2,H3⟩:=Db (XU _ _ ((2:Rat)^i) B wr r4 r3 S Qh) (λ(V:F) (h:Bl wr V)=>Kf _ _ ((2:Rat)^i) ((2:Rat)^i) V (r4.below h) (r4.below h) S S) λ(V:F) (h:Bl wr V)=>LJ _ _ 0 ((2:Rat)^i) V (XE _) (r4.below h) GS S;rw[show(2:Rat)^i+(2:Rat)^i=(2:Rat)^(i+1)by rw[Rat.pow_succ];grind]at H2;rw[show(0:Rat)-(2:Rat)^i=-((2:Rat)^i)by grind]at H3;obtain⟨z,hz⟩:=ex (Xt ((2:Rat)^i) B);rw[hz]at y;obtain⟨HZ,HN,HM,HQ,Qd,N,HF⟩:=IV (show z<0↔(2:Rat)^i<B by rw[<-hz];exact I7) (λ(V:F) (h:Bl wr V)=>And.intro (W.below h) (And.intro (K.below h) (And.intro (c.below h) (And.intro (M.below h) (r4.below h))))) hm (And.intro az ay) A (show ∀V:F,Bl wr V->V.cell? ⟨B3,0,none⟩=some (D s3)/\V.cell? ⟨B3,1,none⟩=some (C a3 l3 c3)/\V.cell? ⟨B3,2,none⟩=some (D t3)/\V.cell? ⟨B3,3,none⟩=some (C b3 k3 d3)/\V.cell? ⟨B3+1,0,none⟩=some (D s4)/\V.cell? ⟨B3+1,1,none⟩=some (C a4 l4 c4)/\V.cell? ⟨B3+1,2,none⟩=some (D t4)/\V.cell? ⟨B3+1,3,none⟩=some (C b4 k4 d4)from λV h=>⟨(K.below h).c0,(K.below h).c1,(K.below h).c2,(K.below h).c3,(c.below h).c0,(c.below h).c1,(c.below h).c2,(c.below h).c3⟩) (show ∀V:F,Bl wr V->(V.frozen? ⟨B3+1,0,none⟩=false/\V.frozen? ⟨B3+1,1,none⟩=false/\V.frozen? ⟨B3+1,2,none⟩=false/\V.frozen? ⟨B3+1,3,none⟩=false)from λV h=>⟨(c.below h).f0,(c.below h).f1,(c.below h).f2,(c.below h).f3⟩);clear bf hm az ay W M A sx S Qh K r3 c r4 hz ML;have hq:Bl wr wr:=BB _ wr;obtain⟨l,b,o,q,g0,r,s,t⟩:=N.o _ hq;obtain⟨f0,f1,f2,f3⟩:=HF.o _ hq;by_cases an:z<0
  . have hl:=HZ.o.1 an;obtain⟨x,rfl⟩:∃x,m=x+1:=by
     cases m with
     |succ x=>exact⟨x,J⟩
     |zero=>
      have f:=HQ.o.2;rw[Yz]at f;have h2:=HS.o.stop;rw[Qg.o,<-f]at h2;exact absurd hl h2
    have Qk:=Z (show Yz B x (i+1)=Yz B k 0 by have f:=HQ.o.2;rw[Yz,BF hl]at f;exact f);clear hl;go_wp2_with(first
     |(go_at_call 32;refine y.o.mono ?_;rintro e g ⟨rfl,aj⟩;have hq:=Bt hq aj;clear l b o q g0 r s t f0 f1 f2 f3;obtain⟨l,b,o,q,g0,r,s,t⟩:=N.o _ hq;obtain⟨f0,f1,f2,f3⟩:=HF.o _ hq)
     |(go_at_call 104;refine(H2.o _ hq).mono ?_;rintro e w4 ⟨u4,rfl,U,am⟩;obtain⟨s5,a5,l5,c5,t5,b5,k5,d5,rfl⟩:=Jg.form U;have hq:=Bt hq am;clear l b o q g0 r s t f0 f1 f2 f3;obtain⟨l,b,o,q,g0,r,s,t⟩:=N.o _ hq;obtain⟨f0,f1,f2,f3⟩:=HF.o _ hq))
    obtain⟨q1,q2,q3,q4,q5⟩:=HN.o _ hq;have Qf:=(show ArI w (w.heap.size+1) B3 (B3+1) k B x _ from⟨i+1,by have:=HQ.o.1;omega,Qk.o,q1.far4 (B:=B3+1) O _ _ _ _,q4.putRat (i:=1) J U,Jw (Bt Qd.o hq) O _ _ _ _⟩);go_roundw
    case rel=>exact⟨x,Qf⟩
    case measure=>exact R8 (P:=λn=>ArI w (w.heap.size+1) B3 (B3+1) k B n wr) (Q:=λn=>ArI w (w.heap.size+1) B3 (B3+1) k B n _) HM.o Qf
  . have HE:=Z (show i=Yz B k 0 by
     have f:=HQ.o.2;cases m with
      |zero=>exact f
      |succ m=>rw[Yz,BE λh=>an (HZ.o.2 h)]at f;exact f)
    obtain⟨E,hE⟩:=ex ((2:Rat)^Yz B k 0);have bg:=Z hE;go_upto_region 4 with(go_at_call 32;refine y.o.mono ?_;rintro e g ⟨rfl,aj⟩;have hq:=Bt hq aj;clear l b o q g0 r s t f0 f1 f2 f3;obtain⟨l,b,o,q,g0,r,s,t⟩:=N.o _ hq;obtain⟨f0,f1,f2,f3⟩:=HF.o _ hq)
    obtain⟨Ql,a,H4⟩:=Db (λ(V:F) (h:Bl g V)=>N.o V (Bt hq h)) (λ(V:F) (h:Bl g V)=>HN.o V (Bt hq h)) λ(V:F) (h:Bl g V)=>H3.o V (Bt hq h);have HJ:=Z (show ∀V:F,Bl g V->V.cell? ⟨w.heap.size+1,0,none⟩=some (D false)/\V.cell? ⟨w.heap.size+1,1,none⟩=some (C none 0 0)/\V.cell? ⟨w.heap.size+1,2,none⟩=some (D false)/\V.cell? ⟨w.heap.size+1,3,none⟩=some (C none 0 0)/\V.cell? ⟨w.heap.size+1,4,none⟩=some (D false)/\V.cell? ⟨w.heap.size+1,5,none⟩=some (C none 0 0)/\V.cell? ⟨w.heap.size+1,6,none⟩=some (D false)/\V.cell? ⟨w.heap.size+1,7,none⟩=some (C none 0 0)/\∀i,V.frozen? ⟨w.heap.size+1,i,none⟩=false from λV h=>⟨(a.o V h).1.c J,(a.o V h).1.c J,(a.o V h).1.c J,(a.o V h).1.c J,(a.o V h).1.c J,(a.o V h).1.c J,(a.o V h).1.c J,(a.o V h).1.c J,λi=>(a.o V h).1.f i⟩);have Qi:=Z (Bt Qd.o hq);have bj:¬w.heap.size+1=B3+1:=O
    have bm:¬B3+1=w.heap.size+1:=O
    clear hq f0 f1 f2 f3 hE an;obtain⟨j0,j1,j2,j3,j4,j5,j6,j7,fj⟩:=HJ.o _ (BB _ g);have hq:Bl g g.drew:=(BB _ g).drew;go_region_held3 (λw'=>w'.cell? ⟨B3+1,0,none⟩=some (D s4)/\w'.cell? ⟨B3+1,1,none⟩=some (C a4 l4 c4)/\w'.cell? ⟨B3+1,2,none⟩=some (D t4)/\w'.cell? ⟨B3+1,3,none⟩=some (C b4 k4 d4)) (first|grind|(go_keep;done)|(refine⟨?_,?_,?_,?_⟩<;>((repeat rw[JQ O]);omega)))
     (first
      |(go_at_call 41;refine(H4.o _ hq).mono ?_;rintro e w4 ⟨u4,rfl,U,am⟩;obtain⟨s5,a5,l5,c5,t5,b5,k5,d5,rfl⟩:=Jg.form U;have hq:=Bt hq am;clear l b o q g0 r s t j0 j1 j2 j3 j4 j5 j6 j7 fj;obtain⟨l,b,o,q,g0,r,s,t⟩:=Ql.o _ hq;obtain⟨j0,j1,j2,j3,j4,j5,j6,j7,fj⟩:=HJ.o _ hq))
    go_wp2_with fail
    obtain⟨q1,q2,q3,q4,q5⟩:=a.o _ hq;have kk:=sU q1 (D s5) (C a5 l5 c5) (D t5) (C b5 k5 d5) (D s4) (C a4 l4 c4) (D t4) (C b4 k4 d4);exact BA (v:=I #[D s5,C a5 l5 c5,D t5,C b5 k5 d5,D s4,C a4 l4 c4,D t4,C b4 k4 d4]) (by simp[results,Tryz.results118,go_sem,j0,j1,j2,j3,j4,j5,j6,j7]) J ⟨_,J,by rw[<-HE.o];exact⟨_,_,_,_,_,_,_,_,J,kk.rat U,kk.rat q5⟩,sV (Bt Qi.o hq) O _ _ _ _ _ _ _ _⟩
