import Derived.Test.YthnpdhlepglmlaaGreatDoorV40
set_option linter.all false
open Go.Value renaming slice->C,bool->D,int->E,agg->N,pointer->R
open Go renaming World->F,Value->G
open Go.IntKind renaming i64->H
open Go.Proofs.Tryz renaming prog->I
set_option maxRecDepth 99999
set_option maxHeartbeats 0
namespace Go.Proofs.YthnpdhlepglmlaaGreatDoor
open Rat renaming divInt->yB
open Proofs.Tryz
open Go.RowKit Go.Shelf
attribute [local go_sem] Oper.semAt_some
section
structure RtOk(J K X:Nat)(p:Ja):Prop where
 rok:RwOk J K p
 fit:(DL p).length*(Db K (DL p) (Jb (DL p))+1+X+1)+1+X<=1000000000
variable{J K:Nat}
def tS{p:Ja}(h:RwOk J K p):∀(n:Nat) (a b:Ja),b.length<=n->Shn (DL p) (Jb (DL p)) (Db K (DL p) (Jb (DL p))) 500000000 a b->∀y∈Eb n a b,Cd (Db K (DL p) (Jb (DL p))+1) y/\y.length<=(DL p).length:=by
 intro n;induction n with
 |zero=>
  intro a b _ hs y c
  have:y=a:=by simpa[Eb]using c
  subst this;exact⟨hs.ca,hs.la⟩
 |succ n d=>
  intro a b hn hs y c;by_cases b0:b=[]
  . rw[Eb,BF b0]at c
    have:y=a:=by simpa using c
    subst this;exact⟨hs.ca,hs.la⟩
  . rw[Eb,BE b0]at c;rcases FI.1 c with rfl|c
    . exact⟨hs.ca,hs.la⟩
    . obtain⟨c0,cl⟩:=TI hs.tb b0;have l2:=(Xb a (Yy b) (Np b) c0).2.1;have e:=TJ (-1) (J5 a (Yy b));exact d _ _ O (h.next hs b0) y c
def RtOk.row{X:Nat}{p:Ja}(h:RtOk J K X p):∀y∈EZ p,y≠[]/\∀x,DS X x->Sqs y/\M3.LQ y x:=by
 intro y b;obtain⟨a,c⟩:=tS h.rok _ _ _ (Aa _) h.rok.start y b;have f:=h.fit;have d:=Ag.2 h.rok.f0;have g:y.length*(Db K (DL p) (Jb (DL p))+1+X+1)<=(DL p).length*(Db K (DL p) (Jb (DL p))+1+X+1):=Af _ c;have i:1*(Db K (DL p) (Jb (DL p))+1+X+1)<=(DL p).length*(Db K (DL p) (Jb (DL p))+1+X+1):=Af _ d;exact⟨(qZ h.rok.fr.ch.tp h.rok.p0 y b).2,λx e=>⟨a.sqs O,Pb e a.smq O⟩⟩
end
def eP:Ja:=[-2,0,1]
section
variable{S:Ja}{l:List UInt8}{k n:Nat}{c:Rat}
def bV(h:l.all DX=true):num l<10^l.length:=by
 have:=YZ (OC h);rwa[MY]at this
def Fr(x:Nat)(c:Rat):Prop:=∃(a b:Nat) (y z:Nat),c=yB a b/\a<=10^y/\b<=10^z/\b≠0/\y+z<=x
def Fr.mono{x y:Nat}(h:Fr x c)(j:x<=y):Fr y c:=by
 obtain⟨a,b,u,v,d,e,f,g,i⟩:=h;exact⟨a,b,u,v,d,e,f,g,O⟩
theorem Fr.one:Fr 0 1:=⟨1,1,0,0,DK,DK,DK,DK,DK⟩
def tT{i:Nat}(hi:i<=l.length)(h:Ec l i=.ok c k):Fr (k-i) c:=by
 unfold Ec at h;split at h
 . cases h
 . rename_i ds p a f;have b:=I8 hi f;have r:=It l a;have o:=bV b.2.2.2.2.2.2.2.2;rw[b.2.2.2.2.2.2.2.1]at o;split at h
   . rename_i d;have d:=Y1 d;split at h
     . cases h
     . rename_i es q m j;have e:=I8 O j;have n:=bV e.2.2.2.2.2.2.2.2;rw[e.2.2.2.2.2.2.2.1]at n;split at h
       . cases h
       . rename_i g;cases h;exact⟨num ds,num es,a-p,k-q,rfl,O,O,g,O⟩
   . cases h;exact⟨num ds,1,a-p,0,(Wp _).symm,O,DK,DK,O⟩
def tU{i:Nat}(hi:i<=l.length)(h:X3 l i=.ok (c,n) k):Fr (k-i) c:=by
 unfold X3 at h;have o:=It l i;have d:=G9 hi;split at h
 . split at h
   . cases h
   . rename_i c' g b;have j:=QU d b;have a:=tT d b;have p:=It l g;split at h
     . rename_i e;have e:=Y1 e;split at h
       . cases h
       . rename_i n' m f;have q:=QV O f;cases h;exact a.mono O
     . cases h;exact a.mono O
 . split at h
   . split at h
     . cases h
     . cases h;exact Fr.one.mono O
   . cases h
def Hm(i:Nat)(S:Ja):Prop:=S.length=9/\∃D:Int,D≠0/\D.natAbs<=10^i/\∀j,∃z:Int,z.natAbs<=10^i/\cf S j=yB z D
theorem Hm.mono{i:Nat}(h:Hm i S)(hk:i<=k):Hm k S:=by
 obtain⟨a,D,b,d,c⟩:=h;have hp:(10:Nat)^i<=10^k:=AB O hk;exact⟨a,D,b,O,λj=>by obtain⟨z,e,f⟩:=c j;grind⟩
def Hm.start(i:Nat):Hm i (List.replicate 9 0):=⟨rfl,1,DK,DH,λj=>⟨0,DI,by rw[Ya,Rat.zero_divInt]⟩⟩
theorem Hm.next{i x:Nat}(h:Hm i S)(s:Fr x c)(hn:n<=8)(b:Bool):Hm (i+x+1) (S.set n (if b then cf S n-c else cf S n+c)):=by
 obtain⟨p,D,q,f,g⟩:=h;obtain⟨a,d,y,z,rfl,r,t,B,K⟩:=s;have o:(d:Int)≠0:=O
 have p1:(10:Nat)^i*10^z<=10^(i+x):=by rw[<-C9];exact AB O O
 have u:(10:Nat)^y*10^i<=10^(i+x):=by rw[<-C9];exact AB O O
 have L:(10:Nat)^(i+x+1)=10*10^(i+x):=by rw[Cy,A4]
 have e:∀w:Int,w.natAbs<=10^i->(w*(d:Int)).natAbs<=10^(i+x):=λw e=>by
  rw[Cx,AR];exact Ae (CE e t) p1
 have A:((a:Int)*D).natAbs<=10^(i+x):=by
  rw[Cx,AR];exact Ae (CE r f) u
 refine⟨DH,D*d,CG q o,by have:=e D f;omega,λj=>?_⟩;rw[G8 _ _ _ _ (by rw[p];omega)];by_cases m:j=n
 . rw[BF m];obtain⟨w,k,l⟩:=g n;have v:=e w k;rw[l];cases b with
   |true=>
    refine⟨w*d-a*D,O,?_⟩;grind[Rat.neg_divInt,FT]
   |false=>
    refine⟨w*d+a*D,O,?_⟩;grind[FT]
 . rw[BE m];obtain⟨w,k,l⟩:=g j;grind[FF]
def bW:∀(f:Nat) (b:Bool) (I:Nat) (S d:Ja) (k:Nat),I<=l.length->Hm I S->GC l f b I S=.ok d k->Hm (l.length+1) d:=by
 intro f;induction f with
 |zero=>intro b I S d k _ _ h;cases h
 |succ f o=>
  intro b I S d k m r h;cases g:X3 l I with
  |error e p=>rw[Rv g]at h;cases h
  |ok a s=>
   obtain⟨c,n⟩:=a;have q:=QW m g;have i:=r.next (tU m g) q.2.2 b;have t:=It l s;rw[Rw g]at h;split at h
   . rename_i j;have:=Y1 j;exact o _ _ _ _ _ O (i.mono O) h
   . split at h
     . rename_i j;have:=Y1 j;exact o _ _ _ _ _ O (i.mono O) h
     . split at h
       . cases h;exact i.mono O
       . cases h
def tV(h:Et l=.ok S k):Hm (l.length+1) S:=by
 unfold Et at h;have a:=G9 (l:=l) (i:=0) O;split at h
 . rename_i b;have:=Y1 b;exact bW _ _ _ _ _ _ O (Hm.start _) h
 . exact bW _ _ _ _ _ _ a (Hm.start _) h
def tW(a b c:Nat)(h:a*b<64*c):((2:Nat)^a)^b<Y^c:=by
 rw[show Y=2^64 from by decide,<-Fv,<-Fv];exact FZ O h
def tX(h:n<=43*k)(hk:k<=7):(10:Nat)^n<Y^16:=by
 have b:((10:Nat)^43)^k<=(2^143)^k:=CP DK k;have a:(10:Nat)^n<=10^(43*k):=AB O h;rw[Fv]at a;exact CO (Ae a b) (tW 143 k 16 O)
theorem tY(l:List UInt8):∃D:Int,D≠0/\Sm 16 D/\EQ D 16 (Xy l).1:=by
 have b:∃D:Int,D≠0/\Sm 16 D/\EQ D 16 []:=⟨1,DK,Sm.one _ O,λi=>by rw[XH];exact CD.zero _ _⟩;by_cases h:300<l.length
 . grind[Xy]
 . rw[O2 h];cases a:Et l with
   |error e p=>exact b
   |ok S k=>
    rw[show(NC (EStateM.Result.ok S k)).1=Jc S from rfl];obtain⟨_,D,c,g,d⟩:=tV a;have a:=tX (n:=l.length+1) (k:=7) O O;exact⟨D,c,by unfold Sm;omega,λi=>by
     obtain⟨z,j,f⟩:=d i;exact⟨z,by rw[Yv];exact f,by unfold Sm;omega⟩⟩
def bX(l:List UInt8):Jc (Xy l).1=(Xy l).1:=by
 by_cases h:300<l.length
 . rw[show Xy l=([],1,0)by unfold Xy;rw[BF h]];rfl
 . rw[O2 h];cases Et l with
   |error e p=>rfl
   |ok S k=>exact Yn _
def bY(s:ByteArray)(w:F):
 Calls I 6 #[.string s] w λe w'=>∃u,e=.returned u/\Je w' u (Xy (Jj s)).1/\Bl w w':=by
 have l:=Z λ(V:F)=>ZL s V;have b0:=BH w 25 (C none 0 0);have c:Bl w (w.alloc (.cells #[C none 0 0] 25)):=Ba w _;obtain⟨y,i⟩:=ex (w.alloc (.cells #[C none 0 0] 25));obtain⟨o,f⟩:=ex (w.heap.size);rw[i]at b0 c;rw[f]at b0;obtain⟨q,m,x,n⟩:=Dx b0 c i f;clear b0 c i f;go_enter func6,ntmps6
 go_upto_region 1 with fail
 rw[x.o,n.o];go_upto_region 2 with(go_at_call 14;refine(l.o _).mono ?_;clear l;rintro e w1 ⟨u,A,p1,rfl,⟨rfl,rfl,j⟩,hb⟩;obtain⟨a,l1,c1,rfl⟩:=j.form)
 have hA:Bl w1 (w1.alloc (.cells #[C a l1 c1] 25)):=Ba w1 _;have k:=BH w1 25 (C a l1 c1);have n0:=(q.o.bel hb).bel hA;have r1:=j.row.below hA;have d:=(Bt m.o hb).trans (hA.mono (Bt m.o hb).size);obtain⟨z,b⟩:=ex (w1.alloc (.cells #[C a l1 c1] 25));obtain⟨B1,g⟩:=ex (w1.heap.size);rw[b,g]at k;rw[b]at n0 r1 d;rw[b,g];have x1:=k.cell;have x0:=n0.cell;have f0:=n0.frozen;have r:=Z (GM n0 (C a l1 c1) r1);have t:=Z (d.setCell (p:=⟨o,0,none⟩) (by rw[n.o];exact Aa _) (C a l1 c1));clear hA k n0 r1 d b g j hb;go_wp2_with fail
 exact BA (v:=N #[C a l1 c1]) (by simp[results,results6,go_sem,x0]) rfl ⟨_,rfl,⟨_,rfl,r.o⟩,t.o⟩
end
section
variable{M:Nat}
def TK(l:List UInt8):Cd 16 (Xy l).1:=tY l
def Cd.mul{M N:Nat}{p q:Ja}(h:Cd M p)(g:Cd N q):Cd (M+N+p.length) (Ji p q):=by
 obtain⟨D,d1,b,c⟩:=h;obtain⟨E,d,e,f⟩:=g;have a:D*E≠0:=CG d1 d;exact⟨D*E,a,(b.mul e).mono O,λi=>oo a (λi j=>(c i).mul (f j)) i⟩
def Cd.times{N:Nat}{p q:Ja}(h:Cd M p)(f:Cd N q)(hl:M+N+p.length+1<=1000000000):M3.LP p q:=by
 obtain⟨D,d1,a,b⟩:=h;obtain⟨E,c,d,e⟩:=f;exact oj (CG d1 c) ((a.mul d).mono O) (λi j=>(b i).mul (e j)) hl
theorem Cd.slope{p:Ja}(h:Cd M p)(hl:p.length<=1000000000):Cd (M+1) (Jb p):=by
 obtain⟨D,d1,a,b⟩:=h;refine⟨D,d1,a.mono O,λi=>?_⟩;rw[XQ];by_cases hi:i+1<p.length
 . have c:=(b (i+1)).mul (E:=1) (M:=1) (d:=(((i+1:Nat):Int):Rat)) ⟨((i+1:Nat):Int),by rw[AC,show((1:Int):Rat)=1 from rfl];grind,by unfold Sm Y;rw[AR];omega⟩;rwa[F8]at c
 . rw[Yt O,Cs];exact CD.zero _ _
namespace M3
def bZ(a b:G)(ps qs:Ja)(w:F)(g:Je w a ps)(hb:Je w b qs)(k:Sqs ps)(l:Sqs qs)(j:LP ps qs)(i:ps.length+qs.length<=1099511627776):
 Calls I 7 #[a,b] w λe w'=>∃u,e=.returned u/\Je w' u (Ji ps qs)/\Bl w w':=by
 refine(mm a b ps qs w g hb k l j i).mono ?_;rintro e w' ⟨u,c,d,_,f⟩;exact⟨u,c,d,f⟩
theorem ChOk.of{K:Nat}{p q:Ja}(tp:Jc p=p)(tq:Jc q=q)(cp:Cd K p)(cq:Cd K q){n:Nat}(lp:p.length<=n)(lq:q.length<=n)(hle:4*((n+2)*((K+1)*(n+n+1)+1))<=1000000000)(hn:n<=1000):ChOk K p q:=by
 refine⟨tp,tq,cp,cq,?_,O⟩;have a:Db K p q<=(K+1)*(n+n+1):=Am _ O;have b:(max p.length q.length+2)*(Db K p q+1)<=(n+2)*((K+1)*(n+n+1)+1):=CE O O;omega
end M3
end
def bp(l:Ja):DM l<=l.length:=Ae (PQ l) O
namespace M3
theorem br(A l X g cap:Nat)(v:G)(row:List Ja)(a b:Rat)(w:F)(hE:Ex w g row.length λj=>row.getD j [])(h:Yq w v a b)(f:RowOk A l row)(Q:DS X a)(hb:DS X b)(M:A+l*(X+2)+X+A<=10000000000):
 Calls I 115 #[C (some ⟨g,0,none⟩) row.length cap,v] w λe w'=>e=.returned (E H (E9 row a b))/\Bl w w':=by
 obtain⟨r,s,t,u,x,y,z,B,rfl,T,S⟩:=h;obtain⟨W0,q⟩:=ex (w.alloc (.cells #[r,s,t,u,x,y,z,B] 58));have c:Bl w W0:=by rw[<-q];exact(Ba w _)
 have np:Bx W0 (w.heap.size) 58 #[r,s,t,u,x,y,z,B]:=by
  have h:=Bx.new w 58 #[r,s,t,u,x,y,z,B];rw[q]at h;exact h
 obtain⟨P,o,p⟩:=DZ q (λ(V:F) (h:Bl W0 V)=>bT A l X g cap _ row a V ((hE.below c).below h) ((T.below c).below h) f Q M) λ(V:F) (h:Bl W0 V)=>bT A l X g cap _ row b V ((hE.below c).below h) ((S.below c).below h) f hb M;obtain⟨m,L⟩:=ex (DM (JE row a));obtain⟨k,hk⟩:=ex (DM (JE row b));have Qd:(m:Int)<=1000000:=by have h1:=bp (JE row a);have h2:=f.n;grind[JE]
 have Qe:(k:Int)<=1000000:=by have h1:=bp (JE row b);have h2:=f.n;grind[JE]
 have U:=Z (show E9 row a b=(m:Int)-(k:Int)by unfold E9;rw[L,hk]);rw[L]at o;rw[hk]at p;rw[U.o];obtain⟨n,hn⟩:=ex (row.length);rw[hn]at o p ⊢;have ai:H.wrap ((m:Int)-(k:Int))=(m:Int)-(k:Int):=by rw[BG];omega
 have K:=Z λ(V:F) (h:Bl W0 V)=>(np.below h).all;have W:=Z c;clear hE f Q hb M T S np q c L hk hn Qd Qe;have hq:Bl W0 W0.drew:=(BB _ W0).drew;have d:=K.o _ (BB _ W0);go_enter func115,ntmps115
 go_upto_region 1 with fail
 rw[P.o];clear P;go_region_held3 (λw'=>∀i,w'.cell? ⟨w.heap.size,i,none⟩=#[r,s,t,u,x,y,z,B][i]?) (first|(with_reducible exact d)|(go_keep;done)|(refine⟨?_,?_,?_,?_,?_,?_,?_,?_⟩<;>((repeat rw[JO O]);first|assumption|(go_keep;done))))
  (first
   |(go_at_call 186;refine(o.o _ hq).mono ?_;clear o;rintro e w1 ⟨rfl,ae⟩;have hq:=Bt hq ae;clear d;have d:=K.o _ hq)
   |(go_at_call 186;refine(p.o _ hq).mono ?_;clear p;rintro e w2 ⟨rfl,ah⟩;have hq:=Bt hq ah;clear d;have d:=K.o _ hq))
 go_wp2_with fail
 go_ret;exact⟨rfl,Bt W.o hq⟩
structure SnOk(K A l X:Nat)(r:RtQ)(q:Ja):Prop where
 sq:Sqs q
 atk:¬r.lo<r.hi->LQ q r.lo/\Sq (ev q r.lo)
 sw:Sqs r.w
 sl:∀i,Sq (IB r.w i)
 ss:Sqs (Jb r.w)
 tm:LP (Jb r.w) q
 ln:(Jb r.w).length+q.length<=1099511627776
 ch:ChOk K r.w (Ji (Jb r.w) q)
 row:RowOk A l (Xk r.w (Ji (Jb r.w) q))
 w0:r.w≠[]
 sz:A+l*(X+2)+X+A<=10000000000
def bv(p q:Ja):Xk p q≠[]:=by
 unfold Xk ET;cases(Jn q).length with
 |zero=>simp[Gf]
 |succ n=>
  rw[Gf];split<;>simp
theorem tZ(K A l X J:Nat)(v vq:G)(r:RtQ)(q:Ja)(w:F)(h:JJ w v r)(hq:Je w vq q)(hz:RzOk J X r)(hs:SnOk K A l X r q):
 Calls I 124 #[v,vq] w λe w'=>e=.returned (E H (r.sign q))/\Bl w w':=by
 have h0:=h;have Qk:=hq;obtain⟨aj,am,an,ap,aq,ay,az,bg,x,B,z,rfl,bm,bj,pw⟩:=h;obtain⟨L,P,M,rfl⟩:=Je.form hq;obtain⟨W0,bi,np,nq,s⟩:=Kv w 60 25 #[aj,am,an,ap,aq,ay,az,bg,C x B z,E H r.sg,E H (r.tm:Int)] #[C L P M];obtain⟨Qd,m,o,Qc⟩:=Dx bi (λ(V:F) (h:Bl W0 V)=>Pa J X _ r V ((h0.below s).below h) hz) (λ(V:F) (h:Bl W0 V)=>Ao (np.below h).all ((nq.below h).all)) s;obtain⟨n,hn⟩:=ex (r.sign q);rw[hn];obtain⟨HN,Q,S,d⟩:=Dx hn (λ(V:F) (h:Bl W0 V)=>Ao ((Qk.below s).below h) (Ao ((pw.below s).below h) (show Yq V (N #[aj,am,an,ap,aq,ay,az,bg]) r.lo r.hi from⟨_,_,_,_,_,_,_,_,rfl,(bm.below s).below h,(bj.below s).below h⟩))) hz hs;clear hz hs bm bj pw h0 Qk np nq bi s hn;have hq:Bl W0 W0:=BB _ W0;obtain⟨a,b⟩:=o.o _ hq;by_cases k:r.lo<r.hi
 . have hd:decide (¬r.lo<r.hi)=false:=BK λh=>h k;rw[hd]at m;clear hd;go_enter func124,ntmps124
   go_upto_region 1 with fail
   rw[Qd.o];clear Qd;go_upto_region 2 with(go_at_call 23;refine(m.o _ hq).mono ?_;clear m;rintro e w1 ⟨u1,rfl,u,ae⟩;have hq:=Bt hq ae;obtain⟨s9,T,l9,U,t9,b9,k9,W,rfl⟩:=Jf.form u;clear a b;obtain⟨a,b⟩:=o.o _ hq)
   obtain⟨c,f⟩:=ex (w1.alloc (.cells #[D s9,C T l9 U,D t9,C b9 k9 W] 50));obtain⟨B5,t⟩:=ex (w1.heap.size);have p:Bl w1 c:=by rw[<-f];exact Ba w1 _
   have n5:JQ c B5 50 (D s9) (C T l9 U) (D t9) (C b9 k9 W):=by rw[<-f,<-t];exact JQ.new w1 _ _ _ _ _
   have r5:=u.below p;rw[f,t];have hq:=Bt hq p
   clear a b;obtain⟨a,b⟩:=o.o _ hq;clear f t n5 r5 u p;obtain⟨Qj,Ql,Qm,Qg⟩:=Dx (λ(V:F) (h:Bl c V)=>O8 _ r.w V (Q.o V (Bt hq h)).2.1 d.o.sw d.o.sl) (λ(V:F) (h:Bl c V) (y:G) (hy:Je V y (Jb r.w))=>bZ y _ (Jb r.w) q V hy (Q.o V (Bt hq h)).1 d.o.ss d.o.sq d.o.tm d.o.ln) (λ(V:F) (h:Bl c V) (y:G) (hy:Je V y (Ji (Jb r.w) q))=>bN _ y r.w _ V (Q.o V (Bt hq h)).2.1 hy) λ(V:F) (Bp Bq:Nat) (x L:om) (B z P M:Nat) (h1:Dd V Bp x B z) (h2:Dd V Bq L P M) (h3:Je V (N #[C x B z]) r.w) (h4:Je V (N #[C L P M]) (Ji (Jb r.w) q))=>bO K Bp Bq x L B z P M r.w (Ji (Jb r.w) q) V d.o.ch h1 h2 h3 h4;obtain⟨R,hR⟩:=ex (Xk r.w (Ji (Jb r.w) q));have Qp:=Z (show RowOk A l R by rw[<-hR];exact d.o.row);have Qq:=Z (show E9 R r.lo r.hi=n by rw[<-HN.o,<-hR];unfold RtQ.sign;rw[BF k]);rw[hR]at Qg;have Qn:=Z (show R≠[]by rw[<-hR];exact bv _ _);have Qh:=Z λ(V:F) (h:Bl c V) (g cap:Nat) (hE:Ex V g R.length λj=>R.getD j [])=>br A l X g cap _ R r.lo r.hi V hE (Q.o V (Bt hq h)).2.2 Qp.o S.o.lo S.o.hi d.o.sz;rw[Qq.o]at Qh;have Qe:=Z λ(V:F) (h:Bl c V)=>o.o V (Bt hq h);have Qb:=Z (Bt Qc.o hq);clear hR HN S o hq k;go_upto_region 4 with fail
   have hq:Bl c c.drew:=(BB _ c).drew;go_region_held3 (λw'=>(∀i,w'.cell? ⟨w.heap.size,i,none⟩=#[aj,am,an,ap,aq,ay,az,bg,C x B z,E H r.sg,E H (r.tm:Int)][i]?)/\(∀i,w'.cell? ⟨w.heap.size+1,i,none⟩=#[C L P M][i]?)) (first|grind|(go_keep;done)|(refine⟨?_,?_,?_,?_,?_,?_,?_,?_,?_,?_,?_,?_⟩<;>((repeat rw[JO O]);first|assumption|(go_keep;done))))
    (first
     |(go_at_call 110;refine(Qj.o _ hq).mono ?_;clear Qj;rintro e w5 ⟨v5,rfl,g5,ah⟩;have hq:=Bt hq ah;clear a b;obtain⟨a,b⟩:=Qe.o _ hq)
     |(go_at_call 7;refine(Ql.o _ hq _ g5).mono ?_;clear Ql g5;rintro e w6 ⟨v6,rfl,g6,ai⟩;have hq:=Bt hq ai;clear a b;obtain⟨a,b⟩:=Qe.o _ hq)
     |(go_at_call 113;refine(Qm.o _ hq _ g6).mono ?_;clear Qm g6;rintro e w7 ⟨Bp,Bq,xa,xl,xc,ya,yl,yc,rfl,k1,k2,k3,k4,bn⟩;have hq:=Bt hq bn;clear a b;obtain⟨a,b⟩:=Qe.o _ hq)
     |(go_at_call 112;refine(Qg.o _ _ _ _ _ _ _ _ _ k1 k2 k3 k4).mono ?_;clear Qg k1 k2 k3 k4;rintro e w8 ⟨v8,co,rfl,o8,p8,bu⟩;have hq:=Bt hq bu;obtain⟨g,cap,rfl,hg,cj,cn,hE⟩:=Gs.els o8 p8 Qn.o;clear o8 p8;clear a b;obtain⟨a,b⟩:=Qe.o _ hq))
   have HE:=Z hE;clear hE hg cj cn;go_wp2_with(go_at_call 115;refine(Qh.o _ hq _ _ HE.o).mono ?_;clear Qh;rintro e w9 ⟨rfl,bz⟩;have hq:=Bt hq bz)
   go_ret;exact⟨rfl,Bt Qb.o hq⟩
 . have hd:=BI k;rw[hd]at m;clear hd;have HV:=Z (show Gx r=r.lo by unfold Gx;rw[BE k]);rw[HV.o]at m;have Qo:=Z (show Yw (ev q r.lo) 0=n by rw[<-HN.o,L4];unfold RtQ.sign;rw[BE k]);go_enter func124,ntmps124
   go_upto_region 1 with fail
   rw[Qd.o];clear Qd;go_upto_region 2 with(go_at_call 23;refine(m.o _ hq).mono ?_;clear m;rintro e w1 ⟨u1,rfl,u,ae⟩;have hq:=Bt hq ae;obtain⟨s9,T,l9,U,t9,b9,k9,W,rfl⟩:=Jf.form u;clear a b;obtain⟨a,b⟩:=o.o _ hq)
   obtain⟨c,f⟩:=ex (w1.alloc (.cells #[D s9,C T l9 U,D t9,C b9 k9 W] 50));obtain⟨B5,t⟩:=ex (w1.heap.size);have p:Bl w1 c:=by rw[<-f];exact Ba w1 _
   have n5:JQ c B5 50 (D s9) (C T l9 U) (D t9) (C b9 k9 W):=by rw[<-f,<-t];exact JQ.new w1 _ _ _ _ _
   have r5:=u.below p;rw[f,t];have hq:=Bt hq p
   clear a b;obtain⟨a,b⟩:=o.o _ hq;obtain⟨de,df,dh,di⟩:=n5.cq;have Qi:=Z (WU _ _ q r.lo c (Q.o c hq).1 r5 d.o.sq (Sq.of S.o.lo (by have:=S.o.x2;omega)) (d.o.atk k).1);have Qf:=Z λ(V:F) (y:G) (hy:Jf V y (ev q r.lo))=>Xd y _ (ev q r.lo) 0 V hy (XF _) (d.o.atk k).2 GF;rw[Qo.o]at Qf;have Qb:=Z (Bt Qc.o hq);clear f t n5 r5 u p hq k;go_wp2_with(first
    |(go_at_call 20;refine Qi.o.mono ?_;clear Qi;rintro e w5 ⟨v5,rfl,g5,ah⟩)
    |(go_at_call 21;refine(Qf.o _ _ g5).mono ?_;clear Qf g5;rintro e w6 ⟨rfl,ai⟩;have hq:=Bt ah ai))
   go_ret;exact⟨rfl,Bt Qb.o hq⟩
theorem th(K A l X J:Nat)(v vs:G)(r s:RtQ)(w:F)(h:JJ w v r)(hv:JJ w vs s)(hz:RzOk J X r)(hy:RzOk J X s)(hs:SnOk K A l X r s.w)(hg:-1<=s.sg/\s.sg<=1)(hb:-1000000<=r.sign s.w/\r.sign s.w<=1000000):
 Calls I 53 #[v,vs] w λe w'=>e=.returned (E H (r.ord s))/\Bl w w':=by
 have h0:=h;have Qe:=hv;obtain⟨ai,aj,am,an,ap,aq,ay,az,pa,pl,pc,rfl,dh,df,pw⟩:=h;obtain⟨bj,bm,bn,bu,bz,cj,cn,co,qa,ql,qc,rfl,bi,bg,qw⟩:=hv;obtain⟨W0,ah,np,nq,L⟩:=Kv w 60 60 #[ai,aj,am,an,ap,aq,ay,az,C pa pl pc,E H r.sg,E H (r.tm:Int)] #[bj,bm,bn,bu,bz,cj,cn,co,C qa ql qc,E H s.sg,E H (s.tm:Int)];obtain⟨P,n,M,H3,H4,H5,d,Qc⟩:=Iv ah (λ(V:F) (h:Bl W0 V)=>Pa J X _ s V ((Qe.below L).below h) hy) (λ(V:F) (h:Bl W0 V)=>TH J X _ _ r s.lo V ((h0.below L).below h) ((bi.below L).below h) hz hy.lo) (λ(V:F) (h:Bl W0 V)=>TH J X _ _ r s.hi V ((h0.below L).below h) ((bg.below L).below h) hz hy.hi) (λ(V:F) (h:Bl W0 V)=>tZ K A l X J _ _ r s.w V ((h0.below L).below h) ((qw.below L).below h) hz hs) (λ(V:F) (h:Bl W0 V) (y:G) (hx:Jf V y s.lo)=>TH J X _ y r s.lo V ((h0.below L).below h) hx hz hy.lo) (λ(V:F) (h:Bl W0 V)=>Ao (np.below h).all ((nq.below h).all)) L;obtain⟨o,k⟩:=ex (r.ord s);rw[k];unfold RtQ.ord at k;obtain⟨n1,e1⟩:=ex (r.side s.lo);obtain⟨n2,e2⟩:=ex (r.side s.hi);obtain⟨n3,e3⟩:=ex (r.sign s.w);rw[e1,e2,e3]at k;rw[e1]at M H5;rw[e2]at H3;rw[e3]at H4 hb;clear hz hy hs dh df pw bi bg qw h0 Qe np nq ah L e1 e2 e3;have hq:Bl W0 W0:=BB _ W0;obtain⟨a,b⟩:=d.o _ hq;by_cases W:s.lo<s.hi
 . rw[BF W]at k;have hd:decide (¬s.lo<s.hi)=false:=BK λh=>h W;rw[hd]at n;clear hd W H5;by_cases c1:n1<=0
   . rw[BF c1]at k;subst k;go_enter func53,ntmps53
     go_upto_region 1 with fail
     rw[P.o];clear P;go_upto_region 2 with(go_at_call 23;refine(n.o _ hq).mono ?_;clear n;rintro e w1 ⟨u1,rfl,j,Q⟩;have hq:=Bt hq Q;obtain⟨z,p,x,q,B,b9,u,t,rfl⟩:=Jf.form j;clear a b;obtain⟨a,b⟩:=d.o _ hq)
     obtain⟨m,c⟩:=ex (w1.alloc (.cells #[D z,C p x q,D B,C b9 u t] 50));obtain⟨B5,g⟩:=ex (w1.heap.size);have f:Bl w1 m:=by rw[<-c];exact Ba w1 _
     have S:JQ m B5 50 (D z) (C p x q) (D B) (C b9 u t):=by rw[<-c,<-g];exact JQ.new w1 _ _ _ _ _
     have T:=j.below f;rw[c,g];have hq:=Bt hq f
     clear a b;obtain⟨a,b⟩:=d.o _ hq;clear c g S T j f;go_wp2_with(first
      |(go_at_call 123;refine(M.o _ hq).mono ?_;clear M;rintro e w2 ⟨rfl,U⟩;have hq:=Bt hq U;clear a b;obtain⟨a,b⟩:=d.o _ hq))
     go_ret;exact⟨rfl,Bt Qc.o hq⟩
   . rw[BE c1]at k;by_cases c2:0<=n2
     . rw[BF c2]at k;subst k;go_enter func53,ntmps53
       go_upto_region 1 with fail
       rw[P.o];clear P;go_upto_region 2 with(go_at_call 23;refine(n.o _ hq).mono ?_;clear n;rintro e w1 ⟨u1,rfl,j,Q⟩;have hq:=Bt hq Q;obtain⟨z,p,x,q,B,b9,u,t,rfl⟩:=Jf.form j;clear a b;obtain⟨a,b⟩:=d.o _ hq)
       obtain⟨m,c⟩:=ex (w1.alloc (.cells #[D z,C p x q,D B,C b9 u t] 50));obtain⟨B5,g⟩:=ex (w1.heap.size);have f:Bl w1 m:=by rw[<-c];exact Ba w1 _
       have S:JQ m B5 50 (D z) (C p x q) (D B) (C b9 u t):=by rw[<-c,<-g];exact JQ.new w1 _ _ _ _ _
       have T:=j.below f;rw[c,g];have hq:=Bt hq f
       clear a b;obtain⟨a,b⟩:=d.o _ hq;clear c g S T j f;go_wp2_with(first
        |(go_at_call 123;refine(M.o _ hq).mono ?_;clear M;rintro e w2 ⟨rfl,U⟩;have hq:=Bt hq U;clear a b;obtain⟨a,b⟩:=d.o _ hq)
        |(go_at_call 123;refine(H3.o _ hq).mono ?_;clear H3;rintro e w3 ⟨rfl,ae⟩;have hq:=Bt hq ae;clear a b;obtain⟨a,b⟩:=d.o _ hq))
       go_ret;exact⟨rfl,Bt Qc.o hq⟩
     . rw[BE c2]at k;have dz:H.wrap (n3*s.sg)=o:=by
        have Q:-1000000<=n3*s.sg/\n3*s.sg<=1000000:=by
         obtain⟨g1,g2⟩:=hg;rcases(show s.sg=-1\/s.sg=0\/s.sg=1 by omega)with e|e|e<;>rw[e]<;>omega
        rw[BG,<-k];omega
       clear k hb hg;go_enter func53,ntmps53
       go_upto_region 1 with fail
       rw[P.o];clear P;go_upto_region 2 with(go_at_call 23;refine(n.o _ hq).mono ?_;clear n;rintro e w1 ⟨u1,rfl,j,Q⟩;have hq:=Bt hq Q;obtain⟨z,p,x,q,B,b9,u,t,rfl⟩:=Jf.form j;clear a b;obtain⟨a,b⟩:=d.o _ hq)
       obtain⟨m,c⟩:=ex (w1.alloc (.cells #[D z,C p x q,D B,C b9 u t] 50));obtain⟨B5,g⟩:=ex (w1.heap.size);have f:Bl w1 m:=by rw[<-c];exact Ba w1 _
       have S:JQ m B5 50 (D z) (C p x q) (D B) (C b9 u t):=by rw[<-c,<-g];exact JQ.new w1 _ _ _ _ _
       have T:=j.below f;rw[c,g];have hq:=Bt hq f
       clear a b;obtain⟨a,b⟩:=d.o _ hq;clear c g S T j f;go_upto_region 8 with(first
        |(go_at_call 123;refine(M.o _ hq).mono ?_;clear M;rintro e w2 ⟨rfl,U⟩;have hq:=Bt hq U;clear a b;obtain⟨a,b⟩:=d.o _ hq)
        |(go_at_call 123;refine(H3.o _ hq).mono ?_;clear H3;rintro e w3 ⟨rfl,ae⟩;have hq:=Bt hq ae;clear a b;obtain⟨a,b⟩:=d.o _ hq))
       obtain⟨Qg,H4,Qf⟩:=DZ (λ(V:F) (h:Bl w3 V)=>d.o V (Bt hq h)) (λ(V:F) (h:Bl w3 V)=>H4.o V (Bt hq h)) (Bt Qc.o hq);clear d hq;have hq:Bl w3 w3.drew:=(BB _ w3).drew;go_region_held3 (λw'=>(∀i,w'.cell? ⟨w.heap.size,i,none⟩=#[ai,aj,am,an,ap,aq,ay,az,C pa pl pc,E H r.sg,E H (r.tm:Int)][i]?)/\(∀i,w'.cell? ⟨w.heap.size+1,i,none⟩=#[bj,bm,bn,bu,bz,cj,cn,co,C qa ql qc,E H s.sg,E H (s.tm:Int)][i]?)) (first|grind|(go_keep;done)|(refine⟨?_,?_,?_,?_,?_,?_,?_,?_,?_,?_,?_,?_,?_,?_,?_,?_,?_,?_,?_,?_,?_,?_⟩<;>((repeat rw[JO O]);first|assumption|(go_keep;done))))
        (first
         |(go_at_call 124;refine(H4.o _ hq).mono ?_;clear H4;rintro e w4 ⟨rfl,de⟩;have hq:=Bt hq de;clear a b;obtain⟨a,b⟩:=Qg.o _ hq))
       go_wp2_with fail
       go_ret;exact⟨rfl,Bt Qf.o hq⟩
 . rw[BE W]at k;have hd:=BI W;rw[hd]at n;have HV:=Z (show Gx s=s.lo by unfold Gx;rw[BE W]);rw[HV.o]at n;clear hd W M H3 H4;subst k;go_enter func53,ntmps53
   go_upto_region 1 with fail
   rw[P.o];clear P;go_upto_region 2 with(go_at_call 23;refine(n.o _ hq).mono ?_;clear n;rintro e w1 ⟨u1,rfl,j,Q⟩;have hq:=Bt hq Q;obtain⟨z,p,x,q,B,b9,u,t,rfl⟩:=Jf.form j;clear a b;obtain⟨a,b⟩:=d.o _ hq)
   obtain⟨m,c⟩:=ex (w1.alloc (.cells #[D z,C p x q,D B,C b9 u t] 50));obtain⟨B5,g⟩:=ex (w1.heap.size);have f:Bl w1 m:=by rw[<-c];exact Ba w1 _
   have S:JQ m B5 50 (D z) (C p x q) (D B) (C b9 u t):=by rw[<-c,<-g];exact JQ.new w1 _ _ _ _ _
   have T:=j.below f;rw[c,g];have hq:=Bt hq f
   clear a b;obtain⟨a,b⟩:=d.o _ hq;obtain⟨di,dj,dt,dx⟩:=S.cq;have H6:=Z (H5.o m hq _ T);clear H5 c g S T j f;go_wp2_with(first
    |(go_at_call 123;refine H6.o.mono ?_;clear H6;rintro e w2 ⟨rfl,U⟩;have hq:=Bt hq U))
   go_ret;exact⟨rfl,Bt Qc.o hq⟩
end M3
section
def I2(P:Nat->Prop)(m:Nat):Prop:=P m/\∀j,P j->m<=j
variable{m:Nat}{P:Nat->Prop}
theorem Pc{n:Nat}(h:P n):∃m,I2 P m/\m<=n:=by
 induction n using Nat.strongRecOn with
 |_ n c=>
  by_cases a:∃j,j<n/\P j
  . grind
  . exact⟨n,⟨h,λj b=>Nat.le_of_not_lt λhl=>a ⟨j,hl,b⟩⟩,Aa _⟩
def cA(h:I2 P m):Classical.epsilon (I2 P)=m:=by
 have a:=Classical.epsilon_spec (p:=I2 P) ⟨m,h⟩;exact F6 (a.2 m h.1) (h.2 _ a.1)
def TL{Q:Nat->Prop}(h:I2 P (m+1))(hq:Q m):Classical.epsilon (I2 Q)<Classical.epsilon (I2 P):=by
 obtain⟨k,a,b⟩:=Pc hq;rw[cA h,cA a];omega
namespace M3
def IF(V:F)(B:Nat)(r:RtQ):Prop:=∃cs,Bx V B 60 cs/\JJ V (N cs) r
section
variable {V W:World} {B:Nat} {r:RtQ}
def IF.below(h:IF V B r)(hb:Bl V W):IF W B r:=by
 obtain⟨cs,a,b⟩:=h;exact⟨cs,a.below hb,b.below hb⟩
variable{t:TypeId}
theorem IF.open(h:IF V B r):∃f a al b at_ ab d c bs g bl j l i k bd m o n,Bx V B 60 #[D f,C a al b,D at_,C ab d c,D bs,C g bl j,D l,C i k bd,C m o n,E H r.sg,E H (r.tm:Int)]/\JJ V (N #[D f,C a al b,D at_,C ab d c,D bs,C g bl j,D l,C i k bd,C m o n,E H r.sg,E H (r.tm:Int)]) r/\Yq V (N #[D f,C a al b,D at_,C ab d c,D bs,C g bl j,D l,C i k bd]) r.lo r.hi/\Jf V (N #[D f,C a al b,D at_,C ab d c]) r.lo/\Jf V (N #[D bs,C g bl j,D l,C i k bd]) r.hi/\Je V (N #[C m o n]) r.w:=by
 obtain⟨cs,t,p⟩:=h;have u:=p;obtain⟨f,a,al,b,at_,ab,d,c,bs,g,bl,j,l,i,k,bd,m,o,n,e,q,v⟩:=JJ.form p;cases e;have s:=q;obtain⟨x0,x1,x2,x3,y0,y1,y2,y3,e,w,x⟩:=s;grind
def Bx.put11{x0 x1 x2 x3 y0 y1 y2 y3 p s u z0 a b c u0 u1 u2 u3 q t o:G}{y:TypeId}(h:Bx V B y #[z0,a,b,c,u0,u1,u2,u3,q,t,o]):Bx (MK V B x0 x1 x2 x3 y0 y1 y2 y3 p s u) B y #[x0,x1,x2,x3,y0,y1,y2,y3,p,s,u]:=by
 have h:=((((((((((h.set 0 x0).set 1 x1).set 2 x2).set 3 x3).set 4 y0).set 5 y1).set 6 y2).set 7 y3).set 8 p).set 9 s).set 10 u;simp only[List.setIfInBounds_toArray,List.set_cons_succ,List.set_cons_zero]at h;exact h
def IF.put{x0 x1 x2 x3 y0 y1 y2 y3 p s u:G}{b:RtQ}(h:IF V B r)(c:JJ V (N #[x0,x1,x2,x3,y0,y1,y2,y3,p,s,u]) b):IF (MK V B x0 x1 x2 x3 y0 y1 y2 y3 p s u) B b:=by
 obtain⟨_,_,_,_,_,_,_,_,_,_,_,_,_,_,_,_,_,_,_,a,_⟩:=h.open;exact⟨_,a.put11,(TF a ..).root c⟩
def Bx.far11{C:Nat}{cs:Array G}(h:Bx V C t cs)(a:C≠B)(x0 x1 x2 x3 y0 y1 y2 y3 p s u:G):Bx (MK V B x0 x1 x2 x3 y0 y1 y2 y3 p s u) C t cs:=(TE.far C a).trans h
structure RtX(V:World)(B:Nat)(cs:Array Value)(r:RtQ):Prop where
 bx:Bx V B 60 cs
 is:JJ V (.agg cs) r
variable {cs:Array Value}
def RtX.below(h:RtX V B cs r)(hb:Bl V W):RtX W B cs r:=⟨h.bx.below hb,h.is.below hb⟩
def RtX.size(h:RtX V B cs r):cs.size=11:=by
 obtain⟨x0,x1,x2,x3,y0,y1,y2,y3,a,c,b,e,_⟩:=h.is;cases e;rfl
theorem RtX.set2(h:RtX V B cs r){C:Nat}{x y:G}(q:JC V C t x y)(_:JS x=true)(_:JS y=true)(a b:G)(d:∀k,IM k≠t:=by intro k;cases k<;>decide)(f:Hy true≠t:=by decide):RtX ((V.setCell ⟨C,0,none⟩ a).setCell ⟨C,1,none⟩ b) B cs r:=by
 have hq:Bx V C t #[x,y]:=q;have c:B≠C:=λe=>by
  have g:=h.bx;rw[e,show Bx V C 60 cs=(V.heap[C]?=_)from rfl,show V.heap[C]?=_ from hq]at g;simp only[Cn,C0]at g;have:=h.size;grind
 have i:=PZ hq d f 0 a;have j:=PZ (hq.set 0 a) d f 1 b;exact⟨(h.bx.far (p:=⟨C,0,none⟩) c a).far (p:=⟨C,1,none⟩) c b,(i.trans j).root h.is⟩
section
variable {x0 x1 x2 x3 y0 y1 y2 y3 p s u:Value}
def RtX.parts(h:RtX V B #[x0,x1,x2,x3,y0,y1,y2,y3,p,s,u] r):Jf V (N #[x0,x1,x2,x3]) r.lo/\Jf V (N #[y0,y1,y2,y3]) r.hi/\Je V (N #[p]) r.w/\Yq V (N #[x0,x1,x2,x3,y0,y1,y2,y3]) r.lo r.hi:=by
 obtain⟨a0,d,f,g,b0,i,j,k,l,n,m,e,a,b,c⟩:=h.is;cases e;exact⟨a,b,c,_,_,_,_,_,_,_,_,rfl,a,b⟩
def RtX.lo(h:RtX V B #[x0,x1,x2,x3,y0,y1,y2,y3,p,s,u] r):Jf V (N #[x0,x1,x2,x3]) r.lo:=h.parts.1
def RtX.hi(h:RtX V B #[x0,x1,x2,x3,y0,y1,y2,y3,p,s,u] r):Jf V (N #[y0,y1,y2,y3]) r.hi:=h.parts.2.1
def RtX.w(h:RtX V B #[x0,x1,x2,x3,y0,y1,y2,y3,p,s,u] r):Je V (N #[p]) r.w:=h.parts.2.2.1
end
theorem Je.put4{v:G}{p:Ja}(h:Je V v p)(hl:2<=p.length){C:Nat}{t:TypeId}{x y z u:G}(q:JQ V C t x y z u)(n0:JS x=true)(r:JS y=true)(s:JS z=true)(w:JS u=true)(K L z' A:G):Je (Go.Proofs.YthnpdhlepglmlaaGreatDoor.put4 V C K L z' A) v p:=by
 obtain⟨B,e,a,cap,i,m,n,o,d⟩:=h;refine⟨B,e,a,cap,i,m,n,o,?_⟩;rcases d with d|⟨b,j,f⟩
 . exact An d
 . refine Ap ⟨b,j,f.keep ?_ λ_ _ _ g=>Row.put4 g q n0 r s w _ _ _ _⟩;have c:b≠C:=λe=>by
    obtain⟨cs,k,l⟩:=f;obtain⟨x0,_,_,_,M,_⟩:=l 1 O;rw[e,show V.heap[C]?=_ from q]at k;grind
   exact(BC _ _ _ b c).trans ((BC _ _ _ b c).trans ((BC _ _ _ b c).trans (BC _ _ _ b c)))
def JJ.put4{v:G}(h:JJ V v r)(hl:2<=r.w.length){C:Nat}{t:TypeId}{x y z u:G}(q:JQ V C t x y z u)(n0:JS x=true)(a:JS y=true)(b:JS z=true)(c:JS u=true)(A B z' w:G):JJ (Go.Proofs.YthnpdhlepglmlaaGreatDoor.put4 V C A B z' w) v r:=by
 obtain⟨a0,d,f,g,b0,i,j,k,o,s,p,e,l,m,n⟩:=h;exact⟨a0,d,f,g,b0,i,j,k,o,s,p,e,l.put4 q n0 a b c _ _ _ _,m.put4 q n0 a b c _ _ _ _,Je.put4 n hl q n0 a b c _ _ _ _⟩
def cC:∀(i:Nat) (r:RtQ),GP (i+1) r=(GP i r).hv:=by
 intro i;induction i with
 |zero=>intro r;rfl
 |succ i a=>intro r;exact a r.hv
theorem DJ.one{w V:F}{B:Nat}{cs:Array G}(d:Dat)(f:Bx V B d.ty cs)(g:Has V (N cs) d)(k:w.heap.size<=B)(a:Bl w V):DJ w V [some (B,d)]:=by
 refine⟨λi C e h=>?_,λi j C e b h c=>?_,a⟩
 . grind
 grind
end
end M3
end
namespace M3
structure SlOk(K X k:Nat)(r:RtQ):Prop where
 tw:Jc r.w=r.w
 w0:r.w≠[]
 lead:cf r.w (r.w.length-1)=(YT r.w:Rat)
 pos:0<YT r.w
 l2:2<=r.w.length
 smL:Sm X (YT r.w)
 it:∀i,i<=k->RzOk K X (GP i r)/\DS X (Dc (GP i r).lo (GP i r).hi)
 stop:¬(1<JZ (Yk (YT r.w) k r).hi (YT r.w)-JZ (Yk (YT r.w) k r).lo (YT r.w)\/ev r.w (Yk (YT r.w) k r).lo=0)
 sz:K+r.w.length*(X+X+2)+X+X+K<=1000000000
structure TwX(V:World)(B1 B2:Nat)(cs:Array Value)(r:RtQ):Prop where
 x:RtX V B1 cs r
 z:Bx V B2 60 #[.bool false,.slice none 0 0,.bool false,.slice none 0 0,.bool false,.slice none 0 0,.bool false,.slice none 0 0,.slice none 0 0,.int .i64 0,.int .i64 0]
def TwX.below{V W:F}{B1 B2:Nat}{cs:Array G}{r:RtQ}(h:TwX V B1 B2 cs r)(hb:Bl V W):TwX W B1 B2 cs r:=⟨h.x.below hb,h.z.below hb⟩
def TwX.alloc{V:F}{B1 B2:Nat}{cs:Array G}{r:RtQ}(h:TwX V B1 B2 cs r)(o:Obj):TwX (V.alloc o) B1 B2 cs r:=h.below (Ba V o)
theorem TwX.set2{V:F}{B1 B2:Nat}{cs:Array G}{r:RtQ}(h:TwX V B1 B2 cs r){C:Nat}{x y:G}(q:JC V C 48 x y)(n0:JS x=true)(f:JS y=true)(a b:G):TwX ((V.setCell ⟨C,0,none⟩ a).setCell ⟨C,1,none⟩ b) B1 B2 cs r:=by
 have c:B2≠C:=λe=>by
  have d:=h.z;rw[e,show Bx V C 60 _=(V.heap[C]?=_)from rfl,show V.heap[C]?=_ from q]at d;grind
 exact⟨h.x.set2 q n0 f a b,(h.z.far (p:=⟨C,0,none⟩) c a).far (p:=⟨C,1,none⟩) c b⟩
theorem TwX.put4{V:F}{B1 B2:Nat}{cs:Array G}{r:RtQ}(h:TwX V B1 B2 cs r){C:Nat}{x y z u:G}(q:JQ V C 50 x y z u)(n0:JS x=true)(g:JS y=true)(i:JS z=true)(j:JS u=true)(c d z' b:G)(hl:2<=r.w.length:=by assumption):TwX (Go.Proofs.YthnpdhlepglmlaaGreatDoor.put4 V C c d z' b) B1 B2 cs r:=by
 have far:∀ {B:Nat} {cs:Array G},Bx V B 60 cs->Bx (Go.Proofs.YthnpdhlepglmlaaGreatDoor.put4 V C c d z' b) B 60 cs:=fun {B cs} f=>by
  have a:B≠C:=λe=>by
   rw[e,show Bx V C 60 _=(V.heap[C]?=_)from rfl,show V.heap[C]?=_ from q]at f;grind
  exact(((f.far (p:=⟨C,0,none⟩) a c).far (p:=⟨C,1,none⟩) a d).far (p:=⟨C,2,none⟩) a z').far (p:=⟨C,3,none⟩) a b
 exact⟨⟨far h.x.bx,JJ.put4 h.x.is hl q n0 g i j c d z' b⟩,far h.z⟩
def Lf(w:F)(B1 B2 B3 K:Nat)(L:Int)(r:RtQ)(n:Nat)(V:F):Prop:=
 ∃b,IF V B1 b/\Bx V B2 60 #[D false,C none 0 0,D false,C none 0 0,D false,C none 0 0,D false,C none 0 0,C none 0 0,.int H 0,.int H 0]/\(∃s a l c,Bx V B3 48 #[D s,C a l c]/\Jk V (N #[D s,C a l c]) L)/\Bl w V/\(∃i,b=GP i r/\i+n=K)/\Yk L n b=Yk L K r
theorem tl(K X k:Nat)(v:G)(r:RtQ)(w:F)(h:JJ w v r)(hs:SlOk K X k r):
 Calls I 120 #[v] w λe w'=>∃u,e=.returned u/\JJ w' u (GQ k r)/\Bl w w':=by
 have h0:=h;obtain⟨am,aa,al,ac,at_,ab,ak,ad,bs,ba,bl,bc,bt,bb,bk,bd,pa,pl,pc,rfl,_,_⟩:=JJ.form h;obtain⟨W0,bz,b1,n2,an⟩:=Kv w 60 60 #[D am,C aa al ac,D at_,C ab ak ad,D bs,C ba bl bc,D bt,C bb bk bd,C pa pl pc,E H r.sg,E H (r.tm:Int)] #[D false,C none 0 0,D false,C none 0 0,D false,C none 0 0,D false,C none 0 0,C none 0 0,E H 0,E H 0];have n1:RtX W0 w.heap.size #[D am,C aa al ac,D at_,C ab ak ad,D bs,C ba bl bc,D bt,C bb bk bd,C pa pl pc,E H r.sg,E H (r.tm:Int)] r:=⟨b1,h0.below an⟩;have Qw:=Z bz;have Uc:=Ag.2 hs.w0;obtain⟨d,hd⟩:=ex (r.w.length-1:Nat);have Qo:(r.w.length:Int)-1=(d:Int):=O
 obtain⟨L,hL⟩:=ex (YT r.w);have Qs:=Z (show(cf r.w d).num=L by rw[<-hL,<-hd];rfl);have Qq:=Z λ(V:F) (y:G) (hy:Je V y r.w)=>Yo y r.w V hy;rw[Qo]at Qq;have Ql:=Z λ(V:F) (y:G) (hy:Je V y r.w)=>IA y r.w (d:Int) V hy;rw[Iz]at Ql;have HS:=Z hs;have M1:Hid (DJ w W0 []):=Z ⟨λi B z h=>by simp at h,λi j B z z' h=>by simp at h,an⟩;have q:=Z (Ao n1 n2);have HL:=Z hL;clear h h0 hs bz an b1 n1 n2 Uc hd Qo hL;go_enter func120,ntmps120
 go_upto_region 1 with fail
 rw[Qw.o];refine YD Di [[],[0],[],[2],[3],[1,4,4],[5,5],[],[7,6,6,0,1,2,3,4,5,6,7]] [.eq (R (some ⟨w.heap.size,8,none⟩)),.eq (N #[C pa pl pc]),.eq (R (some ⟨w.heap.size,8,none⟩)),.eq (N #[C pa pl pc]),.eq (E H (d:Int)),.rat (cf r.w d),.int L,.ptr,.eq undef] [7,8] (λb v V=>DJ w V [nb b v 0 1 (.int 0) (.int L)]/\TwX V w.heap.size (w.heap.size+1) #[D am,C aa al ac,D at_,C ab ak ad,D bs,C ba bl bc,D bt,C bb bk bd,C pa pl pc,E H r.sg,E H (r.tm:Int)] r) ⟨(M1.o.none).drew,TwX.below ⟨q.o.1,q.o.2⟩ (BB _ W0).drew⟩ (SR (.vl rfl λ_ _=>⟨_,by refine DP ?_;go_simp,rfl⟩)<|SR (.vl rfl λh j=>⟨_,by have o:=j.2.x.bx.c (i:=8) rfl;refine DP ?_;rw[h.e 0];go_simp,rfl⟩)<|SR (.vl rfl λ_ _=>⟨_,by refine DP ?_;go_simp,rfl⟩)<|SR (.vl rfl λh j=>⟨_,by have o:=j.2.x.bx.c (i:=8) rfl;refine DP ?_;rw[h.e 2];go_simp,rfl⟩)<|SR (.cl λh j=>c1 (h.e 3) (rv (Qq.o _ _ j.2.x.w)))<|SR (.cl λh j=>c2 (h.e 1) (h.e 4) (Ql.o _ _ j.2.x.w))<|SR (.cl λh _=>Qs.o ▸ NF _ (cf r.w d) _ (h.g 5))<|SR (.wr rfl λ_ j=>Gp 0 j.1 (hT:=λm=>⟨m,j.2.alloc _⟩))<|SR (.wr rfl λh j=>E0 0 j.1 (h.g 6) (hp:=h.g 7) (hT:=λn m=>⟨m,j.2.set2 n rfl rfl _ _⟩)) Stp.end_)
  λf V2 hF M=>?_
 obtain⟨M,t⟩:=M;replace t:=Z t;refine DP ?_;rw[hF.e 0,hF.e 1,hF.e 2,hF.e 3,hF.e 4];obtain⟨B3,ap⟩:=hF.p 7;have M:=Dw M;simp only[ap]at M;rw[ap];have M2:=Z M;clear M hF ap;clear M1;have Qy:=Z (M2.o.ge 0 rfl);have ML:Hid (Lf w w.heap.size (w.heap.size+1) B3 k L r k V2):=Z ⟨r,⟨_,t.o.x.bx,t.o.x.is⟩,t.o.z,(by obtain⟨s,a,l,c,A,h2⟩:=M2.o.int (i:=0) rfl;exact⟨s,a,l,c,A,h2⟩),M2.o.2.2,⟨0,rfl,O⟩,rfl⟩;clear t M2;go_wp2;go_loopw [] (λwr=>∃n,Lf w w.heap.size (w.heap.size+1) B3 k L r n wr) λwr=>Classical.epsilon (I2 λn=>Lf w w.heap.size (w.heap.size+1) B3 k L r n wr)
 case atStart=>exact⟨k,ML.o⟩
 case round=>
  obtain⟨n0,df⟩:=hrel;obtain⟨m,hm,_⟩:=Pc (P:=λn=>Lf w w.heap.size (w.heap.size+1) B3 k L r n wr) df;obtain⟨g,bn,dt,⟨s3,a3,l3,c3,n3,i3⟩,hB,⟨i,hi,cn⟩,cj⟩:=hm.1;obtain⟨fs,fa,fl,fc,ft,fb,fk,fd,gs,ga,gl,gc,gt,gb,gk,gd,ha,hl,hc,bx,bu,di,co,gv,dh⟩:=bn.open;obtain⟨U,bj⟩:=HS.o.it i O;rw[<-hi]at U bj;have hw:g.w=r.w:=by rw[hi];exact(TB i r).1
  have Qp:Sm X L:=by rw[<-HL.o];exact HS.o.smL
  obtain⟨H1,H2,H3⟩:=DZ (sf X _ _ g.lo g.hi L wr di i3 U.lo U.hi Qp (by have:=U.x2;omega)) (λ(V:F) (h:Bl wr V)=>Nn K X _ _ g.w g.lo V (dh.below h) (co.below h) U.wh U.lo (by have:=U.sz;omega)) λ(V:F) (h:Bl wr V)=>bM K X _ g V (bu.below h) U bj;obtain⟨b1,ae⟩:=ex (decide (1<JZ g.hi L-JZ g.lo L));obtain⟨g1,bg⟩:=ex (DW (ev g.w g.lo));rw[ae]at H1;rw[bg]at H2;obtain⟨q,Qf,HM,HI,HQ,Ua,Qu,HW⟩:=Iv (λ(V:F) (h:Bl wr V)=>Ao (bx.below h) (Ao (dt.below h) (Ao (n3.below h) (i3.below h)))) hB hm (Ao hi cn) cj bn bu hw;obtain⟨Qz,Ub,W⟩:=DZ ae bg U;have S:=Z λ(V:F) (h:Bl wr V)=>Ao (q.o V h).1.all (Ao (q.o V h).2.2.1.all (q.o V h).1.f);have hq:Bl wr wr:=BB _ wr;obtain⟨o,p,fr⟩:=S.o _ hq;clear df hm bn dt n3 i3 hB hi cn cj bx bu di co gv dh U bj hw Qp ae bg;have Qc:(1<JZ g.hi L-JZ g.lo L\/ev g.w g.lo=0)↔(b1=true\/b1=false/\g1=0):=by
   rw[<-Qz.o,<-Ub.o,Xt,Bu,Bk];grind
  by_cases ah:1<JZ g.hi L-JZ g.lo L\/ev g.w g.lo=0
  . obtain⟨m',rfl⟩:∃m',m=m'+1:=by
     cases m with
     |succ m'=>exact⟨m',rfl⟩
     |zero=>
      have A:=HQ.o;rw[Yk]at A;have h2:=HS.o.stop;rw[HL.o,<-A,<-HW.o]at h2;exact absurd ah h2
    have Qx:=Z (show Yk L m' g.hv=Yk L k r by have A:=HQ.o;rw[Yk,BF ah]at A;exact A);replace Qc:=Qc.1 ah;clear ah;rcases Qc with rfl|⟨rfl,rfl⟩
    all_goals
     go_wp2_with(first
      |(go_at_call 191;refine H1.o.mono ?_;rintro e w1 ⟨rfl,ae⟩;have hq:=Bt hq ae;clear o p fr;obtain⟨o,p,fr⟩:=S.o _ hq)
      |(go_at_call 119;refine(H2.o _ hq).mono ?_;rintro e w2 ⟨rfl,ay⟩;have hq:=Bt hq ay;clear o p fr;obtain⟨o,p,fr⟩:=S.o _ hq)
      |(go_at_call 192;refine(H3.o _ hq).mono ?_;rintro e w3 ⟨u3,rfl,dj,gu⟩;have hq:=Bt hq gu;obtain⟨fh,dx,fg,ed,fi,dz,f9,ei,gq,fm,gj,fx,gr,fo,gi,gh,gw,ia,gy,rfl,_,_⟩:=JJ.form dj;clear o p fr;obtain⟨o,p,fr⟩:=S.o _ hq))
     obtain⟨q1,q2,q3,q4⟩:=q.o _ hq;have Qh:w.heap.size+1≠w.heap.size:=O
     have Qg:B3≠w.heap.size:=λe=>by rw[e,show Bx w3 w.heap.size 48 _=(w3.heap[w.heap.size]?=_)from rfl,show w3.heap[w.heap.size]?=_ from q1]at q3;simp only[Cn,C0]at q3;exact absurd q3.2.1 DK
     have kk:=TF q1 (D fh) (C dx fg ed) (D fi) (C dz f9 ei) (D gq) (C fm gj fx) (D gr) (C fo gi gh) (C gw ia gy) (E H g.hv.sg) (E H (g.hv.tm:Int));have Qk:=(show Lf w w.heap.size (w.heap.size+1) B3 k L r m' _ from⟨g.hv,IF.put (Ua.o.below hq) dj,q2.far11 Qh _ _ _ _ _ _ _ _ _ _ _,⟨s3,a3,l3,c3,q3.far11 Qg _ _ _ _ _ _ _ _ _ _ _,kk.int q4⟩,TG (Bt Qf.o hq) (Aa _) _ _ _ _ _ _ _ _ _ _ _,⟨i+1,by rw[cC,<-HI.o.1],by have:=HI.o.2;omega⟩,Qx.o⟩);go_roundw
     case rel=>exact⟨m',Qk⟩
     case measure=>exact TL (P:=λn=>Lf w w.heap.size (w.heap.size+1) B3 k L r n wr) (Q:=λn=>Lf w w.heap.size (w.heap.size+1) B3 k L r n _) HM.o Qk
  . have Qc:b1=false/\¬g1=0:=by
     grind
    obtain⟨rfl,ai⟩:=Qc;have Qm:(g1==0)=false:=by simpa using ai
    have HE:=Z (show g=Yk L k r by
     have A:=HQ.o;cases m with
      |zero=>exact A
      |succ m=>rw[Yk,BE ah]at A;exact A)
    clear ai ah;go_upto_region 4 with(first
     |(go_at_call 191;refine H1.o.mono ?_;rintro e w1 ⟨rfl,ae⟩;have hq:=Bt hq ae;clear o p fr;obtain⟨o,p,fr⟩:=S.o _ hq)
     |(go_at_call 119;refine(H2.o _ hq).mono ?_;rintro e w2 ⟨rfl,ay⟩;have hq:=Bt hq ay;clear o p fr;obtain⟨o,p,fr⟩:=S.o _ hq))
    have ib:2<=g.w.length:=by rw[HW.o];exact HS.o.l2
    obtain⟨Qv,M9,Qt,Qd⟩:=Dx (show TwX w2 w.heap.size (w.heap.size+1) #[D fs,C fa fl fc,D ft,C fb fk fd,D gs,C ga gl gc,D gt,C gb gk gd,C ha hl hc,E H g.sg,E H (g.tm:Int)] g from⟨⟨(q.o _ hq).1,Qu.o.below hq⟩,(q.o _ hq).2.1⟩) (DJ.one (.int L) (q.o _ hq).2.2.1 (q.o _ hq).2.2.2 Qy.o (Bt Qf.o hq)) (show decide (L≠0)=true from BI (by have:=HS.o.pos;rw[HL.o]at this;omega)) (show Sm X L by rw[<-HL.o];exact HS.o.smL);have Qr:=Z (show Sm (X+X) (JZ g.hi L)from Sm.div (W.o.hi.1.mul Qd.o));clear o p fr hq Qm;refine YD Di [[],[0],[1],[],[2,3],[],[4,5,4],[6],[7],[7],[],[10,8,6,0,1,2,3,4,5,6,7,8,10],[9,11,0,1,2,3,4,5,6,7,8,9,10,11]] [.eq (R (some ⟨w.heap.size,0,none⟩)),.eq (R (some ⟨w.heap.size,4,none⟩)),.eq (N #[D gs,C ga gl gc,D gt,C gb gk gd]),.int L,.int (JZ g.hi L),.int L,.tup1 (.rat (yB (JZ g.hi L) L)),.tup1 (.rat (yB (JZ g.hi L) L)),.rat (yB (JZ g.hi L) L),.eq (D true),.ptr,.eq undef,.eq (D true)] [10,11] (λb v V=>DJ w V [some (B3,.int L),nb b v 0 1 (.rat 0) (.rat (yB (JZ g.hi L) L))]/\TwX V w.heap.size (w.heap.size+1) #[D fs,C fa fl fc,D ft,C fb fk fd,D gs,C ga gl gc,D gt,C gb gk gd,C ha hl hc,E H g.sg,E H (g.tm:Int)] g) ⟨(M9.o.none).drew,Qv.o.below (BB _ w2).drew⟩ (SR (.vl rfl λ_ _=>⟨_,by refine DP ?_;go_simp,rfl⟩)<|SR (.vl rfl λh _=>⟨_,by refine DP ?_;rw[h.e 0];go_simp,rfl⟩)<|SR (.vl rfl λh j=>⟨_,by have o:=Ao (j.2.x.bx.c (i:=4) rfl) (Ao (j.2.x.bx.c (i:=5) rfl) (Ao (j.2.x.bx.c (i:=6) rfl) (j.2.x.bx.c (i:=7) rfl)));refine DP ?_;rw[h.e 1];go_simp,rfl⟩)<|SR (.vl rfl λ_ j=>GD 0 j.1)<|SR (.cl λh j=>c2 (h.e 2) rfl (Sy X _ _ g.hi L _ j.2.x.hi (h.g 3) W.o.hi Qd.o (by have:=W.o.x2;omega)))<|SR (.vl rfl λ_ j=>GD 0 j.1)<|SR (.cl λh _=>Od (Qt.o ▸ Kk _ _ (JZ g.hi L) L _ (h.g 4) (h.g 5) (Sok.of Qr.o (by have:=W.o.x2;omega)) (Sok.of Qd.o (by have:=W.o.x2;omega))))<|SR (.vl rfl λh _=>mw (h.g 6))<|SR (.vl rfl λh _=>Ol (h.g 7))<|SR (.vl rfl λh _=>Om (h.g 7))<|SR (.wr rfl λ_ j=>Og 1 j.1 (hT:=λm=>⟨m,j.2.alloc _⟩))<|SR (.wr rfl λh j=>L1 1 j.1 (h.g 8) (hp:=h.g 10) (hT:=λn m=>⟨m,j.2.put4 n rfl rfl rfl rfl _ _ _ _⟩))<|SR (.vl rfl λh _=>aw (h.g 9)) Stp.end_)
     λf V5 hF M=>?_
    obtain⟨M,t⟩:=M;replace t:=Z t;refine DP ?_;rw[hF.e 0,hF.e 1,hF.e 2,hF.e 9,hF.e 12];obtain⟨B6,aq⟩:=hF.p 10;have M:=Dw M;simp only[aq]at M;rw[aq];have Qe:=Z M;clear M hF aq;clear M9;obtain⟨x,hx⟩:=ex (yB (JZ g.hi L) L);have HX:=Z hx;rw[hx]at Qe;have Qn:=Z (show DS (X+X) x by rw[<-HX.o];exact DS.divInt (by have:=HS.o.pos;rw[HL.o]at this;omega) Qr.o (Qd.o.mono O));obtain⟨s4,a4,l4,c4,t4,b4,k4,d4,n4,r4,_,_⟩:=Qe.o.rat (i:=1) rfl;have q:=Z λ(V:F) (h:Bl V5 V)=>Ao (t.o.x.bx.below h) (Ao (t.o.z.below h) (Ao (n4.below h) (Ao (t.o.x.below h).lo (Ao (t.o.x.below h).hi (Ao (t.o.x.below h).w (r4.below h))))));have HB:=Z Qe.o.2.2;have Qj:¬B6=w.heap.size:=λe=>by have A:=n4;rw[e]at A;have h2:=t.o.x.bx;rw[show Bx V5 w.heap.size 60 _=(V5.heap[w.heap.size]?=_)from rfl,show V5.heap[w.heap.size]?=_ from A]at h2;simp only[Cn,C0]at h2;exact absurd h2.2.1 DK
    have ic:¬w.heap.size=B6:=λe=>Qj e.symm;have ie:¬w.heap.size+1=w.heap.size:=O
    have ig:¬w.heap.size=w.heap.size+1:=O
    have H1:=Z λ(V:F) (h:Bl V5 V)=>Xd _ _ x g.lo V (r4.below h) (t.o.x.below h).lo (Sq.of Qn.o (by have:=W.o.x2;omega)) (Sq.of W.o.lo (by have:=W.o.x2;omega));have H2:=Z λ(V:F) (h:Bl V5 V)=>Nn K (X+X) _ _ g.w x V (t.o.x.below h).w (r4.below h) W.o.wh Qn.o (by have A:=HS.o.sz;rw[<-HW.o]at A;omega);obtain⟨n5,bm⟩:=ex (Yw x g.lo);obtain⟨g5,bi⟩:=ex (DW (ev g.w x));rw[bm]at H1;rw[bi]at H2;obtain⟨HO,HG,Qi,S⟩:=Dx (show 0<n5↔g.lo<x by rw[<-bm,<-Kl];rw[XY];have:=(Sx x).three g.lo;omega) (show g5=0↔ev g.w x=0 by rw[<-bi];exact Xt) (show GQ k r=Ij L g by unfold GQ;rw[HL.o,HE.o]) λ(V:F) (h:Bl V5 V)=>Ao (q.o V h).1.all (Ao (q.o V h).2.1.all (Ao (Bx.all (q.o V h).2.2.1) (Ao (q.o V h).1.f (q.o V h).2.1.f)));have hq:Bl V5 V5:=BB _ _;obtain⟨o,p,T,f0,f1⟩:=S.o _ hq;clear t Qe n4 r4 hx bm bi;by_cases de:0<n5
    . by_cases ai:g5=0
      . subst ai;have Qb:=Z (show Ij L g=⟨x,x,g.w,0,g.tm⟩by unfold Ij;rw[HX.o,BF ⟨HO.o.1 de,HG.o.1 rfl⟩]);go_upto_region 6 with(first
         |(go_at_call 21;refine(H1.o _ hq).mono ?_;rintro e w5 ⟨rfl,aj⟩;have hq:=Bt hq aj;clear o p T f0 f1;obtain⟨o,p,T,f0,f1⟩:=S.o _ hq)
         |(go_at_call 119;refine(H2.o _ hq).mono ?_;rintro e w6 ⟨rfl,az⟩;have hq:=Bt hq az;clear o p T f0 f1;obtain⟨o,p,T,f0,f1⟩:=S.o _ hq))
        obtain⟨⟨t0,t1,t2,t3⟩,⟨t5,t6,t7,t8⟩,t9,o0,o1⟩:=(q.o _ hq).1.r11;obtain⟨o2,o3,o5,o6⟩:=Bx.r4 (q.o _ hq).2.2.1;clear o T;go_region
        go_wp2_with fail
        obtain⟨b0,k6,_,_,_,m3,m4⟩:=q.o _ hq;exact BA (v:=N #[D s4,C a4 l4 c4,D t4,C b4 k4 d4,D s4,C a4 l4 c4,D t4,C b4 k4 d4,C ha hl hc,E H 0,E H (g.tm:Int)]) (by simp[results,results120,go_sem,p]) rfl (so (by rw[Qi.o,Qb.o];exact Ld b0.ty k6.ty m4 m4 m3 (Bt HB.o hq) (Aa _) O))
      . have Qm:(g5==0)=false:=by simpa using ai
        have Qb:=Z (show Ij L g=g by unfold Ij;rw[HX.o,BE λh=>ai (HG.o.2 h.2)]);go_wp2_with(first
         |(go_at_call 21;refine(H1.o _ hq).mono ?_;rintro e w5 ⟨rfl,aj⟩;have hq:=Bt hq aj;clear o p T f0 f1;obtain⟨o,p,T,f0,f1⟩:=S.o _ hq)
         |(go_at_call 119;refine(H2.o _ hq).mono ?_;rintro e w6 ⟨rfl,az⟩;have hq:=Bt hq az;clear o p T f0 f1;obtain⟨o,p,T,f0,f1⟩:=S.o _ hq))
        obtain⟨b0,k6,_,m1,m2,m3,_⟩:=q.o _ hq;exact BA (v:=N #[D fs,C fa fl fc,D ft,C fb fk fd,D gs,C ga gl gc,D gt,C gb gk gd,C ha hl hc,E H g.sg,E H (g.tm:Int)]) (by simp[results,results120,go_sem,p]) rfl (by rw[Qi.o,Qb.o];exact Ld b0.ty k6.ty m1 m2 m3 (Bt HB.o hq) (Aa _) O)
    . have Qb:=Z (show Ij L g=g by unfold Ij;rw[HX.o,BE λh=>de (HO.o.2 h.1)]);go_wp2_with(go_at_call 21;refine(H1.o _ hq).mono ?_;rintro e w5 ⟨rfl,aj⟩;have hq:=Bt hq aj;clear o p T f0 f1;obtain⟨o,p,T,f0,f1⟩:=S.o _ hq)
      obtain⟨b0,k6,_,m1,m2,m3,_⟩:=q.o _ hq;exact BA (v:=N #[D fs,C fa fl fc,D ft,C fb fk fd,D gs,C ga gl gc,D gt,C gb gk gd,C ha hl hc,E H g.sg,E H (g.tm:Int)]) (by simp[results,results120,go_sem,p]) rfl (by rw[Qi.o,Qb.o];exact Ld b0.ty k6.ty m1 m2 m3 (Bt HB.o hq) (Aa _) O)
def dT(m:Nat)(q:Rat):List UInt8:=Y4 (q.num*10^m/(q.den:Int)) m
def XZ(m:Nat):Nat->RtQ->RtQ
 |0,r=>r
 |k+1,r=>if dT m r.lo=dT m r.hi then r else XZ m k r.hv
structure DgOk(K X k m:Nat)(r:RtQ):Prop where
 it:∀i,i<=k->RzOk K X (GP i r)/\DS X (Dc (GP i r).lo (GP i r).hi)
 stop:dT m (XZ m k r).lo=dT m (XZ m k r).hi
def Lg(w:F)(B K m:Nat)(r:RtQ)(n:Nat)(V:F):Prop:=
 ∃a,IF V B a/\Bl w V/\(∃i,a=GP i r/\i+n=K)/\XZ m n a=XZ m K r
theorem tn(K X k m:Nat)(v:G)(r:RtQ)(n:Int)(w:F)(h:JJ w v r)(hs:DgOk K X k m r)(hn:min (max n 0) 30=(m:Int))(aq:Lib.TabIs I w "internal/strconv.uint64pow10" .u64 Lib.pow10Tab):
 Calls I 211 #[v,E H n] w λe w'=>e=.returned (.string ⟨(dT m (XZ m k r).lo).toArray⟩)/\Bl w w':=by
 obtain⟨fs,fa,fl,fc,ft,fb,fk,fd,gs,ga,gl,gc,gt,gb,gk,gd,ha,hl,hc,rfl,_,_⟩:=JJ.form h;obtain⟨W0,p⟩:=ex (w.alloc (.cells #[D fs,C fa fl fc,D ft,C fb fk fd,D gs,C ga gl gc,D gt,C gb gk gd,C ha hl hc,E H r.sg,E H (r.tm:Int)] 60));have z:Bl w W0:=by rw[<-p];exact Ba w _
 have ML:Hid (Lg w w.heap.size k m r k W0):=Z ⟨r,⟨_,by rw[<-p];exact Bx.new w _ _,h.below z⟩,z,⟨0,rfl,O⟩,rfl⟩;obtain⟨Qd,HT,HS⟩:=DZ p aq hs;obtain⟨n1,f9⟩:=ex (min n 30);have HM:=Z (show min (max n1 0) 100=(m:Int)by omega);obtain⟨S,B⟩:=ex ((⟨(dT m (XZ m k r).lo).toArray⟩:ByteArray):ByteArray);rw[B];have Ql:=Z B;clear h hs aq p z hn B;go_enter func211,ntmps211
 go_upto_region 1 with fail
 rw[Qd.o];clear Qd;go_wp2;go_loopw [] (λwr=>∃q,Lg w w.heap.size k m r q wr) λwr=>Classical.epsilon (I2 λq=>Lg w w.heap.size k m r q wr)
 case atStart=>exact⟨k,ML.o⟩
 case round=>
  obtain⟨q0,an⟩:=hrel;obtain⟨q,T,_⟩:=Pc (P:=λq=>Lg w w.heap.size k m r q wr) an;obtain⟨a,W,o,⟨i,hi,aj⟩,ah⟩:=T.1;obtain⟨xs,xa,xl,xc,xt,xb,xk,xd,ys,ya,yl,yc,yt,yb,yk,yd,za,zl,zc,bx,ap,bj,am,ai,bi⟩:=W.open;obtain⟨d,U⟩:=HS.o.it i O;rw[<-hi]at d U;obtain⟨g,s,t⟩:=DZ (λ(V:F) (h:Bl wr V)=>Y2 _ a.lo n1 m V (am.below h) (Sq.of d.lo (by have:=d.x2;omega)) HM.o (JX HT.o (Bt o h))) (λ(V:F) (h:Bl wr V)=>Y2 _ a.hi n1 m V (ai.below h) (Sq.of d.hi (by have:=d.x2;omega)) HM.o (JX HT.o (Bt o h))) λ(V:F) (h:Bl wr V)=>bM K X _ a V (ap.below h) d U;obtain⟨A,L⟩:=ex ((⟨(dT m a.lo).toArray⟩:ByteArray):ByteArray);obtain⟨S2,ae⟩:=ex ((⟨(dT m a.hi).toArray⟩:ByteArray):ByteArray);rw[show(⟨(Y4 (a.lo.num*10^m/(a.lo.den:Int)) m).toArray⟩:ByteArray)=A from L]at g;rw[show(⟨(Y4 (a.hi.num*10^m/(a.hi.den:Int)) m).toArray⟩:ByteArray)=S2 from ae]at s;obtain⟨c9,ei⟩:=ex ((A.toList==S2.toList):Bool);have Qf:=Z (show c9=true↔dT m a.lo=dT m a.hi by grind[ByteArray.toList_mk]);have Qh:=Z L;have H5:=g;obtain⟨HN,Qa,Qk,HI,x,Qg⟩:=KA (λ(V:F) (h:Bl wr V)=>bx.below h) o T (Ao hi aj) ah W;have j:=Z λ(V:F) (h:Bl wr V)=>(HN.o V h).all;have l:=Z (show ∀V:F,Bl wr V->∀i,V.frozen? ⟨w.heap.size,i,none⟩=false from λV h i=>(HN.o V h).f i);clear an T W o hi aj ah bx ap bj am ai bi d U L ae ML;have c:=j.o _ (BB _ wr);have fr:=l.o _ (BB _ wr);go_upto_region 2 with fail
  have hq:Bl wr wr.drew:=(BB _ wr).drew;go_region_held3 (λw'=>∀i,w'.cell? ⟨w.heap.size,i,none⟩=#[D xs,C xa xl xc,D xt,C xb xk xd,D ys,C ya yl yc,D yt,C yb yk yd,C za zl zc,E H a.sg,E H (a.tm:Int)][i]?) (first|(with_reducible exact c)|(go_keep;done))
   (first
    |(go_at_call 249;refine(g.o _ hq).mono ?_;clear g;rintro e w1 ⟨rfl,az⟩;have hq:=Bt hq az;clear c fr;have c:=j.o _ hq;have fr:=l.o _ hq)
    |(go_at_call 249;refine(s.o _ hq).mono ?_;clear s;rintro e w2 ⟨rfl,bg⟩;have hq:=Bt hq bg;clear c fr;have c:=j.o _ hq;have fr:=l.o _ hq))
  cases c9 with
  |false=>
   have y:¬dT m a.lo=dT m a.hi:=λh=>by have:=Qf.o.2 h;cases this
   obtain⟨f,rfl⟩:∃f,q=f+1:=by
    cases q with
    |succ f=>exact⟨f,rfl⟩
    |zero=>
     have b:=x.o;rw[XZ]at b;have h2:=HS.o.stop;rw[<-b]at h2;exact absurd h2 y
   have Qj:=Z (show XZ m f a.hv=XZ m k r by have b:=x.o;rw[XZ,BE y]at b;exact b);clear y;go_wp2_with(go_at_call 192;refine(t.o _ hq).mono ?_;clear t;rintro e w3 ⟨u3,rfl,ay,M⟩;have hq:=Bt hq M;obtain⟨co,bm,cn,bu,de,bn,cj,bz,dz,df,dx,di,ed,dh,dt,dj,fg,fi,fh,rfl,_,_⟩:=JJ.form ay;clear c fr;have c:=j.o _ hq;have fr:=l.o _ hq)
   have Qe:=(show Lg w w.heap.size k m r f _ from⟨a.hv,IF.put (Qg.o.below hq) ay,TG (Bt Qa.o hq) (Aa _) _ _ _ _ _ _ _ _ _ _ _,⟨i+1,by rw[cC,<-HI.o.1],by have:=HI.o.2;omega⟩,Qj.o⟩);go_roundw
   case rel=>exact⟨f,Qe⟩
   case measure=>exact TL (P:=λq=>Lg w w.heap.size k m r q wr) (Q:=λq=>Lg w w.heap.size k m r q _) Qk.o Qe
  |true=>
   have HE:=Z (show a=XZ m k r by
    have b:=x.o;have he:=Qf.o.1 rfl;cases q with
     |zero=>exact b
     |succ q=>rw[XZ,BF he]at b;exact b)
   have Qi:=Z (show A=S by rw[<-Qh.o,<-Ql.o,HE.o]);have u:=Z λ(V:F) (h:Bl wr V)=>H5.o V h;rw[Qi.o]at u;clear t H5;go_wp2_with(go_at_call 249;refine(u.o _ hq).mono ?_;clear u;rintro e w3 ⟨rfl,M⟩;have hq:=Bt hq M)
   go_ret;exact⟨rfl,Bt Qa.o hq⟩
def tu(v:G)(ps:Ja)(w:F)(h:Je w v ps)(tp:Jc ps=ps)(P:ps≠[])(aj:Sqs ps)(m:∀i,Sq (cf ps i/cf ps (ps.length-1))):
 Calls I 187 #[v] w λe w'=>∃u,e=.returned u/\Jf w' u (J9 ps)/\Bl w w':=by
 obtain⟨c,la,d,rfl⟩:=h.form;obtain⟨bg,ay,az,bi,_⟩:=h.row.forms;have s:=Jp tp P;obtain⟨n,hn⟩:=ex (ps.length-1:Nat);have Qh:(ps.length:Int)-1=(n:Int):=by have:=Ag.2 P;omega
 rw[hn]at s m;obtain⟨Qm,Qi,Qn,Qf,Qo,Qk⟩:=KA (show decide (cf ps n≠0)=true from BI s) (show ∀i,KS (EH ps i) (Yu (cf ps i/cf ps n))=EH ps (i+1)from λi=>by rw[EH,hn]) (show EH ps n+1=J9 ps by unfold J9;rw[hn]) aj m (show ∀i,Sq (Yu (cf ps i/cf ps n))from λi=>oJ (m i));have Qg:=Z (show ∀i,Sq (EH ps i)from λi=>by
  induction i with
   |zero=>exact GF
   |succ i ih=>rw[<-Qi.o];unfold KS;split;exact Qk.o i;exact ih)
 have HP:=Z λ(V:F) (Q:Bl w V)=>h.below Q;have A:=Z λ(V:F) (Q:Bl w V)=>Yo (N #[C c la d]) ps V (h.below Q);rw[Qh]at A;obtain⟨W0,ae,k⟩:=Ix 25 (.cell 25 (C c la d)) EO 50 (.rat 0) (XF _) 50 (.rat (EH ps 0)) (XF _) (w:=w);have cj:n<=1099511627776:=O
 clear h bg ay az bi hn Qh aj m s tp P;go_enter func187,ntmps187
 go_upto_region 2 with fail
 rw[ae.o];clear ae;have c0:=(k.o.cell (i:=0) rfl).1.cell;go_upto_region 3 with(go_at_call 75;refine(A.o _ k.o.2.2).mono ?_;rintro e w2 ⟨rfl,ah⟩)
 have ML:Hid (DJ w w2 [some (w.heap.size,.cell 25 (C c la d)),some (w.heap.size+1,.rat 0),some (w.heap.size+1+1,.rat (EH ps 0))]):=Z (k.o.below ah);clear c0 ah k;go_loopw [11] (λW wr=>∃i:Nat,i<=n/\W=E H (i:Int)/\Hid (DJ w wr [some (w.heap.size,.cell 25 (C c la d)),some (w.heap.size+1,.rat 0),some (w.heap.size+1+1,.rat (EH ps i))])) λW _=>n-(intOf W).toNat
 case atStart=>exact⟨0,Ay _,rfl,ML⟩
 case round=>
  obtain⟨i,hi,rfl,l⟩:=hrel;clear ML;by_cases bu:i<n
  . have bz:(i:Int)<(n:Int):=O
    go_upto_region 5 with fail
    refine YD Di [[],[],[0,1],[],[],[4,2],[3,5,5],[2,6,6],[7],[8],[8],[],[11,9,7,0,1,2,3,4,5,6,7,8,9,11],[10,12,0,1,2,3,4,5,6,7,8,9,10,11,12]] [.eq (N #[C c la d]),.eq (Value.int IntKind.i64 ↑i),.rat (cf ps i),.eq (N #[C c la d]),.eq (N #[C c la d]),.eq (E H (n:Int)),.rat (cf ps n),.tup1 (.rat (cf ps i/cf ps n)),.tup1 (.rat (cf ps i/cf ps n)),.rat (cf ps i/cf ps n),.eq (D true),.ptr,.eq undef,.eq (D true)] [11,12] (λb v V=>DJ w V [some (w.heap.size,.cell 25 (C c la d)),some (w.heap.size+1,.rat 0),some (w.heap.size+1+1,.rat (EH ps i)),nb b v 0 1 (.rat 0) (.rat (cf ps i/cf ps n))]) (l.o.none).drew (SR (.vl rfl λ_ j=>GE 0 j)<|SR (.vl rfl λ_ _=>mv)<|SR (.cl λh j=>c2 (h.e 0) (h.e 1) (by have q:=IA _ ps (i:Int) _ (HP.o _ j.2.2);rw[Iz]at q;exact q))<|SR (.vl rfl λ_ j=>GE 0 j)<|SR (.vl rfl λ_ j=>GE 0 j)<|SR (.cl λh j=>c1 (h.e 4) (rv (A.o _ j.2.2)))<|SR (.cl λh j=>c2 (h.e 3) (h.e 5) (by have q:=IA _ ps (n:Int) _ (HP.o _ j.2.2);rw[Iz]at q;exact q))<|SR (.cl λh _=>Od (Qm.o ▸ Re _ _ (cf ps i) (cf ps n) _ (h.g 2) (h.g 6) (Qf.o.at i) (Qf.o.at n)))<|SR (.vl rfl λh _=>mw (h.g 7))<|SR (.vl rfl λh _=>Ol (h.g 8))<|SR (.vl rfl λh _=>Om (h.g 8))<|SR (.wr rfl λ_ j=>Og 3 j)<|SR (.wr rfl λh j=>L1 3 j (h.g 9) (hp:=h.g 11))<|SR (.vl rfl λh _=>aw (h.g 10)) Stp.end_)
     λf V2 hF a=>?_
    refine DP ?_;rw[hF.e 0,hF.e 1,hF.e 3,hF.e 4,hF.e 5,hF.e 10,hF.e 13];obtain⟨B3,S⟩:=hF.p 11;have a:=Dw a;simp only[S]at a;rw[S];have M3:=Z a;clear a hF S;clear l;go_upto_region 6 with fail
    refine YD Di [[],[],[1],[0,2,2],[3,3,0,1,2,3]] [.rat (EH ps i),.rat (cf ps i/cf ps n),.rat (Yu (cf ps i/cf ps n)),.rat (EH ps (i+1)),.eq undef] [4] (λb _ V=>DJ w V [some (w.heap.size,.cell 25 (C c la d)),some (w.heap.size+1,.rat 0),some (w.heap.size+1+1,if b.getD 0 false then .rat (EH ps (i+1))else .rat (EH ps i)),some (B3,.rat (cf ps i/cf ps n))]) M3.o.drew (SR (.vl rfl λ_ j=>Ej 2 j)<|SR (.vl rfl λ_ j=>Ej 3 j)<|SR (.cl λh _=>sY _ (cf ps i/cf ps n) _ (h.g 1) (Qo.o i))<|SR (.cl λh _=>by have q:=sZ _ _ (EH ps i) (Yu (cf ps i/cf ps n)) _ (h.g 0) (h.g 2) (Qg.o i) (Qk.o i);rw[Qi.o]at q;exact q)<|SR (.wr rfl λh j=>L1 2 j (h.g 3)) Stp.end_)
     λf V5 hF a=>?_
    refine DP ?_;have a:=Dw a;have M4:=Z a;clear a hF;clear M3;go_wp2_with fail
    go_roundw
    case rel=>exact⟨i+1,O,by go_num,Z (M4.o.take 3)⟩
    case measure=>simp[intOf];omega
  . obtain rfl:i=n:=O
    have p:=Z λ(V:F)=>GW 1 O O V;have HB:=p;have r:=Z λ(V:F) (x y:G) (hx:Jk V x 1) (hy:Jk V y 1)=>Kk x y 1 1 V hx hy (Sok.of (Sm.one 1 O) O) (Sok.of (Sm.one 1 O) O);rw[show decide ((1:Int)≠0)=true from rfl,show yB 1 1=1 from rfl]at r;go_upto_region 9 with(first
     |(go_at_call 107;refine(p.o _).mono ?_;clear p;rintro e w3 ⟨u3,rfl,t,ap⟩)
     |(go_at_call 107;refine(HB.o _).mono ?_;clear HB;rintro e w4 ⟨u4,rfl,bj,ai⟩;have t:=t.below ai)
     |(go_at_call 193;refine(r.o _ _ _ t bj).mono ?_;clear r;rintro e o ⟨u5,rfl,am,aq⟩;obtain⟨s9,K,l9,L,t9,b9,X,M,rfl⟩:=Jf.form am))
    obtain⟨V6,U⟩:=ex (o.alloc (.cells #[D s9,C K l9 L,D t9,C b9 X M] 50));obtain⟨B6,T⟩:=ex (o.heap.size);have a:DJ w (o.alloc (.cells #[D s9,C K l9 L,D t9,C b9 X M] 50)) [some (w.heap.size,.cell 25 (C c la d)),some (w.heap.size+1,.rat 0),some (w.heap.size+1+1,.rat (EH ps i)),some (o.heap.size,.rat 1)]:=DJ.push (((l.o.below ap).below ai).below aq) (.rat 1) am;rw[U,T]at a;rw[U];rw[T];have M3:Hid (DJ w V6 [some (w.heap.size,.cell 25 (C c la d)),some (w.heap.size+1,.rat 0),some (w.heap.size+1+1,.rat (EH ps i)),some (B6,.rat 1)]):=Z (a);clear l;clear a U T;obtain⟨s7,a7,l7,c7,t7,b7,k7,d7,n7,r7,i7,j7⟩:=M3.o.rat (i:=2) rfl;have bm:=n7.kb;obtain⟨s8,a8,l8,c8,t8,b8,k8,d8,n8,r8,i8,j8⟩:=M3.o.rat (i:=3) rfl;have bn:=n8.kb;obtain⟨s9,K,l9,L,t9,b9,X,M,g,r9,i9,j9⟩:=M3.o.rat (i:=1) rfl;have B:=g.kb;have Qj:=g.fb;have z:=Z (LK _ _ (EH ps i) 1 V6 r7 r8 (Qg.o i) sX);rw[Qn.o]at z;go_wp2_with(go_at_call 43;refine z.o.mono ?_;clear z;rintro e w6 ⟨u6,rfl,an,hq⟩;obtain⟨s8,a8,l8,c8,t8,b8,k8,d8,rfl⟩:=Jf.form an;clear B;have B:=(g.below hq).kb;clear Qj;have Qj:=(g.below hq).fb)
    have Qp:=Bt M3.o.2.2 hq;have Ql:=M3.o.ge 1 rfl;exact BA (by simp[results,results187,go_sem,B]) rfl ⟨_,rfl,an.put4 (g.below hq) rfl rfl rfl rfl _ _ _ _,Jw Qp Ql _ _ _ _⟩
def Yz(B:Rat):Nat->Nat->Nat
 |0,i=>i
 |n+1,i=>if(2:Rat)^i<B then Yz B n (i+1)else i
structure ArOk(X k:Nat)(p:Ja):Prop where
 tp:Jc p=p
 p0:p≠[]
 sp:Sqs p
 sr:∀i,Sq (cf p i/cf p (p.length-1))
 sb:Sq (J9 p)
 sx:∀i,i<=k->DS X ((2:Rat)^i)
 x2:X+X+2<=1000000000
 stop:¬(2:Rat)^(Yz (J9 p) k 0)<J9 p
def ArI(w:F)(B2 B3 B4 k:Nat)(B:Rat)(n:Nat)(V:F):Prop:=
 ∃i,i+n=k/\Yz B n i=Yz B k 0/\Bx V B2 58 #[D false,C none 0 0,D false,C none 0 0,D false,C none 0 0,D false,C none 0 0]/\DJ w V [some (B3,.rat B),some (B4,.rat ((2:Rat)^i))]/\Bl w V
def tx{V:F}{B:Nat}{cs:Array G}(h:Bx V B 58 cs)(x0 x1 x2 x3 y0 y1 y2 y3:G):Kp V ((((((((V.setCell ⟨B,0,none⟩ x0).setCell ⟨B,1,none⟩ x1).setCell ⟨B,2,none⟩ x2).setCell ⟨B,3,none⟩ x3).setCell ⟨B,4,none⟩ y0).setCell ⟨B,5,none⟩ y1).setCell ⟨B,6,none⟩ y2).setCell ⟨B,7,none⟩ y3):=
 (((((((Kx h 0 x0).trans (Kx (h.set 0 x0) 1 x1)).trans (Kx ((h.set 0 x0).set 1 x1) 2 x2)).trans (Kx (((h.set 0 x0).set 1 x1).set 2 x2) 3 x3)).trans (Kx ((((h.set 0 x0).set 1 x1).set 2 x2).set 3 x3) 4 y0)).trans (Kx (((((h.set 0 x0).set 1 x1).set 2 x2).set 3 x3).set 4 y0) 5 y1)).trans (Kx ((((((h.set 0 x0).set 1 x1).set 2 x2).set 3 x3).set 4 y0).set 5 y1) 6 y2)).trans (Kx (((((((h.set 0 x0).set 1 x1).set 2 x2).set 3 x3).set 4 y0).set 5 y1).set 6 y2) 7 y3)
def uA{n B:Nat}{w V:F}(h:Below n w V)(a:n<=B)(x0 x1 x2 x3 y0 y1 y2 y3:G):Below n w ((((((((V.setCell ⟨B,0,none⟩ x0).setCell ⟨B,1,none⟩ x1).setCell ⟨B,2,none⟩ x2).setCell ⟨B,3,none⟩ x3).setCell ⟨B,4,none⟩ y0).setCell ⟨B,5,none⟩ y1).setCell ⟨B,6,none⟩ y2).setCell ⟨B,7,none⟩ y3):=
 (((((((h.setCell (p:=⟨B,0,none⟩) a _).setCell (p:=⟨B,1,none⟩) a _).setCell (p:=⟨B,2,none⟩) a _).setCell (p:=⟨B,3,none⟩) a _).setCell (p:=⟨B,4,none⟩) a _).setCell (p:=⟨B,5,none⟩) a _).setCell (p:=⟨B,6,none⟩) a _).setCell (p:=⟨B,7,none⟩) a _
def Bx.far4{V:F}{B C:Nat}{t:TypeId}{cs:Array G}(h:Bx V C t cs)(a:C≠B)(x0 x1 x2 x3:G):Bx (put4 V B x0 x1 x2 x3) C t cs:=
 (((h.far (p:=⟨B,0,none⟩) a _).far (p:=⟨B,1,none⟩) a _).far (p:=⟨B,2,none⟩) a _).far (p:=⟨B,3,none⟩) a _
theorem uB(X k:Nat)(v:G)(p:Ja)(w:F)(h:Je w v p)(hs:ArOk X k p):
 Calls I 116 #[v] w λe w'=>∃u,e=.returned u/\Yq w' u (-((2:Rat)^Yz (J9 p) k 0)) ((2:Rat)^Yz (J9 p) k 0)/\Bl w w':=by
 obtain⟨pa,la,pc,rfl⟩:=h.form;obtain⟨W0,U⟩:=ex ((w.alloc (.cells #[C pa la pc] 25)).alloc (.cells #[D false,C none 0 0,D false,C none 0 0,D false,C none 0 0,D false,C none 0 0] 58));have Qe:Bl w W0:=by rw[<-U];exact(Ba w _).alloc (by simp only[Ax];omega) _
 have n1:Boxed W0 w.heap.size 25 (C pa la pc):=by rw[<-U];exact(BH w _ _).alloc _
 have n2:Bx W0 (w.heap.size+1) 58 #[D false,C none 0 0,D false,C none 0 0,D false,C none 0 0,D false,C none 0 0]:=by
  have h:=Bx.new (w.alloc (.cells #[C pa la pc] 25)) 58 #[D false,C none 0 0,D false,C none 0 0,D false,C none 0 0,D false,C none 0 0];simp only[Ax]at h;rw[U]at h;exact h
 have Qj:=Z U;have b:=n1.cell;have y:=Z (tu _ p W0 (h.below Qe) hs.tp hs.p0 hs.sp hs.sr);obtain⟨B,A⟩:=ex (J9 p);obtain⟨H2,HS,Qg⟩:=DZ (λ(V:F)=>bF 1 O O V) hs A;rw[A]at y ⊢;have a:=Z (Ao n2 Qe);clear h hs U Qe n1 n2 A;go_enter func116,ntmps116
 go_upto_region 1 with fail
 rw[Qj.o];go_upto_region 2 with(first
  |(go_at_call 187;refine y.o.mono ?_;rintro e w1 ⟨u1,rfl,S,aq⟩)
  |(go_at_call 188;refine(H2.o _).mono ?_;rintro e w2 ⟨u2,rfl,ap,ai⟩;have S:=S.below ai;have hq:=Bt aq ai;obtain⟨s1,a1,l1,c1,t1,b1,k1,d1,rfl⟩:=Jf.form S;obtain⟨s2,a2,l2,c2,t2,b2,k2,d2,rfl⟩:=Jf.form ap))
 have M0:DJ w w2 []:=⟨λi B z h=>by simp at h,λi j B z z' h=>by simp at h,Bt a.o.2 hq⟩;have M1:=DJ.push (DJ.push M0 (.rat B) S) (.rat ((2:Rat)^0)) (Has.alloc (d:=.rat ((2:Rat)^0)) (show Jf _ _ ((2:Rat)^0)by rw[CQ];exact ap) _);simp only[Ax]at M1;obtain⟨V2,ah⟩:=ex ((w2.alloc (.cells #[D s1,C a1 l1 c1,D t1,C b1 k1 d1] 50)).alloc (.cells #[D s2,C a2 l2 c2,D t2,C b2 k2 d2] 50));obtain⟨B3,ae⟩:=ex (w2.heap.size);have M2:DJ w V2 [some (B3,.rat B),some (B3+1,.rat ((2:Rat)^0))]:=by rw[<-ah,<-ae];exact M1
 have bi:w.heap.size+1<B3:=by rw[<-ae];have:=hq.size;have:=a.o.1.lt;omega
 have ML:Hid (ArI w (w.heap.size+1) B3 (B3+1) k B k V2):=Z ⟨0,O,rfl,by rw[<-ah];exact((a.o.1.below hq).alloc _).alloc _,M2,M2.2.2⟩;rw[ah,ae];clear M0 M1 M2 ah ae S ap hq aq ai b;go_loopw [] (λwr=>∃n,ArI w (w.heap.size+1) B3 (B3+1) k B n wr) λwr=>Classical.epsilon (I2 λn=>ArI w (w.heap.size+1) B3 (B3+1) k B n wr)
 case atStart=>exact⟨k,ML.o⟩
 case round=>
  obtain⟨n0,bg⟩:=hrel;obtain⟨m,hm,_⟩:=Pc (P:=λn=>ArI w (w.heap.size+1) B3 (B3+1) k B n wr) bg;obtain⟨i,az,ay,n2,M,A⟩:=hm.1;have sx:=HS.o.sx i O;have T:=Sq.of sx (by have:=HS.o.x2;omega);have Qh:Sq B:=by rw[<-Qg.o];exact HS.o.sb
  obtain⟨s3,a3,l3,c3,t3,b3,k3,d3,K,r3,_,_⟩:=M.rat (i:=0) rfl;obtain⟨s4,a4,l4,c4,t4,b4,k4,d4,c,r4,_,_⟩:=M.rat (i:=1) rfl;obtain⟨y,H2,H3⟩:=DZ (Xd _ _ ((2:Rat)^i) B wr r4 r3 T Qh) (λ(V:F) (h:Bl wr V)=>LK _ _ ((2:Rat)^i) ((2:Rat)^i) V (r4.below h) (r4.below h) T T) λ(V:F) (h:Bl wr V)=>L3 _ _ 0 ((2:Rat)^i) V (XF _) (r4.below h) GF T;rw[show(2:Rat)^i+(2:Rat)^i=(2:Rat)^(i+1)by rw[AO];grind]at H2;rw[show(0:Rat)-(2:Rat)^i=-((2:Rat)^i)by grind]at H3;obtain⟨z,hz⟩:=ex (Yw ((2:Rat)^i) B);rw[hz]at y;obtain⟨HZ,HN,HM,HQ,Qd,L,HF⟩:=KB (show z<0↔(2:Rat)^i<B by rw[<-hz];exact KG) (λ(V:F) (h:Bl wr V)=>Ao (n2.below h) (Ao (K.below h) (Ao (c.below h) (Ao (M.below h) (r4.below h))))) hm (Ao az ay) A (show ∀V:F,Bl wr V->V.cell? ⟨B3,0,none⟩=some (D s3)/\V.cell? ⟨B3,1,none⟩=some (C a3 l3 c3)/\V.cell? ⟨B3,2,none⟩=some (D t3)/\V.cell? ⟨B3,3,none⟩=some (C b3 k3 d3)/\V.cell? ⟨B3+1,0,none⟩=some (D s4)/\V.cell? ⟨B3+1,1,none⟩=some (C a4 l4 c4)/\V.cell? ⟨B3+1,2,none⟩=some (D t4)/\V.cell? ⟨B3+1,3,none⟩=some (C b4 k4 d4)from λV h=>⟨(K.below h).c0,(K.below h).c1,(K.below h).c2,(K.below h).c3,(c.below h).c0,(c.below h).c1,(c.below h).c2,(c.below h).c3⟩) (show ∀V:F,Bl wr V->(V.frozen? ⟨B3+1,0,none⟩=false/\V.frozen? ⟨B3+1,1,none⟩=false/\V.frozen? ⟨B3+1,2,none⟩=false/\V.frozen? ⟨B3+1,3,none⟩=false)from λV h=>⟨(c.below h).f0,(c.below h).f1,(c.below h).f2,(c.below h).f3⟩);clear bg hm az ay n2 M A sx T Qh K r3 c r4 hz ML;have hq:Bl wr wr:=BB _ wr;obtain⟨l,b,o,q,g0,r,s,t⟩:=L.o _ hq;obtain⟨f0,f1,f2,f3⟩:=HF.o _ hq;by_cases an:z<0
  . have hl:=HZ.o.1 an;obtain⟨x,rfl⟩:∃x,m=x+1:=by
     cases m with
     |succ x=>exact⟨x,rfl⟩
     |zero=>
      have f:=HQ.o.2;rw[Yz]at f;have h2:=HS.o.stop;rw[Qg.o,<-f]at h2;exact absurd hl h2
    have Qk:=Z (show Yz B x (i+1)=Yz B k 0 by have f:=HQ.o.2;rw[Yz,BF hl]at f;exact f);clear hl;go_wp2_with(first
     |(go_at_call 21;refine y.o.mono ?_;rintro e g ⟨rfl,aj⟩;have hq:=Bt hq aj;clear l b o q g0 r s t f0 f1 f2 f3;obtain⟨l,b,o,q,g0,r,s,t⟩:=L.o _ hq;obtain⟨f0,f1,f2,f3⟩:=HF.o _ hq)
     |(go_at_call 43;refine(H2.o _ hq).mono ?_;rintro e w4 ⟨u4,rfl,W,am⟩;obtain⟨s5,a5,l5,c5,t5,b5,k5,d5,rfl⟩:=Jf.form W;have hq:=Bt hq am;clear l b o q g0 r s t f0 f1 f2 f3;obtain⟨l,b,o,q,g0,r,s,t⟩:=L.o _ hq;obtain⟨f0,f1,f2,f3⟩:=HF.o _ hq))
    obtain⟨q1,q2,q3,q4,q5⟩:=HN.o _ hq;have Qf:=(show ArI w (w.heap.size+1) B3 (B3+1) k B x _ from⟨i+1,by have:=HQ.o.1;omega,Qk.o,q1.far4 (B:=B3+1) O _ _ _ _,q4.putRat (i:=1) rfl W,Jw (Bt Qd.o hq) O _ _ _ _⟩);go_roundw
    case rel=>exact⟨x,Qf⟩
    case measure=>exact TL (P:=λn=>ArI w (w.heap.size+1) B3 (B3+1) k B n wr) (Q:=λn=>ArI w (w.heap.size+1) B3 (B3+1) k B n _) HM.o Qf
  . have HE:=Z (show i=Yz B k 0 by
     have f:=HQ.o.2;cases m with
      |zero=>exact f
      |succ m=>rw[Yz,BE λh=>an (HZ.o.2 h)]at f;exact f)
    obtain⟨E,hE⟩:=ex ((2:Rat)^Yz B k 0);go_upto_region 4 with(go_at_call 21;refine y.o.mono ?_;rintro e g ⟨rfl,aj⟩;have hq:=Bt hq aj;clear l b o q g0 r s t f0 f1 f2 f3;obtain⟨l,b,o,q,g0,r,s,t⟩:=L.o _ hq;obtain⟨f0,f1,f2,f3⟩:=HF.o _ hq)
    obtain⟨Ql,a,H4⟩:=DZ (λ(V:F) (h:Bl g V)=>L.o V (Bt hq h)) (λ(V:F) (h:Bl g V)=>HN.o V (Bt hq h)) λ(V:F) (h:Bl g V)=>H3.o V (Bt hq h);have HJ:=Z (show ∀V:F,Bl g V->V.cell? ⟨w.heap.size+1,0,none⟩=some (D false)/\V.cell? ⟨w.heap.size+1,1,none⟩=some (C none 0 0)/\V.cell? ⟨w.heap.size+1,2,none⟩=some (D false)/\V.cell? ⟨w.heap.size+1,3,none⟩=some (C none 0 0)/\V.cell? ⟨w.heap.size+1,4,none⟩=some (D false)/\V.cell? ⟨w.heap.size+1,5,none⟩=some (C none 0 0)/\V.cell? ⟨w.heap.size+1,6,none⟩=some (D false)/\V.cell? ⟨w.heap.size+1,7,none⟩=some (C none 0 0)/\∀i,V.frozen? ⟨w.heap.size+1,i,none⟩=false from λV h=>⟨(a.o V h).1.c rfl,(a.o V h).1.c rfl,(a.o V h).1.c rfl,(a.o V h).1.c rfl,(a.o V h).1.c rfl,(a.o V h).1.c rfl,(a.o V h).1.c rfl,(a.o V h).1.c rfl,λi=>(a.o V h).1.f i⟩);have Qi:=Z (Bt Qd.o hq);have bj:¬B3+1=w.heap.size+1:=O
    clear hq f0 f1 f2 f3 hE an;obtain⟨j0,j1,j2,j3,j4,j5,j6,j7,fj⟩:=HJ.o _ (BB _ g);have hq:Bl g g.drew:=(BB _ g).drew;go_region_held3 (λw'=>w'.cell? ⟨B3+1,0,none⟩=some (D s4)/\w'.cell? ⟨B3+1,1,none⟩=some (C a4 l4 c4)/\w'.cell? ⟨B3+1,2,none⟩=some (D t4)/\w'.cell? ⟨B3+1,3,none⟩=some (C b4 k4 d4)) (first|grind|(go_keep;done)|(refine⟨?_,?_,?_,?_⟩<;>((repeat rw[JO O]);omega)))
     (first
      |(go_at_call 42;refine(H4.o _ hq).mono ?_;rintro e w4 ⟨u4,rfl,W,am⟩;obtain⟨s5,a5,l5,c5,t5,b5,k5,d5,rfl⟩:=Jf.form W;have hq:=Bt hq am;clear l b o q g0 r s t j0 j1 j2 j3 j4 j5 j6 j7 fj;obtain⟨l,b,o,q,g0,r,s,t⟩:=Ql.o _ hq;obtain⟨j0,j1,j2,j3,j4,j5,j6,j7,fj⟩:=HJ.o _ hq))
    go_wp2_with fail
    obtain⟨q1,q2,q3,q4,q5⟩:=a.o _ hq;have kk:=tx q1 (D s5) (C a5 l5 c5) (D t5) (C b5 k5 d5) (D s4) (C a4 l4 c4) (D t4) (C b4 k4 d4);exact BA (v:=N #[D s5,C a5 l5 c5,D t5,C b5 k5 d5,D s4,C a4 l4 c4,D t4,C b4 k4 d4]) (by simp[results,results116,go_sem,j0,j1,j2,j3,j4,j5,j6,j7]) rfl ⟨_,rfl,by rw[<-HE.o];exact⟨_,_,_,_,_,_,_,_,rfl,kk.rat W,kk.rat q5⟩,uA (Bt Qi.o hq) O _ _ _ _ _ _ _ _⟩
def Dat.span(a b:Rat):Dat where
 ty:=58
 has V v:=Yq V v a b
 noPoly:=true
 below h hb:=h.below hb
 keep h hk _:=by
  obtain⟨x0,x1,x2,x3,y0,y1,y2,y3,e,c,d⟩:=h;exact⟨x0,x1,x2,x3,y0,y1,y2,y3,e,XA.keep c hk,XA.keep d hk⟩
section
variable {w V V':World} {bs:List (Option (Nat × Dat))} {i B:Nat} {ρ:Operand->Value} {x y:Operand} {dst:Option Tmp} {ty:TypeId} {ps:String} {af:Array Edge} {gd:Option (Nat × Bool)} {a b a0 b0 q:Rat} {v p1 u1:Value} {ds:List Dat} {T:World->Value->Prop} {d:Dat}
def DJ.stb(t:TypeId)(M:DJ w V bs)(h:bs[i]?=some (some (B,d))){cs:Array G}(a:Dat)(e:Bx V' B a.ty cs)(f:Has V (N cs) a)(S:Stb B V V':=by(repeat with_reducible apply Stb.s);exact Stb.r)(l:d.ty=t:=by rfl)(b:∀k,IM k≠t:=by intro k;cases k<;>decide)(c:Hy true≠t:=by decide):DJ w V' (bs.set i (some (B,a)))/\∀v d,Has V v d->Has V' v d:=by
 obtain⟨⟨o,n,_⟩,m⟩:=M.1 i B d h;rw[l]at n;have k:=TD n.ty S.far b c;exact⟨M.repl h a e f k.row (λB' t cs j g=>(S.far B' j).trans g) (S.bw _ _ m M.2.2) (Ap k.rowK) (Ap k.rowK),λv d g=>g.keep k.row (Ap k.rowK)⟩
def DJ.span(M:DJ w V bs)(h:bs[i]?=some (some (B,.span a b))):∃x0 x1 x2 x3 y0 y1 y2 y3,Bx V B 58 #[x0,x1,x2,x3,y0,y1,y2,y3]/\Jf V (N #[x0,x1,x2,x3]) a/\Jf V (N #[y0,y1,y2,y3]) b:=by
 obtain⟨⟨cs,n,x0,x1,x2,x3,y0,y1,y2,y3,e,c,d⟩,_⟩:=M.1 i B _ h;cases e;exact⟨_,_,_,_,_,_,_,_,n,c,d⟩
def MN(i:Nat)(M:DJ w V bs)(h:bs[i]?=some (some (B,.span a b)):=by rfl)(hp:p1=R (some ⟨B,0,none⟩):=by rfl)(e:ρ x=p1:=by kernel_rfl):∃u,(execOp ρ { dst:=dst,op:=.load 58 x,type:=ty,pos:=ps,after:=af,guard:=gd }).run I V=.ok (.value u) V/\Has V u (.span a b):=by
 rw[hp]at e;obtain⟨x0,x1,x2,x3,y0,y1,y2,y3,n,c,d⟩:=M.span h;have f:=n.all;exact⟨_,by go_simp,⟨_,_,_,_,_,_,_,_,rfl,c,d⟩⟩
def Pd(i:Nat)(M:DJ w V bs)(hv:Has V u1 (.span a b))(h:bs[i]?=some (some (B,.span a0 b0)):=by rfl)(hp:p1=R (some ⟨B,0,none⟩):=by rfl)(j:ρ x=p1:=by kernel_rfl)(r:ρ y=u1:=by kernel_rfl)(hT:∀ {W},DJ w W (bs.set i (some (B,.span a b)))->T W undef:=by exact λm=>m):Wr ρ { dst:=none,op:=.store 58 x y,type:=ty,pos:=ps,after:=af,guard:=gd } V ds (.eq undef) T:=by
 rw[hp]at j;obtain⟨_,_,_,_,_,_,_,_,n,_,_⟩:=M.span h;have q:=n.all;have f0:=n.f;obtain⟨_,_,_,_,_,_,_,_,rfl,c,f⟩:=hv;obtain⟨x0,x1,l1,c1,x2,x3,l,c3,e⟩:=Jf.form c;cases e;obtain⟨y0,y1,o,d1,y2,y3,p,g,e⟩:=Jf.form f;cases e;have m:=DJ.stb 58 M h (.span a b) ((((((((n.set 0 (D x0)).set 1 (C x1 l1 c1)).set 2 (D x2)).set 3 (C x3 l c3)).set 4 (D y0)).set 5 (C y1 o d1)).set 6 (D y2)).set 7 (C y3 p g)) ⟨_,_,_,_,_,_,_,_,rfl,c,f⟩;exact⟨.skip,undef,_,by go_simp,Ap ⟨rfl,rfl⟩,rfl,λd v _ k=>m.2 v d k,hT m.1⟩
def cD(i:Nat)(M:DJ w V bs)(h:bs[i]?=some none:=by rfl)(hT:∀ {o},DJ w (V.alloc o) (bs.set i (some (V.heap.size,.span 0 0)))->T (V.alloc o) (R (some ⟨V.heap.size,0,none⟩)):=by exact λm=>m):Wr ρ { dst:=dst,op:=.alloc 58,type:=ty,pos:=ps,after:=af,guard:=gd } V ds .ptr T:=
 ⟨_,R (some ⟨V.heap.size,0,none⟩),_,by go_simp;exact rfl,An rfl,rfl,λ_ _ _ k=>k.alloc _,hT (M.fill h (.span 0 0) ⟨_,_,_,_,_,_,_,_,rfl,XF V,XF V⟩)⟩
def uC(i:Nat)(M:DJ w V bs)(hv:Has V u1 (.rat q))(hp:p1=R (some ⟨B,0,none⟩))(h:bs[i]?=some (some (B,.span a b)):=by rfl)(o:ρ x=p1:=by kernel_rfl)(p:ρ y=u1:=by kernel_rfl)(hT:∀ {W},DJ w W (bs.set i (some (B,.span q b)))->T W undef:=by exact λm=>m):Wr ρ { dst:=none,op:=.store 50 x y,type:=ty,pos:=ps,after:=af,guard:=gd } V ds (.eq undef) T:=by
 rw[hp]at o;obtain⟨x0,x1,x2,x3,y0,y1,y2,y3,n,_,j⟩:=M.span h;have r:=n.all;have f0:=n.f;obtain⟨s,f,l,c,t,g,k,d,e⟩:=Jf.form (show Jf V _ _ from hv);rw[e]at hv p;have m:=DJ.stb 58 M h (.span q b) ((((n.set 0 (D s)).set 1 (C f l c)).set 2 (D t)).set 3 (C g k d)) ⟨_,_,_,_,_,_,_,_,rfl,hv,j⟩;exact⟨.skip,undef,_,by go_simp,Ap ⟨rfl,rfl⟩,rfl,λd v _ k=>m.2 v d k,hT m.1⟩
def uD(i:Nat)(M:DJ w V bs)(hv:Has V u1 (.rat q))(hp:p1=R (some ⟨B,4,none⟩))(h:bs[i]?=some (some (B,.span a b)):=by rfl)(o:ρ x=p1:=by kernel_rfl)(p:ρ y=u1:=by kernel_rfl)(hT:∀ {W},DJ w W (bs.set i (some (B,.span a q)))->T W undef:=by exact λm=>m):Wr ρ { dst:=none,op:=.store 50 x y,type:=ty,pos:=ps,after:=af,guard:=gd } V ds (.eq undef) T:=by
 rw[hp]at o;obtain⟨x0,x1,x2,x3,y0,y1,y2,y3,n,j,_⟩:=M.span h;have r:=n.all;have f0:=n.f;obtain⟨s,f,l,c,t,g,k,d,e⟩:=Jf.form (show Jf V _ _ from hv);rw[e]at hv p;have m:=DJ.stb 58 M h (.span a q) ((((n.set 4 (D s)).set 5 (C f l c)).set 6 (D t)).set 7 (C g k d)) ⟨_,_,_,_,_,_,_,_,rfl,j,hv⟩;exact⟨.skip,undef,_,by go_simp,Ap ⟨rfl,rfl⟩,rfl,λd v _ k=>m.2 v d k,hT m.1⟩
end
def uE(v:G)(a b:Rat)(w:F)(h:Yq w v a b)(n:Sq a)(hb:Sq b)(hs:Sq (a+b)):
 Calls I 189 #[v] w λe w'=>∃u1 u2,e=.returned (.tuple #[u1,u2])/\Yq w' u1 a (Dc a b)/\Yq w' u2 (Dc a b) b/\Bl w w':=by
 obtain⟨x0,x1,x2,x3,y0,y1,y2,y3,rfl,p,o⟩:=h;obtain⟨W0,l,np,nq,y,t⟩:=bE w 58 58 58 #[x0,x1,x2,x3,y0,y1,y2,y3] #[D false,C none 0 0,D false,C none 0 0,D false,C none 0 0,D false,C none 0 0] #[D false,C none 0 0,D false,C none 0 0,D false,C none 0 0,D false,C none 0 0];have d:Hid (DJ w W0 [some (w.heap.size,.span a b),some (w.heap.size+1,.span 0 0),some (w.heap.size+1+1,.span 0 0)]):=Z (by
  have h:=(((DJ.nil w).push (.span a b) (cs:=#[x0,x1,x2,x3,y0,y1,y2,y3]) ⟨_,_,_,_,_,_,_,_,rfl,p,o⟩).push (.span 0 0) ⟨_,_,_,_,_,_,_,_,rfl,XF _,XF _⟩).push (.span 0 0) ⟨_,_,_,_,_,_,_,_,rfl,XF _,XF _⟩;simp only[Ax]at h;rw[<-l];exact h)
 have m:=Z l;clear p o np nq y t l;go_enter func189,ntmps189
 go_upto_region 1 with fail
 rw[m.o];refine YD Di [[],[],[],[],[2,0,0,2,3],[3,1,4,0,1,2,3,4]]
  [.span a b,.span a b,.ptr,.ptr,.eq undef,.eq undef] [2,3,4,5] (λs v V=>DJ w V [some (w.heap.size,.span a b),some (w.heap.size+1,.span 0 0),some (w.heap.size+1+1,.span 0 0),nb s v 0 2 (.span 0 0) (.span a b),nb s v 1 3 (.span 0 0) (.span a b)]) d.o.none.none.drew (SR (.vl rfl λ_ j=>MN 0 j)<|SR (.vl rfl λ_ j=>MN 0 j)<|SR (.wr rfl λ_ j=>cD 3 j)<|SR (.wr rfl λ_ j=>cD 4 j)<|SR (.wr rfl λh j=>Pd 3 j (h.g 0) (hp:=h.g 2))<|SR (.wr rfl λh j=>Pd 4 j (h.g 1) (hp:=h.g 3)) Stp.end_)
  λf V hF c=>?_
 refine DP ?_;obtain⟨B4,g⟩:=hF.p 2;obtain⟨B5,k⟩:=hF.p 3;have c:=Dw c;rw[g,k];simp only[g,k]at c;have d:=Z c;clear hF c m g k;go_upto_region 2 with fail
 refine YD Di [[],[0],[],[2,1],[0,1],[4,1,3,0,1],[0,1,2,3,4,5],[6,3,5,0,1,2,3,4,5]]
  [.span a b,.rat (Dc a b),.span a b,.rat (Dc a b),.eq (R (some ⟨B4,4,none⟩)),.eq undef,.eq (R (some ⟨B5,0,none⟩)),.eq undef] [5,7] (λs _ V=>DJ w V [some (w.heap.size,.span a b),some (w.heap.size+1,.span 0 0),some (w.heap.size+1+1,.span 0 0),some (B4,.span a (if s.getD 0 false then Dc a b else b)),some (B5,.span (if s.getD 1 false then Dc a b else a) b)]) d.o.drew (SR (.vl rfl λ_ j=>MN 0 j)<|SR (.cl λh _=>PW _ a b _ (h.g 0) n hb hs)<|SR (.vl rfl λ_ j=>MN 0 j)<|SR (.cl λh _=>PW _ a b _ (h.g 2) n hb hs)<|SR (.vl rfl λ_ _=>⟨_,by refine DP ?_;go_simp,rfl⟩)<|SR (.wr rfl λh j=>uD 3 j (h.g 1) (h.e 4))<|SR (.vl rfl λ_ _=>⟨_,by refine DP ?_;go_simp,rfl⟩)<|SR (.wr rfl λh j=>uC 4 j (h.g 3) (h.e 6)) Stp.end_)
  λf V hF c=>?_
 refine DP ?_;have c:=Dw c;rw[hF.e 4,hF.e 6];have d:=Z c;clear hF c;go_upto_region 3 with fail
 refine YD Di [[],[],[0,0],[1,2,0,1,2]]
  [.span a (Dc a b),.span (Dc a b) b,.eq undef,.eq undef] [2,3] (λs _ V=>DJ w V [some (w.heap.size,.span a b),some (w.heap.size+1,if s.getD 0 false then .span a (Dc a b)else .span 0 0),some (w.heap.size+1+1,if s.getD 1 false then .span (Dc a b) b else .span 0 0),some (B4,.span a (Dc a b)),some (B5,.span (Dc a b) b)]) d.o.drew (SR (.vl rfl λ_ j=>MN 3 j)<|SR (.vl rfl λ_ j=>MN 4 j)<|SR (.wr rfl λh j=>Pd 1 j (h.g 0))<|SR (.wr rfl λh j=>Pd 2 j (h.g 1)) Stp.end_)
  λf V hF c=>?_
 have c:=Dw c;refine DP ?_;obtain⟨_,_,_,_,_,_,_,_,u,p1,z⟩:=c.span (i:=1) rfl;obtain⟨_,_,_,_,_,_,_,_,x,A,B⟩:=c.span (i:=2) rfl;have q:=u.all;have r:=x.all;go_wp2_with fail
 exact BA (by simp[results,results189,go_sem,q,r]) rfl ⟨_,_,rfl,⟨_,_,_,_,_,_,_,_,rfl,p1,z⟩,⟨_,_,_,_,_,_,_,_,rfl,A,B⟩,c.2.2⟩
end M3
namespace M3
def cE(v:G)(p:Ja)(w:F)(h:Je w v p)(hl:p.length<=1):
 Calls I 50 #[v] w λe w'=>e=.returned (C none 0 0)/\Bl w w':=by
 have f:(p.length:Int)-1<1:=O
 obtain⟨d0,a⟩:=ex ((p.length:Int)-1:Int);rw[a]at f;have j:=Z a;have g:=Z λ(V:F) (x:G) (r:Ja) (k:Je V x r)=>Yo x r V k;obtain⟨o,la,q,rfl⟩:=h.form;obtain⟨W0,d,c⟩:=Iw 25 (.poly p) h;clear h a hl;go_enter func50,ntmps50
 go_upto_region 1 with fail
 rw[d.o];obtain⟨m,l1,c1,l,r1⟩:=c.o.poly2 (i:=0) rfl;have n:=l.cell;have b:=Z (g.o W0 _ p r1);rw[j.o]at b;go_wp2_with(go_at_call 75;refine b.o.mono ?_;rintro e w1 ⟨rfl,hq⟩)
 go_ret;exact⟨rfl,(c.o.below hq).2.2⟩
end M3
namespace M3
variable{L:List (Ja × Nat)}{e:Ja}{t:Nat}
theorem uF{M n:Nat}(hM:M<=80000)(hn:n<=25){W:Ja}(f:Jc W=W)(W0:W≠[])(P:W.length<=n)(p:Cd M W):∃L:List (Ja × Nat),L.length<=25/\
 (∀x∈L,1<x.1.length/\x.1.length<=n/\1<=x.2/\x.2+1<=W.length/\DQ x.1 (Jb x.1)/\Jc x.1=x.1/\Jr x.1=x.1/\Cd (M+5) x.1)/\
 L.Pairwise (λa b=>a.2<b.2/\DQ a.1 b.1)/\(∀x,ev (Jr W) x=Dk L x)/\
 ∀(V:F) (x:G),Je V x W->Calls I 50 #[x] V λe w'=>∃u,e=.returned u/\EL true V.heap.size w' u L/\Bl V w':=by
 have c:Jr (Jr W)=Jr W:=Ks f;have lq:(Jr W).length=W.length:=LV f;have q0:=LU f W0;have tq:=Yp W;have cq:Cd M (Jr W):=p.mon f;by_cases hl:1<W.length
 . obtain⟨N,l,t⟩:=qN hM rfl rfl f hl O p;have i:=Yun.start tq q0 c;have g:=Yf tq (Jv (Jr W)) (An q0);have j:=l.st;have k:=l.en;refine⟨MF W N,?_,?_,?_,?_,λV x d=>p7 _ _ N x W V d l⟩
   . grind[Zp,MF]
   all_goals
    unfold MF;rw[KN g,KN g]at j k;rw[KN g,KN g]
   . have w:=Z3 i c (λm o=>(j m o).1) k;intro x d;obtain⟨y,z,A,B,r,K,s,_⟩:=(Z1 i c N).1 x d;have v:=(s.len r tq q0).1;grind[qP]
   . exact(Z1 i c N).2
   . exact(Z3 i c (λm o=>(j m o).1) k).2
 . refine⟨[],DI,DI,DI,λx=>?_,λV x d=>(cE x W V d O).mono ?_⟩
   . rw[Z2 tq c q0 O];simp[ev,Dk];grind
   . rintro e w' ⟨rfl,q⟩;exact⟨_,rfl,EL.nil _ _ _,q⟩
theorem uG{i:Nat}(h:L[i]?=some (e,t))(x:Rat):Dk (L.take (i+1)) x=Dk (L.take i) x*ev e x^t:=by
 grind[List.take_add_one,PO,Dk]
def uH{i:Nat}(h:L[i]?=some (e,t))(x:Rat):Dk L x=Dk (L.take i) x*ev e x^t*Dk (L.drop (i+1)) x:=by
 rw[<-uG h,<-PO,A6]
theorem uI:∀L:List (Ja × Nat),∃c:Ja,∀x,ev c x=Dk L x:=by
 have hp:∀(e:Ja) (n:Nat),∃c:Ja,∀x,ev c x=ev e x^n:=λe n=>by
  induction n with
  |zero=>exact⟨[1],λx=>by simp[ev];grind⟩
  |succ n f=>
   obtain⟨c,b⟩:=f;exact⟨Ji c e,λx=>by rw[Jd,b,AO]⟩
 intro L;induction L with
 |nil=>exact⟨[1],λx=>by simp[ev,Dk];grind⟩
 |cons a L f=>
  obtain⟨c,b⟩:=f;obtain⟨d,g⟩:=hp a.1 a.2;exact⟨Ji d c,λx=>by rw[Jd,g,b];rfl⟩
