import Derived.Test.YtakpoihdghihmaaGreatDoorQ48
open Go.Value renaming slice->B,bool->E
open Go.Obj renaming cells->C
open Go renaming World->D,Value->F
set_option maxRecDepth 100000
set_option maxHeartbeats 16000000
namespace Go.Proofs.YtakpoihdghihmaaGreatDoor
namespace M3
open Go.RowKit Go.Shelf
attribute [local go_sem] Oper.semAt_some
end M3
section
open Go.RowKit Go.Shelf
theorem RS(p:List Rat)(a:List Int)(e:p=a.map (λz:Int=>(z:Rat)))(h:a.all (λz=>decide (z.natAbs<100))=true):Cd 1 p:=by
 refine⟨1,DI,Sm.one 1 Y,EG.cdl λi=>?_⟩;rw[e];by_cases b:i<a.length
 . refine⟨a[i],?_,?_⟩
   . have c:=Cb.1 h a[i] (FA b);have d:a[i].natAbs<100:=Bh c;unfold Sm O;omega
   . unfold cf;rw[Fa,Am b];rfl
 . exact⟨0,Sm.zero 1,by rw[Yi si];rfl⟩
def eP:List Rat:=[-2,0,1]
theorem dR:Yz [120,94,50,45,50]=(eP,0,0):=dk
theorem RT:Ej [49]=1/\(Xa [49]).isSome=true:=dk
theorem RU:Jb eP=[0,2]:=dk
theorem dS:ER eP=2:=dk
theorem dT:ES eP 1=1:=dk
theorem dU:DO eP.reverse=1:=dk
theorem RV:Cd 1 eP:=RS eP [-2,0,1] dk DI
theorem RW:CtOk 1 1 eP:=by
 refine⟨?_,?_⟩
 . rw[RU];exact⟨dk,dk,RV,RS _ [0,2] dk DI,DI,DI⟩
 . rw[RU];decide
theorem dV:DT 1 (1:Rat):=⟨Sm.one 1 Y,Sm.one 1 Y⟩
namespace M3
attribute [local go_sem] Oper.semAt_some
theorem dW(w:D):Calls Tryz.prog 22 #[] w λr a=>r=.returned (E true)/\Bl w a:=by
 have S:=Ja (λ(V:D)=>show Calls Tryz.prog 23 #[.string ⟨#[120,94,50,45,50]⟩] V λr a=>∃u,r=.returned (.tuple #[u,.int .i64 0,.int .i64 0])/\Je a u eP/\Bl V a from
  (Pz ⟨#[120,94,50,45,50]⟩ V).mono (λr a h=>by
   obtain⟨u,e,p,i,c,M⟩:=h;rw[IZ,show Jj ⟨#[120,94,50,45,50]⟩=[120,94,50,45,50]from rfl,dR]at c;obtain⟨rfl,rfl,h4⟩:=c;exact⟨u,i,h4,M⟩))
 have T:=Ja (λ(V:D)=>show Calls Tryz.prog 24 #[.string ⟨#[49]⟩] V λr a=>∃u,r=.returned (.tuple #[u,E true])/\Jh a u 1/\Bl V a from
  (LK ⟨#[49]⟩ V).mono (λr a h=>by
   obtain⟨u,i,c,M⟩:=h;rw[show Jj ⟨#[49]⟩=[49]from rfl]at i c;rw[RT.2]at i;rw[RT.1]at c;exact⟨u,i,c,M⟩))
 obtain⟨s,t,v⟩:=Dd (λ(V:D) (x:F) (j:Je V x eP)=>Im 1 1 x eP V j RW) (λ(V:D) (x y:F) (j:Je V x eP) (hy:Jh V y 1)=>Ip 1 1 x y eP 1 V j hy RW dV) λ(V:D) (x:F) (j:Je V x eP)=>dQ x eP V j (RV.sqs Y) DI;rw[dS]at s;rw[dT]at t;rw[dU]at v;go_enter Tryz.func22,Tryz.ntmps22
 go_upto_region 2 with(go_at_call 23;refine(S.o _).mono ?_;clear S;rintro e d ⟨u1,rfl,K,ai⟩;obtain⟨A,l1,c1,rfl⟩:=K.form)
 have l:Bl d (d.alloc (C #[B A l1 c1] 25)):=Ba d _;have b:=BI d 25 (B A l1 c1);obtain⟨V1,af⟩:=ex (d.alloc (C #[B A l1 c1] 25));have r1:=K.below l;rw[af]at l b r1 ⊢;obtain⟨B1,ad⟩:=ex (d.heap.size);have X:Bl w V1:=Bt ai l;rw[ad]at b ⊢;clear af ad K l ai;go_upto_region 3 with(go_at_call 24;refine(T.o _).mono ?_;clear T;rintro e f ⟨u2,rfl,L,aj⟩;obtain⟨Q,G,l2,c2,R,H,N,I,rfl⟩:=Jh.form L)
 have m:Bl f (f.alloc (C #[E Q,B G l2 c2,E R,B H N I] 37)):=Ba f _;have k:=JL.new f 37 (E Q) (B G l2 c2) (E R) (B H N I);have P:=L.below m;have g:=Bt aj m
 obtain⟨V2,ah⟩:=ex (f.alloc (C #[E Q,B G l2 c2,E R,B H N I] 37));rw[ah]at m k P g ⊢;obtain⟨B2,ae⟩:=ex (f.heap.size);rw[ae]at k ⊢;replace b:=boxed_below b g;replace r1:=r1.below g;have HQ:=Ja (Bt X g);clear ah ae L m aj g X;have hq:=BE V2.heap.size V2;have n:=b.cell;obtain⟨x0,x1,o,q⟩:=k.cq;obtain⟨U,W,z,R2⟩:=Dt b k r1 P;clear b k r1 P;go_wp2_with(first
  |(go_at_call 13;refine(s.o _ _ (z.o.below hq)).mono ?_;clear s;rintro e w5 ⟨rfl,ak⟩;have hq:=Bt hq ak;clear n x0 x1 o q;have n:=(boxed_below U.o hq).cell;obtain⟨x0,x1,o,q⟩:=(W.o.below hq).cq)
  |(go_at_call 15;refine(t.o _ _ _ (z.o.below hq) (R2.o.below hq)).mono ?_;clear t;rintro e w6 ⟨rfl,am⟩;have hq:=Bt hq am;clear n x0 x1 o q;have n:=(boxed_below U.o hq).cell;obtain⟨x0,x1,o,q⟩:=(W.o.below hq).cq)
  |(go_at_call 18;refine(v.o _ _ (z.o.below hq)).mono ?_;clear v;rintro e w7 ⟨rfl,an⟩;have hq:=Bt hq an))
 go_ret;exact⟨rfl,Bt HQ.o hq⟩
end M3
end
section
open Go.RowKit Go.Shelf
attribute [local go_sem] Oper.semAt_some
def aP:List Rat:=[1,-1,-1,1]
end
section
variable{S:List Rat}{l:List UInt8}{i k n x:Nat}{c:Rat}
theorem RY(h:l.all DW=true):num l<10^l.length:=by
 have:=YH (Kf h);rwa[Iz]at this
def Fr(x:Nat)(c:Rat):Prop:=∃(a b:Nat) (y z:Nat),c=Rat.divInt a b/\a<=10^y/\b<=10^z/\b≠0/\y+z<=x
theorem Fr.mono{y:Nat}(h:Fr x c)(j:x<=y):Fr y c:=by
 obtain⟨a,b,u,v,d,e,f,g,i⟩:=h;exact⟨a,b,u,v,d,e,f,g,Y⟩
theorem Fr.one:Fr 0 1:=⟨1,1,0,0,DI,DI,DI,DI,DI⟩
theorem dY(r:i<=l.length)(h:YR l i=.ok c k):Fr (k-i) c:=by
 unfold YR at h;split at h
 . cases h
 . rename_i ds p a g;have b:=GP r g;have t:=GI l a;have q:=RY b.2.2.2.2.2.2.2.2;rw[b.2.2.2.2.2.2.2.1]at q;split at h
   . rename_i d;have d:=Yu d;split at h
     . cases h
     . rename_i f s m n;have e:=GP Y n;have o:=RY e.2.2.2.2.2.2.2.2;rw[e.2.2.2.2.2.2.2.1]at o;split at h
       . cases h
       . rename_i j;cases h;exact⟨num ds,num f,a-p,k-s,rfl,Y,Y,j,Y⟩
   . cases h;exact⟨num ds,1,a-p,0,(Pj _).symm,Y,DI,DI,Y⟩
theorem dZ(g:i<=l.length)(h:Y1 l i=.ok (c,n) k):Fr (k-i) c:=by
 unfold Y1 at h;have p:=GI l i;have d:=XM g;split at h
 . split at h
   . cases h
   . rename_i c' j b;have o:=L7 d b;have a:=dY d b;have q:=GI l j;split at h
     . rename_i e;have e:=Yu e;split at h
       . cases h
       . rename_i s m f;have r:=L8 Y f;cases h;exact a.mono Y
     . cases h;exact a.mono Y
 . split at h
   . split at h
     . cases h
     . cases h;exact Fr.one.mono Y
   . cases h
def FT(i:Nat)(S:List Rat):Prop:=S.length=9/\∃D:Int,D≠0/\D.natAbs<=10^i/\∀j,∃z:Int,z.natAbs<=10^i/\cf S j=Rat.divInt z D
theorem FT.mono(h:FT i S)(e:i<=k):FT k S:=by
 obtain⟨a,D,b,f,c⟩:=h;have hp:(10:Nat)^i<=10^k:=AE Y e;exact⟨a,D,b,Y,λj=>by obtain⟨z,g,d⟩:=c j;exact⟨z,Y,d⟩⟩
theorem FT.start(i:Nat):FT i (List.replicate 9 0):=⟨rfl,1,DI,by have:1<=10^i:=CU Y;simpa using this,λj=>⟨0,Z,by rw[JW,Rat.zero_divInt]⟩⟩
theorem FT.next(h:FT i S)(s:Fr x c)(I:n<=8)(b:Bool):FT (i+x+1) (S.set n (if b then cf S n-c else cf S n+c)):=by
 obtain⟨m,D,g,o,p⟩:=h;obtain⟨a,d,y,z,rfl,r,t,H,K⟩:=s;have f:(d:Int)≠0:=Y
 have u:(10:Nat)^i*10^z<=10^(i+x):=by rw[<-CQ];exact AE Y Y
 have v:(10:Nat)^y*10^i<=10^(i+x):=by rw[<-CQ];exact AE Y Y
 have e:∀w:Int,w.natAbs<=10^i->(w*(d:Int)).natAbs<=10^(i+x):=λw e=>by
  rw[CF,AY];exact An (Cq e t) u
 have G:((a:Int)*D).natAbs<=10^(i+x):=by
  rw[CF,AY];exact An (Cq r o) v
 refine⟨by rw[CK];exact m,D*d,CJ g f,by have:=e D o;omega,λj=>?_⟩;rw[XK _ _ _ _ (by rw[m];omega)];by_cases q:j=n
 . rw[BH q];obtain⟨w,k,l⟩:=p n;have A:=e w k;rw[l];cases b with
   |true=>
    refine⟨w*d-a*D,by have:=Int.natAbs_sub_le (w*(d:Int)) ((a:Int)*D);omega,?_⟩;rw[BH rfl,Rat.sub_eq_add_neg,Rat.neg_divInt,FH _ _ g f];congr 1;rw[Int.neg_mul];rfl
   |false=>
    refine⟨w*d+a*D,by have:=FK (w*(d:Int)) ((a:Int)*D);omega,?_⟩;rw[BB DI,FH _ _ g f]
 . rw[BB q];obtain⟨w,k,l⟩:=p j;exact⟨w*d,by have:=e w k;omega,by rw[l,Fw f]⟩
theorem Ra:∀(f:Nat) (b:Bool) (I:Nat) (S d:List Rat) (k:Nat),I<=l.length->FT I S->EW l f b I S=.ok d k->FT (l.length+1) d:=by
 intro f;induction f with
 |zero=>intro b I S d k _ _ h;cases h
 |succ f o=>
  intro b I S d k m r h;cases g:Y1 l I with
  |error e p=>rw[Mv g]at h;cases h
  |ok a s=>
   obtain⟨c,n⟩:=a;have q:=L9 m g;have i:=r.next (dZ m g) q.2.2 b;have t:=GI l s;rw[Mw g]at h;split at h
   . rename_i j;have:=Yu j;exact o _ _ _ _ _ Y (i.mono Y) h
   . split at h
     . rename_i j;have:=Yu j;exact o _ _ _ _ _ Y (i.mono Y) h
     . split at h
       . cases h;exact i.mono Y
       . cases h
theorem dc(h:EQ l=.ok S k):FT (l.length+1) S:=by
 unfold EQ at h;have a:=XM (l:=l) (i:=0) Y;split at h
 . rename_i b;have:=Yu b;exact Ra _ _ _ _ _ _ Y (FT.start _) h
 . exact Ra _ _ _ _ _ _ a (FT.start _) h
theorem dl(a b c:Nat)(h:a*b<64*c):((2:Nat)^a)^b<O^c:=by
 rw[show O=2^64 from by decide,<-Nat.pow_mul,<-Nat.pow_mul];exact Nat.pow_lt_pow_right Y h
theorem dq(h:n<=43*k)(c:k<=7):(10:Nat)^n<O^16:=by
 have b:((10:Nat)^43)^k<=(2^143)^k:=Fe DI k;have a:(10:Nat)^n<=10^(43*k):=AE Y h;rw[Nat.pow_mul]at a;exact Ck (An a b) (dl 143 k 16 Y)
theorem du(l:List UInt8):∃D:Int,D≠0/\Sm 16 D/\D8 D 16 (Yz l).1:=by
 have a:∃D:Int,D≠0/\Sm 16 D/\D8 D 16 []:=⟨1,DI,Sm.one _ Y,λi=>by rw[YG];exact CD.zero _ _⟩;by_cases h:300<l.length
 . rw[show Yz l=([],1,0)by unfold Yz;rw[BH h]];exact a
 . rw[LI h];cases b:EQ l with
   |error e p=>exact a
   |ok S k=>
    rw[show(IW (EStateM.Result.ok S k)).1=Jd S from rfl];obtain⟨_,D,c,g,d⟩:=dc b;have b:=dq (n:=l.length+1) (k:=7) Y Y;exact⟨D,c,by unfold Sm;omega,λi=>by
     obtain⟨z,j,f⟩:=d i;exact⟨z,by rw[Yd];exact f,by unfold Sm;omega⟩⟩
open Go.RowKit Go.Shelf
attribute [local go_sem] Oper.semAt_some
theorem Rb(l:List UInt8):Jd (Yz l).1=(Yz l).1:=by
 by_cases h:300<l.length
 . rw[show Yz l=([],1,0)by unfold Yz;rw[BH h]];rfl
 . rw[LI h];cases EQ l with
   |error e p=>rfl
   |ok S k=>exact J3 _
theorem Rc(s:ByteArray)(w:D):
 Calls Tryz.prog 8 #[.string s] w λe x=>∃u,e=.returned u/\Je x u (Yz (Jj s)).1/\Bl w x:=by
 have q:=Ja λ(V:D)=>Pz s V;have b0:=BI w 25 (B none 0 0);have i:Bl w (w.alloc (C #[B none 0 0] 25)):=Ba w _;obtain⟨K,m⟩:=ex (w.alloc (C #[B none 0 0] 25));obtain⟨y,k⟩:=ex (w.heap.size);rw[m]at b0 i;rw[k]at b0;obtain⟨z,r,H,t⟩:=Dt b0 i m k;clear b0 i m k;go_enter Tryz.func8,Tryz.ntmps8
 go_upto_region 1 with fail
 rw[H.o,t.o];go_upto_region 2 with(go_at_call 23;refine(q.o _).mono ?_;clear q;rintro e b ⟨u,M,N,rfl,⟨rfl,rfl,n⟩,g⟩;obtain⟨a,l1,c1,rfl⟩:=n.form)
 have d:Bl b (b.alloc (C #[B a l1 c1] 25)):=Ba b _;have o:=BI b 25 (B a l1 c1);have c:=(z.o.bel g).bel d;have r1:=n.row.below d;have j:=(Bt r.o g).trans (d.mono (Bt r.o g).size);obtain⟨L,f⟩:=ex (b.alloc (C #[B a l1 c1] 25));obtain⟨I,l⟩:=ex (b.heap.size);rw[f,l]at o;rw[f]at c r1 j;rw[f,l];have x1:=o.cell;have x0:=c.cell;have f0:=c.frozen;have A:=Ja (Es c (B a l1 c1) r1);have G:=Ja (j.setCell (p:=⟨y,0,none⟩) (by rw[t.o];exact Aa _) (B a l1 c1));clear d o c r1 j f l n g;go_wp2_with fail
 exact BA (v:=.agg #[B a l1 c1]) (by simp[results,Tryz.results8,go_sem,x0]) rfl ⟨_,rfl,⟨_,rfl,A.o⟩,G.o⟩
end
section
open Go.RowKit Go.Shelf
variable{p:List Rat}{M:Nat}
theorem Re(l:List UInt8):Cd 16 (Yz l).1:=du l
theorem Cd.mul{M N:Nat}{p q:List Rat}(h:Cd M p)(g:Cd N q):Cd (M+N+p.length) (Jm p q):=by
 obtain⟨D,d1,b,c⟩:=h;obtain⟨E,d,e,f⟩:=g;have a:D*E≠0:=CJ d1 d;exact⟨D*E,a,(b.mul e).mono Y,λi=>Zk a (λi j=>(c i).mul (f j)) i⟩
theorem Cd.times{N:Nat}{q:List Rat}(h:Cd M p)(f:Cd N q)(hl:M+N+p.length+1<=1000000000):M3.KC p q:=by
 obtain⟨D,d1,a,b⟩:=h;obtain⟨E,c,d,e⟩:=f;exact Zj (CJ d1 c) ((a.mul d).mono Y) (λi j=>(b i).mul (e j)) hl
theorem Cd.slope(h:Cd M p)(hl:p.length<=1000000000):Cd (M+1) (Jb p):=by
 obtain⟨D,d1,a,b⟩:=h;refine⟨D,d1,a.mono Y,λi=>?_⟩;rw[KT];by_cases e:i+1<p.length
 . have c:=(b (i+1)).mul (E:=1) (M:=1) (d:=(((i+1:Nat):Int):Rat)) ⟨((i+1:Nat):Int),by rw[CW,show((1:Int):Rat)=1 from rfl];grind,by unfold Sm O;rw[AY];omega⟩;rwa[Int.mul_one]at c
 . rw[Yi Y,CC];exact CD.zero _ _
namespace M3
theorem eA(a b:F)(ps qs:List Rat)(w:D)(i:Je w a ps)(j:Je w b qs)(m:Sqs ps)(n:Sqs qs)(l:KC ps qs)(k:ps.length+qs.length<=1099511627776):
 Calls Tryz.prog 9 #[a,b] w λe c=>∃u,e=.returned u/\Je c u (Jm ps qs)/\Bl w c:=by
 refine(Vy a b ps qs w i j m n l k).mono ?_;rintro e c ⟨u,d,f,_,g⟩;exact⟨u,d,f,g⟩
theorem ChOk.of{K:Nat}{p q:List Rat}(tp:Jd p=p)(tq:Jd q=q)(cp:Cd K p)(cq:Cd K q){n:Nat}(lp:p.length<=n)(lq:q.length<=n)(hle:4*((n+2)*((K+1)*(n+n+1)+1))<=1000000000)(c:n<=1000):ChOk K p q:=by
 refine⟨tp,tq,cp,cq,?_,Y⟩;have a:DX K p q<=(K+1)*(n+n+1):=Ao _ Y;have b:(max p.length q.length+2)*(DX K p q+1)<=(n+2)*((K+1)*(n+n+1)+1):=Cq Y Y;omega
attribute [local go_sem] Oper.semAt_some
end M3
end
section
open Go.RowKit Go.Shelf
variable{p:List Rat}
theorem Nn(x:List Rat):(Jb x).length<=x.length:=An (Y3 _) (by simp[Ha])
theorem Kb{K n:Nat}(tp:Jd p=p)(cp:Cd K p)(lp:p.length<=n)(b:4*((n+2)*((K+1+1)*(n+n+1)+1))<=1000000000)(c:n<=1000){X:Nat}(g:n*((K+1+1)*(n+n+1)+n*((K+1+1)*(n+n+1)+1)+1+X+1)+1+X<=1000000000):CtOk (K+1) X p:=by
 have sl:=Nn p;refine⟨M3.ChOk.of tp (JF _) (cp.mono Y) (cp.slope Y) (n:=n) lp Y b c,?_⟩;have d:DX (K+1) p (Jb p)<=(K+1+1)*(n+n+1):=Ao _ Y;have a:max p.length (Jb p).length<=n:=Y
 have e:max p.length (Jb p).length*(DX (K+1) p (Jb p)+1)<=n*((K+1+1)*(n+n+1)+1):=Cq a Y;have f:max p.length (Jb p).length*(DX (K+1) p (Jb p)+max p.length (Jb p).length*(DX (K+1) p (Jb p)+1)+1+X+1)<=n*((K+1+1)*(n+n+1)+n*((K+1+1)*(n+n+1)+1)+1+X+1):=Cq a Y;omega
theorem eB(tp:Jd p=p)(cp:Cd 41 p)(lp:p.length<=17)(p0:p≠[]):RtOk 42 81 2000 p:=by
 have sl:=Nn p;have ch:M3.ChOk 42 p (Jb p):=M3.ChOk.of tp (JF _) (cp.mono Y) (cp.slope Y) (n:=17) lp Y DI Y;have fr:M3.FrOk 42 p:=⟨ch,by
  have c:DX 42 p (Jb p)<=(42+1)*(17+17+1):=Ao _ Y;have e:(p.length+3)*(DX 42 p (Jb p)+1)<=(17+3)*((42+1)*(17+17+1)+1):=Cq Y Y;omega⟩
 have a:=Xk tp p0;have d:=Ga tp p0;have mf:Jz (DK p)=DK p:=a.mw;have b:Cd 80 (DK p):=Q8 tp p0 Y (cp.mono Y) a.tw mf d;have lf:(DK p).length<=p.length:=(Dv.len a.tw tp p0 d).1;have f:=Nn (DK p);have cs:Cd 81 (Jb (DK p)):=b.slope Y;have c:DX 81 (DK p) (Jb (DK p))<=(81+1)*(17+17+1):=Ao _ Y;refine⟨⟨fr,p0,b.mono Y,cs,Y,?_⟩,?_⟩
 . have e:((DK p).length+3)*(DX 81 (DK p) (Jb (DK p))+2)<=(17+3)*((81+1)*(17+17+1)+2):=Cq Y Y;omega
 . exact An (C9 (C9 (Cq (An lf lp) (C9 (C9 (C9 c 1) 2000) 1)) 1) 2000) DI
namespace M3
attribute [local go_sem] Oper.semAt_some
end M3
end
open Go.RowKit Go.Shelf
variable{p:List Rat}{n:Nat}
theorem Lb(l:List Rat):DO l<=l.length:=An (dF l) Y
theorem Np(p0:p≠[])(hl:p.length<=n):-(n:Int)<=ER p/\ER p<=n:=by
 have c:=RM p0;have a:=Lb (X7 (Ju p));have b:=Lb (Ec (Ju p));unfold X7 at a;unfold Ec at b;rw[C5]at a b;unfold ER;rw[BB p0];unfold X7 Ec;omega
theorem Nq(p0:p≠[])(hl:p.length<=n)(x:Rat):-(n:Int)<=ES p x/\ES p x<=n:=by
 have c:=RM p0;have a:=Lb (X7 (Ju p));have b:=Lb (JM (Ju p) x);unfold X7 at a;unfold JM at b;rw[C5]at a b;unfold ES;rw[BB p0];unfold X7 JM;omega
namespace M3
attribute [local go_sem] Oper.semAt_some
theorem eC(s t a:ByteArray)(_hs:s.size<=140737488351232)(_ht:t.size<=140737488351232)(_ha:a.size<=140737488351232)(w:D):
 Calls Tryz.prog 6 #[.string s,.string t,.string a] w λr L=>r=.returned (E true)/\Bl w L:=by
 have y:=Re (Jj s);have z:=Re (Jj t);have G:=(Py (Jj s)).1;have I:=(Py (Jj t)).1;have tP:=Rb (Jj s);have tQ:=Rb (Jj t);have Qm:=Ja λ(V:D)=>Rc s V;have Qj:=Ja λ(V:D)=>Rc t V;obtain⟨p,hp⟩:=ex ((Yz (Jj s)).1);obtain⟨q,hq⟩:=ex ((Yz (Jj t)).1);rw[hp]at y G tP Qm;rw[hq]at z I tQ Qj;obtain⟨Qh,Qn,AL⟩:=Dd (λ(V:D) (x:F) (hx:Je V x p)=>J2 x p V hx) (λ(V:D) (x:F) (hx:Je V x q)=>J2 x q V hx) λ(V:D)=>dW V;have Qt:p=[]\/(p≠[]/\q=[])\/(p≠[]/\q≠[]):=by
  by_cases p0:p=[]
  . exact Or.inl p0
  . by_cases q0:q=[]
    . exact Or.inr (Or.inl ⟨p0,q0⟩)
    . exact Or.inr (Or.inr ⟨p0,q0⟩)
 rcases Qt with p0|⟨p0,q0⟩|⟨p0,q0⟩
 . rw[p0,show(([]:List Rat).length:Int)-1=-1 from rfl]at Qh;rw[p0]at Qm;clear y z G I tP tQ hp hq p0;go_enter Tryz.func6,Tryz.ntmps6
   go_upto_region 2 with(go_at_call 8;refine(Qm.o _ ).mono ?_;clear Qm;rintro e P ⟨uP,rfl,gP,ai⟩;obtain⟨aP,G,y,rfl⟩:=gP.form)
   have Qd:Bl P (P.alloc (C #[B aP G y] 25)):=Ba P _;have H:=BI P 25 (B aP G y);have M:=gP.below Qd;have Qb:=Bt ai Qd
   obtain⟨VP,af⟩:=ex (P.alloc (C #[B aP G y] 25));rw[af]at H M Qb ⊢;obtain⟨BP,ad⟩:=ex (P.heap.size);rw[ad]at H ⊢;clear af ad gP Qd ai;go_upto_region 3 with(go_at_call 8;refine(Qj.o _ ).mono ?_;clear Qj;rintro e Q ⟨uQ,rfl,gQ,aj⟩;obtain⟨aQ,I,z,rfl⟩:=gQ.form)
   have Qf:Bl Q (Q.alloc (C #[B aQ I z] 25)):=Ba Q _;have l:=BI Q 25 (B aQ I z);have N:=gQ.below Qf;have R:=Bt aj Qf
   obtain⟨VQ,ah⟩:=ex (Q.alloc (C #[B aQ I z] 25));rw[ah]at l N R ⊢;obtain⟨BQ,ae⟩:=ex (Q.heap.size);rw[ae]at l ⊢;clear ah ae gQ Qf aj;have Qg:=boxed_below H R;have Qk:=M.below R;have Ql:Bl w VQ:=Bt Qb R;have A:=Qg.cell;have K:=l.cell;have k:=Ja (And.intro Qg (And.intro l (And.intro Qk N)));have HQ:=Ja Ql;clear H l M N Qg Qk Qb R Ql;have hq:=BE VQ.heap.size VQ;go_wp2_with(first
    |(go_at_call 30;refine(Qh.o _ _ (k.o.2.2.1.below hq)).mono ?_;clear Qh;rintro e v1 ⟨rfl,b⟩;have hq:=Bt hq b;clear b;clear A K;have A:=(boxed_below k.o.1 hq).cell;have K:=(boxed_below k.o.2.1 hq).cell)
    |(go_at_call 22;refine(AL.o _).mono ?_;clear AL;rintro e v3 ⟨rfl,b⟩;have hq:=Bt hq b;clear b;clear A K;have A:=(boxed_below k.o.1 hq).cell;have K:=(boxed_below k.o.2.1 hq).cell))
   go_ret;exact⟨rfl,Bt HQ.o hq⟩
 . obtain⟨m,hm⟩:=ex (p.length-1:Nat);have Qo:(p.length:Int)-1=(m:Int):=by have:=Af.2 p0;omega
   have Uc:¬(m:Int)<0:=Y
   rw[Qo]at Qh;rw[q0,show(([]:List Rat).length:Int)-1=-1 from rfl]at Qn;rw[q0]at Qj;clear y z G I tP tQ hp hq p0 q0 hm Qo;go_enter Tryz.func6,Tryz.ntmps6
   go_upto_region 2 with(go_at_call 8;refine(Qm.o _ ).mono ?_;clear Qm;rintro e P ⟨uP,rfl,gP,ai⟩;obtain⟨aP,G,y,rfl⟩:=gP.form)
   have Qd:Bl P (P.alloc (C #[B aP G y] 25)):=Ba P _;have H:=BI P 25 (B aP G y);have M:=gP.below Qd;have Qb:=Bt ai Qd
   obtain⟨VP,af⟩:=ex (P.alloc (C #[B aP G y] 25));rw[af]at H M Qb ⊢;obtain⟨BP,ad⟩:=ex (P.heap.size);rw[ad]at H ⊢;clear af ad gP Qd ai;go_upto_region 3 with(go_at_call 8;refine(Qj.o _ ).mono ?_;clear Qj;rintro e Q ⟨uQ,rfl,gQ,aj⟩;obtain⟨aQ,I,z,rfl⟩:=gQ.form)
   have Qf:Bl Q (Q.alloc (C #[B aQ I z] 25)):=Ba Q _;have l:=BI Q 25 (B aQ I z);have N:=gQ.below Qf;have R:=Bt aj Qf
   obtain⟨VQ,ah⟩:=ex (Q.alloc (C #[B aQ I z] 25));rw[ah]at l N R ⊢;obtain⟨BQ,ae⟩:=ex (Q.heap.size);rw[ae]at l ⊢;clear ah ae gQ Qf aj;have Qg:=boxed_below H R;have Qk:=M.below R;have Ql:Bl w VQ:=Bt Qb R;have A:=Qg.cell;have K:=l.cell;have k:=Ja (And.intro Qg (And.intro l (And.intro Qk N)));have HQ:=Ja Ql;clear H l M N Qg Qk Qb R Ql;have hq:=BE VQ.heap.size VQ;go_wp2_with(first
    |(go_at_call 30;refine(Qh.o _ _ (k.o.2.2.1.below hq)).mono ?_;clear Qh;rintro e v1 ⟨rfl,b⟩;have hq:=Bt hq b;clear b;clear A K;have A:=(boxed_below k.o.1 hq).cell;have K:=(boxed_below k.o.2.1 hq).cell)
    |(go_at_call 30;refine(Qn.o _ _ (k.o.2.2.2.below hq)).mono ?_;clear Qn;rintro e v2 ⟨rfl,b⟩;have hq:=Bt hq b;clear b;clear A K;have A:=(boxed_below k.o.1 hq).cell;have K:=(boxed_below k.o.2.1 hq).cell)
    |(go_at_call 22;refine(AL.o _).mono ?_;clear AL;rintro e v3 ⟨rfl,b⟩;have hq:=Bt hq b;clear b;clear A K;have A:=(boxed_below k.o.1 hq).cell;have K:=(boxed_below k.o.2.1 hq).cell))
   go_ret;exact⟨rfl,Bt HQ.o hq⟩
 . obtain⟨m,hm⟩:=ex (p.length-1:Nat);have Qo:(p.length:Int)-1=(m:Int):=by have:=Af.2 p0;omega
   have Uc:¬(m:Int)<0:=Y
   rw[Qo]at Qh;obtain⟨m',ck⟩:∃m:Nat,q.length-1=m:=⟨_,rfl⟩;have cj:(q.length:Int)-1=(m':Int):=by have:=Af.2 q0;omega
   have cl:¬(m':Int)<0:=Y
   rw[cj]at Qn;have Qw:ChOk 16 p q:=ChOk.of tP tQ y z (n:=9) G I DI Y;have cG:Cd 323 (Jr p q):=Qw.gcd.mono (Ao (16+1) (show p.length+q.length+1<=19 by omega));have g0:=YM tP tQ (Or.inl p0);have lG:(Jr p q).length<=9:=An (Dv.len (JO p q) tP p0 (YB tP tQ).1).1 G;have z0:=Xo tP tQ p0 q0;have cZ:Cd 41 (Jm p q):=(y.mul z).mono Y;have lZ:(Jm p q).length<=17:=by have:=JG tP tQ p0 q0;omega
   have tZ:=JY p q;have Qp:=Xk tZ z0;have cF:Cd 80 (DK (Jm p q)):=Q8 tZ z0 Y (cZ.mono Y) Qp.tw Qp.mw (Ga tZ z0);have lF:(DK (Jm p q)).length<=17:=An (Dv.len Qp.tw tZ z0 (Ga tZ z0)).1 lZ;have Qv:CtOk 17 2000 p:=Kb tP y G DI Y DI;have Qu:CtOk 17 2000 q:=Kb tQ z I DI Y DI;have Qq:CtOk 324 2000 (Jr p q):=Kb (JO p q) cG lG DI Y DI;have Qz:CtOk 42 2000 (Jm p q):=Kb tZ cZ lZ DI Y DI;have bf:CtOk 81 2000 (DK (Jm p q)):=Kb Qp.tw cF lF DI Y DI;have vA:=W4 (Jj a);have KG:=Ja λ(V:D)=>ZS a V;obtain⟨x,hx⟩:=ex (Ej (Jj a));rw[hx]at vA KG;obtain⟨GC,TM,FE⟩:=Dd (λ(V:D) (u v:F) (o:Je V u p) (hv:Je V v q)=>QU 16 u v p q V o hv Qw) (λ(V:D) (u v:F) (o:Je V u p) (hv:Je V v q)=>eA u v p q V o hv (y.sqs Y) (z.sqs Y) (y.times z Y) Y) λ(V:D) (u:F) (o:Je V u (Jm p q))=>bJ 42 u (Jm p q) V o (eB tZ cZ lZ z0).rok.fr;rw[(Nm tZ z0).1]at FE;obtain⟨AP,AQ,AG,AZ,AF,ap,aq,an⟩:=GJ (λ(V:D) (u:F) (o:Je V u p)=>Im 17 2000 u p V o Qv) (λ(V:D) (u:F) (o:Je V u q)=>Im 17 2000 u q V o Qu) (λ(V:D) (u:F) (o:Je V u (Jr p q))=>Im 324 2000 u (Jr p q) V o Qq) (λ(V:D) (u:F) (o:Je V u (Jm p q))=>Im 42 2000 u (Jm p q) V o Qz) (λ(V:D) (u:F) (o:Je V u (DK (Jm p q)))=>Im 81 2000 u (DK (Jm p q)) V o bf) (λ(V:D) (u v:F) (o:Je V u p) (hv:Jh V v x)=>Ip 17 2000 u v p x V o hv Qv vA) (λ(V:D) (u v:F) (o:Je V u q) (hv:Jh V v x)=>Ip 17 2000 u v q x V o hv Qu vA) λ(V:D) (u v:F) (o:Je V u (Jr p q)) (hv:Jh V v x)=>Ip 324 2000 u v (Jr p q) x V o hv Qq vA;have am:=Ja λ(V:D) (u v:F) (o:Je V u (Jm p q)) (hv:Jh V v x)=>Ip 42 2000 u v (Jm p q) x V o hv Qz vA;have ak:=Ja λ(V:D) (u v:F) (o:Je V u (DK (Jm p q))) (hv:Jh V v x)=>Ip 81 2000 u v (DK (Jm p q)) x V o hv bf vA;rw[(Nm tZ z0).2.1]at AF;rw[(Nm tZ z0).2.2 x]at ak;rw[dN tP p0 tQ q0 z0]at AZ AF;rw[dO tP p0 tQ q0 z0]at am ak;have w1:=Np p0 G;have w2:=Np q0 I;have w3:=Np g0 lG;have w4:=Nq p0 G x;have w5:=Nq q0 I x;have w6:=Nq g0 lG x;obtain⟨k1,az⟩:=ex (ER p);obtain⟨k2,ba⟩:=ex (ER q);obtain⟨k3,bc⟩:=ex (ER (Jr p q));obtain⟨j1,aw⟩:=ex (ES p x);obtain⟨j2,ax⟩:=ex (ES q x);obtain⟨j3,ay⟩:=ex (ES (Jr p q) x);rw[az]at AP w1;rw[ba]at AQ w2;rw[bc]at AG w3;rw[az,ba,bc]at AZ AF;rw[aw]at ap w4;rw[ax]at aq w5;rw[ay]at an w6;rw[aw,ax,ay]at am ak;have h1:IntKind.i64.wrap (k1+k2)=k1+k2:=by rw[BU];omega
   have h2:IntKind.i64.wrap (k1+k2-k3)=k1+k2-k3:=by rw[BU];omega
   have h3:IntKind.i64.wrap (j1+j2)=j1+j2:=by rw[BU];omega
   have h4:IntKind.i64.wrap (j1+j2-j3)=j1+j2-j3:=by rw[BU];omega
   have Ub:=AZ;have bg:=am;clear y z G I tP tQ hp hq p0 q0 hm Qo ck cj Qw cG g0 lG z0 cZ lZ tZ Qp cF lF Qv Qu Qq Qz bf vA hx w1 w2 w3 w4 w5 w6 az ba bc aw ax ay;go_enter Tryz.func6,Tryz.ntmps6
   go_upto_region 2 with(go_at_call 8;refine(Qm.o _ ).mono ?_;clear Qm;rintro e P ⟨uP,rfl,gP,ai⟩;obtain⟨aP,G,y,rfl⟩:=gP.form)
   have Qd:Bl P (P.alloc (C #[B aP G y] 25)):=Ba P _;have H:=BI P 25 (B aP G y);have M:=gP.below Qd;have Qb:=Bt ai Qd
   obtain⟨VP,af⟩:=ex (P.alloc (C #[B aP G y] 25));rw[af]at H M Qb ⊢;obtain⟨BP,ad⟩:=ex (P.heap.size);rw[ad]at H ⊢;clear af ad gP Qd ai;go_upto_region 3 with(go_at_call 8;refine(Qj.o _ ).mono ?_;clear Qj;rintro e Q ⟨uQ,rfl,gQ,aj⟩;obtain⟨aQ,I,z,rfl⟩:=gQ.form)
   have Qf:Bl Q (Q.alloc (C #[B aQ I z] 25)):=Ba Q _;have l:=BI Q 25 (B aQ I z);have N:=gQ.below Qf;have R:=Bt aj Qf
   obtain⟨VQ,ah⟩:=ex (Q.alloc (C #[B aQ I z] 25));rw[ah]at l N R ⊢;obtain⟨BQ,ae⟩:=ex (Q.heap.size);rw[ae]at l ⊢;clear ah ae gQ Qf aj;have Qg:=boxed_below H R;have Qk:=M.below R;have Ql:Bl w VQ:=Bt Qb R;have A:=Qg.cell;have K:=l.cell;have k:=Ja (And.intro Qg (And.intro l (And.intro Qk N)));have HQ:=Ja Ql;clear H l M N Qg Qk Qb R Ql;have hq:=BE VQ.heap.size VQ;go_upto_region 5 with(first
    |(go_at_call 30;refine(Qh.o _ _ (k.o.2.2.1.below hq)).mono ?_;clear Qh;rintro e v1 ⟨rfl,b⟩;have hq:=Bt hq b;clear b;clear A K;have A:=(boxed_below k.o.1 hq).cell;have K:=(boxed_below k.o.2.1 hq).cell)
    |(go_at_call 30;refine(Qn.o _ _ (k.o.2.2.2.below hq)).mono ?_;clear Qn;rintro e v2 ⟨rfl,b⟩;have hq:=Bt hq b;clear b;clear A K;have A:=(boxed_below k.o.1 hq).cell;have K:=(boxed_below k.o.2.1 hq).cell))
   go_upto_region 6 with(go_at_call 12;refine(KG.o _).mono ?_;clear KG;rintro e wX ⟨uX,rfl,gX,ce⟩;obtain⟨sX,aX,lX,cX,tX,bX,kX,dX,rfl⟩:=Jh.form gX)
   have Qx:Bl wX (wX.alloc (C #[E sX,B aX lX cX,E tX,B bX kX dX] 37)):=Ba wX _;have nX:=JL.new wX 37 (E sX) (B aX lX cX) (E tX) (B bX kX dX);have rX:=gX.below Qx;have Qs:=Bt ce Qx
   obtain⟨VX,bn⟩:=ex (wX.alloc (C #[E sX,B aX lX cX,E tX,B bX kX dX] 37));rw[bn]at nX rX Qs ⊢;obtain⟨BX,bj⟩:=ex (wX.heap.size);rw[bj]at nX ⊢;replace hq:=Bt hq Qs
   have H:=boxed_below k.o.1 hq;have l:=boxed_below k.o.2.1 hq;have M:=k.o.2.2.1.below hq;have N:=k.o.2.2.2.below hq;have hw:=Bt HQ.o hq;clear bn bj gX Qx ce Qs k HQ hq A K;have A:=H.cell;have K:=l.cell;go_upto_region 7 with(go_at_call 35;refine(GC.o _ _ _ M N).mono ?_;clear GC;rintro e wG ⟨uG,rfl,gG,bz⟩;obtain⟨aG,lG,cG,rfl⟩:=gG.form)
   have Qy:Bl wG (wG.alloc (C #[B aG lG cG] 25)):=Ba wG _;have nG:=BI wG 25 (B aG lG cG);have rG:=gG.below Qy;have Qi:=Bt bz Qy
   obtain⟨VG,bm⟩:=ex (wG.alloc (C #[B aG lG cG] 25));rw[bm]at nG rG Qi ⊢;obtain⟨BG,bi⟩:=ex (wG.heap.size);rw[bi]at nG ⊢;clear bm bi gG Qy bz;replace H:=boxed_below H Qi;replace l:=boxed_below l Qi;replace M:=M.below Qi;replace N:=N.below Qi;replace nX:=nX.below Qi;replace rX:=rX.below Qi;replace hw:=Bt hw Qi;clear Qi A K;have A:=H.cell;have K:=l.cell;go_upto_region 8 with(go_at_call 9;refine(TM.o _ _ _ M N).mono ?_;clear TM;rintro e wZ ⟨uZ,rfl,gZ,ci⟩;obtain⟨aZ,lZ,cZ,rfl⟩:=gZ.form)
   have Qr:Bl wZ (wZ.alloc (C #[B aZ lZ cZ] 25)):=Ba wZ _;have nZ:=BI wZ 25 (B aZ lZ cZ);have rZ:=gZ.below Qr;have Qe:=Bt ci Qr
   obtain⟨VZ,bt⟩:=ex (wZ.alloc (C #[B aZ lZ cZ] 25));rw[bt]at nZ rZ Qe ⊢;obtain⟨BZ,bk⟩:=ex (wZ.heap.size);rw[bk]at nZ ⊢;clear bt bk gZ Qr ci;replace H:=boxed_below H Qe;replace l:=boxed_below l Qe;replace nG:=boxed_below nG Qe;replace M:=M.below Qe;replace N:=N.below Qe;replace rG:=rG.below Qe;replace nX:=nX.below Qe;replace rX:=rX.below Qe;replace hw:=Bt hw Qe;clear Qe A K;have A:=nZ.cell;go_upto_region 9 with(go_at_call 36;refine(FE.o _ _ rZ).mono ?_;clear FE;rintro e wF ⟨uF,rfl,gF,bu⟩;obtain⟨aF,lF,cF,rfl⟩:=gF.form)
   have Ua:Bl wF (wF.alloc (C #[B aF lF cF] 25)):=Ba wF _;have nF:=BI wF 25 (B aF lF cF);have rF:=gF.below Ua;have Qc:=Bt bu Ua
   obtain⟨VF,bl⟩:=ex (wF.alloc (C #[B aF lF cF] 25));rw[bl]at nF rF Qc ⊢;obtain⟨BF,bh⟩:=ex (wF.heap.size);rw[bh]at nF ⊢;clear bl bh gF Ua bu;obtain⟨U,W,T,NZ,S,RP,RQ,RG⟩:=GJ (boxed_below H Qc) (boxed_below l Qc) (boxed_below nG Qc) (boxed_below nZ Qc) nF (M.below Qc) (N.below Qc) (rG.below Qc);obtain⟨RZ,RF,X,RX,HW⟩:=GQ (rZ.below Qc) rF (nX.below Qc) (rX.below Qc) (Bt hw Qc);clear H l nG nZ nF M N rG rZ rF nX rX hw Qc A;have hq:=(BE VF.heap.size VF).drew;have eP:=(boxed_below U.o hq).cell;have f:=(boxed_below W.o hq).cell;have d:=(boxed_below T.o hq).cell;have g:=(boxed_below NZ.o hq).cell;have c:=(boxed_below S.o hq).cell;obtain⟨x0,x1,i,j⟩:=(X.o.below hq).cq;go_region_held3 (λL=>L.cell? ⟨BP,0,none⟩=some (B aP G y)/\L.cell? ⟨BQ,0,none⟩=some (B aQ I z)/\L.cell? ⟨BG,0,none⟩=some (B aG lG cG)/\L.cell? ⟨BZ,0,none⟩=some (B aZ lZ cZ)/\L.cell? ⟨BF,0,none⟩=some (B aF lF cF)/\L.cell? ⟨BX,0,none⟩=some (E sX)/\L.cell? ⟨BX,1,none⟩=some (B aX lX cX)/\L.cell? ⟨BX,2,none⟩=some (E tX)/\L.cell? ⟨BX,3,none⟩=some (B bX kX dX)) (first|(with_reducible exact⟨eP,f,d,g,c,x0,x1,i,j⟩)|(go_keep;done))
    (first
     |(go_at_call 13;refine(AZ.o _ _ (RZ.o.below hq)).mono ?_;clear AZ;rintro e z1 ⟨rfl,b⟩;have hq:=Bt hq b;clear b;clear eP f d g c x0 x1 i j;have eP:=(boxed_below U.o hq).cell;have f:=(boxed_below W.o hq).cell;have d:=(boxed_below T.o hq).cell;have g:=(boxed_below NZ.o hq).cell;have c:=(boxed_below S.o hq).cell;obtain⟨x0,x1,i,j⟩:=(X.o.below hq).cq)
     |(go_at_call 13;refine(AP.o _ _ (RP.o.below hq)).mono ?_;clear AP;rintro e z2 ⟨rfl,b⟩;have hq:=Bt hq b;clear b;clear eP f d g c x0 x1 i j;have eP:=(boxed_below U.o hq).cell;have f:=(boxed_below W.o hq).cell;have d:=(boxed_below T.o hq).cell;have g:=(boxed_below NZ.o hq).cell;have c:=(boxed_below S.o hq).cell;obtain⟨x0,x1,i,j⟩:=(X.o.below hq).cq)
     |(go_at_call 13;refine(AQ.o _ _ (RQ.o.below hq)).mono ?_;clear AQ;rintro e z3 ⟨rfl,b⟩;have hq:=Bt hq b;clear b;clear eP f d g c x0 x1 i j;have eP:=(boxed_below U.o hq).cell;have f:=(boxed_below W.o hq).cell;have d:=(boxed_below T.o hq).cell;have g:=(boxed_below NZ.o hq).cell;have c:=(boxed_below S.o hq).cell;obtain⟨x0,x1,i,j⟩:=(X.o.below hq).cq)
     |(go_at_call 13;refine(AG.o _ _ (RG.o.below hq)).mono ?_;clear AG;rintro e z4 ⟨rfl,b⟩;have hq:=Bt hq b;clear b;clear eP f d g c x0 x1 i j;have eP:=(boxed_below U.o hq).cell;have f:=(boxed_below W.o hq).cell;have d:=(boxed_below T.o hq).cell;have g:=(boxed_below NZ.o hq).cell;have c:=(boxed_below S.o hq).cell;obtain⟨x0,x1,i,j⟩:=(X.o.below hq).cq)
     |(go_at_call 15;refine(am.o _ _ _ (RZ.o.below hq) (RX.o.below hq)).mono ?_;clear am;rintro e z5 ⟨rfl,b⟩;have hq:=Bt hq b;clear b;clear eP f d g c x0 x1 i j;have eP:=(boxed_below U.o hq).cell;have f:=(boxed_below W.o hq).cell;have d:=(boxed_below T.o hq).cell;have g:=(boxed_below NZ.o hq).cell;have c:=(boxed_below S.o hq).cell;obtain⟨x0,x1,i,j⟩:=(X.o.below hq).cq)
     |(go_at_call 15;refine(ap.o _ _ _ (RP.o.below hq) (RX.o.below hq)).mono ?_;clear ap;rintro e z6 ⟨rfl,b⟩;have hq:=Bt hq b;clear b;clear eP f d g c x0 x1 i j;have eP:=(boxed_below U.o hq).cell;have f:=(boxed_below W.o hq).cell;have d:=(boxed_below T.o hq).cell;have g:=(boxed_below NZ.o hq).cell;have c:=(boxed_below S.o hq).cell;obtain⟨x0,x1,i,j⟩:=(X.o.below hq).cq)
     |(go_at_call 15;refine(aq.o _ _ _ (RQ.o.below hq) (RX.o.below hq)).mono ?_;clear aq;rintro e z7 ⟨rfl,b⟩;have hq:=Bt hq b;clear b;clear eP f d g c x0 x1 i j;have eP:=(boxed_below U.o hq).cell;have f:=(boxed_below W.o hq).cell;have d:=(boxed_below T.o hq).cell;have g:=(boxed_below NZ.o hq).cell;have c:=(boxed_below S.o hq).cell;obtain⟨x0,x1,i,j⟩:=(X.o.below hq).cq)
     |(go_at_call 15;refine(an.o _ _ _ (RG.o.below hq) (RX.o.below hq)).mono ?_;clear an;rintro e z8 ⟨rfl,b⟩;have hq:=Bt hq b;clear b;clear eP f d g c x0 x1 i j;have eP:=(boxed_below U.o hq).cell;have f:=(boxed_below W.o hq).cell;have d:=(boxed_below T.o hq).cell;have g:=(boxed_below NZ.o hq).cell;have c:=(boxed_below S.o hq).cell;obtain⟨x0,x1,i,j⟩:=(X.o.below hq).cq))
   go_upto_region 11 with fail
   replace hq:=hq.drew;clear eP f d g c x0 x1 i j;have eP:=(boxed_below U.o hq).cell;have f:=(boxed_below W.o hq).cell;have d:=(boxed_below T.o hq).cell;have g:=(boxed_below NZ.o hq).cell;have c:=(boxed_below S.o hq).cell;obtain⟨x0,x1,i,j⟩:=(X.o.below hq).cq;go_region_held3 (λL=>L.cell? ⟨BP,0,none⟩=some (B aP G y)/\L.cell? ⟨BQ,0,none⟩=some (B aQ I z)/\L.cell? ⟨BG,0,none⟩=some (B aG lG cG)/\L.cell? ⟨BZ,0,none⟩=some (B aZ lZ cZ)/\L.cell? ⟨BF,0,none⟩=some (B aF lF cF)/\L.cell? ⟨BX,0,none⟩=some (E sX)/\L.cell? ⟨BX,1,none⟩=some (B aX lX cX)/\L.cell? ⟨BX,2,none⟩=some (E tX)/\L.cell? ⟨BX,3,none⟩=some (B bX kX dX)) (first|(with_reducible exact⟨eP,f,d,g,c,x0,x1,i,j⟩)|(go_keep;done))
    (first
     |(go_at_call 13;refine(AF.o _ _ (RF.o.below hq)).mono ?_;clear AF;rintro e cn ⟨rfl,b⟩;have hq:=Bt hq b;clear b;clear eP f d g c x0 x1 i j;have eP:=(boxed_below U.o hq).cell;have f:=(boxed_below W.o hq).cell;have d:=(boxed_below T.o hq).cell;have g:=(boxed_below NZ.o hq).cell;have c:=(boxed_below S.o hq).cell;obtain⟨x0,x1,i,j⟩:=(X.o.below hq).cq)
     |(go_at_call 13;refine(Ub.o _ _ (RZ.o.below hq)).mono ?_;clear Ub;rintro e co ⟨rfl,b⟩;have hq:=Bt hq b;clear b;clear eP f d g c x0 x1 i j;have eP:=(boxed_below U.o hq).cell;have f:=(boxed_below W.o hq).cell;have d:=(boxed_below T.o hq).cell;have g:=(boxed_below NZ.o hq).cell;have c:=(boxed_below S.o hq).cell;obtain⟨x0,x1,i,j⟩:=(X.o.below hq).cq)
     |(go_at_call 15;refine(ak.o _ _ _ (RF.o.below hq) (RX.o.below hq)).mono ?_;clear ak;rintro e ct ⟨rfl,b⟩;have hq:=Bt hq b;clear b;clear eP f d g c x0 x1 i j;have eP:=(boxed_below U.o hq).cell;have f:=(boxed_below W.o hq).cell;have d:=(boxed_below T.o hq).cell;have g:=(boxed_below NZ.o hq).cell;have c:=(boxed_below S.o hq).cell;obtain⟨x0,x1,i,j⟩:=(X.o.below hq).cq)
     |(go_at_call 15;refine(bg.o _ _ _ (RZ.o.below hq) (RX.o.below hq)).mono ?_;clear bg;rintro e da ⟨rfl,b⟩;have hq:=Bt hq b;clear b;clear eP f d g c x0 x1 i j;have eP:=(boxed_below U.o hq).cell;have f:=(boxed_below W.o hq).cell;have d:=(boxed_below T.o hq).cell;have g:=(boxed_below NZ.o hq).cell;have c:=(boxed_below S.o hq).cell;obtain⟨x0,x1,i,j⟩:=(X.o.below hq).cq)
     |(go_at_call 22;refine(AL.o _).mono ?_;clear AL;rintro e db ⟨rfl,b⟩;have hq:=Bt hq b;clear b;clear eP f d g c x0 x1 i j;have eP:=(boxed_below U.o hq).cell;have f:=(boxed_below W.o hq).cell;have d:=(boxed_below T.o hq).cell;have g:=(boxed_below NZ.o hq).cell;have c:=(boxed_below S.o hq).cell;obtain⟨x0,x1,i,j⟩:=(X.o.below hq).cq))
   go_wp2_with fail
   go_ret;exact⟨rfl,Bt HW.o hq⟩
end M3

