import Derived.Test.YtcahejkcdcjjgaaGreatDoorT25
set_option linter.all false
open Go.Value renaming slice->C,bool->E,pointer->G,string->I
open Go.Obj renaming cells->B
open Go renaming World->F,Value->L
open Go.Proofs.Tryz renaming prog->H
set_option maxRecDepth 99999
set_option maxHeartbeats 0
namespace Go.Proofs.YtcahejkcdcjjgaaGreatDoor
open Proofs.Tryz
open Go.RowKit Go.Shelf
attribute [local go_sem] Oper.semAt_some
def RU{W:F}{B:Nat}(q:JB W B 38 (E false) (C none 0 0) (E false) (C none 0 0)){v:L}{p:Rat}(h:Jk W v p)(x y z u:L):Jk (put4 W B x y z u) v p:=h.put4 q J J J J _ _ _ _
def RV(v:L)(ps:X)(i:Int)(w:F)(h:Yj w v ps):
 Calls H 11 #[v,.int .i64 i] w λe o=>∃u,e=.returned u/\Jk o u (if i<0 then 0 else cf ps i.toNat)/\Bl w o:=by
 obtain⟨u,rfl,g⟩:=h;obtain⟨a,l,c,rfl⟩:=g.form;obtain⟨W0,b⟩:=ex ((w.alloc (B #[C a l c] 25)).alloc (B #[E false,C none 0 0,E false,C none 0 0] 38));have b0:Boxed W0 w.heap.size 25 (C a l c):=by rw[<-b];exact(BJ w _ _).alloc _
 have s:JB W0 (w.heap.size+1) 38 (E false) (C none 0 0) (E false) (C none 0 0):=by rw[<-b];have:=JB.new (w.alloc (B #[C a l c] 25)) 38 (E false) (C none 0 0) (E false) (C none 0 0);simpa using this
 have j:Bl w W0:=by rw[<-b];exact(Ba w _).alloc C9 _
 have d:=Z (RJ _ ps i W0 (g.below j));obtain⟨q,m⟩:=ex ((if i<0 then 0 else cf ps i.toNat));rw[m]at d ⊢;have p:=Z b;have R:=b0.cell;clear b m g;go_enter func11,ntmps11
 go_upto_region 1 with fail
 rw[p.o];go_wp2_with(go_at_call 49;refine d.o.mono ?_;clear d;rintro e S ⟨u,rfl,n,k⟩;have f:=s.below k;obtain⟨z,A,D,K⟩:=f.cq;obtain⟨f0,f1,f2,f3⟩:=f.fq;obtain⟨P,r,N,x,Q,t,M,y,rfl⟩:=Jk.form n)
 exact BA (v:=.agg #[E P,C r N x,E Q,C t M y]) (by simp[results,results11,go_sem,z,A,D,K]) J ⟨_,J,RU f n _ _ _ _,Jt (Bt j k) Y _ _ _ _⟩
namespace M3
def Iz(V:F)(t:L)(q:Rat):Prop:=∃v,t=.iface 38 v/\Jk V v q
def Iz.below{V V':F}{t:L}{q:Rat}(h:Iz V t q)(b:Bl V V'):Iz V' t q:=by
 obtain⟨v,e,a⟩:=h;exact⟨v,e,a.below b⟩
def RW(v:L)(V:F):(method 371 38 v "Times").run H V=.ok (41,v) V:=by kernel_rfl
def RX(v:L)(V:F):(method 371 38 v "Plus").run H V=.ok (40,v) V:=by kernel_rfl
def I0(ps qs:X):Prop:=(∀i a,Sq (cf ps i*cf qs a))/\∀n i a k,Sq (cf (Y3 (Y4 ps qs n i) i (cf ps i) qs a) k)
def RY(a b:TS)(o ca lb cb:Nat)(ps qs:List Rat)(w:F)(ha:RowK true w (C a o ca) ps)(hb:RowK true w (C b lb cb) qs)(ap:Sqs ps)(aq:Sqs qs)(an:I0 ps qs)(bm:ps.length+qs.length<=1099511627776):
 Calls H 68 #[C a o ca,C b lb cb] w λe w'=>∃v g,e=.returned v/\RowK true w' v g/\(∀c,cf g c=cf (FG ps qs) c)/\Sqs g/\L7 w.heap.size v/\Bl w w':=by
 obtain⟨ak,bg,bi,cg,s,t,aa,bb,ll,cc,kk,dd,hc⟩:=ha.forms;obtain⟨am,bh,bj,cj,s',t',az,bc,bu,bd,bt,bf,aj⟩:=hb.forms;obtain⟨n,hn⟩:∃n:Nat,max (0:Int) ((o:Int)+(lb:Int)-1)=(n:Int):=⟨(max (0:Int) ((o:Int)+(lb:Int)-1)).toNat,Y⟩;have cy:n<=1099511627776:=Y
 obtain⟨HN,bz,HC,ay,HP,HQ,HK,Qg⟩:=Ff (show o+lb<=n+1 from by omega) (show o+lb=0\/n+1=o+lb from by omega) hc aj ap aq an ak;have Qh:=Z am;have Qs:=MB n Y w;have M0:DC w (w.alloc (B (XB n) 38)) [some (w.heap.size,.rats (List.replicate n 0))]:=M3.DC.push (M3.DC.nil w) (.rats (List.replicate n 0)) (by
  obtain⟨cs,r,h2⟩:=MC n w;refine⟨XB n,J,λc hj=>?_⟩;rw[AX]at hj;obtain⟨h0,r,h2,h3⟩:=MA hj;exact⟨_,_,_,_,h0,r,h2,h3,by rw[Yx];exact Ds _⟩)
 obtain⟨W0,ai⟩:=ex (w.alloc (B (XB n) 38));rw[ai]at M0 Qs;have Qq:=Z M0;clear M0 ai ha hb ap aq ak am bg bi bh bj an hc aj bm;go_enter func68,ntmps68
 go_wp2;go_loopw [20] (λi wr=>∃(k:Nat),k<=o/\i=.int .i64 (k:Int)/\Hid (DC w wr [some (w.heap.size,.rats (Y4 ps qs n k))])) λi _=>o-(intOf i).toNat
 case atStart=>exact⟨0,AO _,J,Qq⟩
 case round=>
  obtain⟨k,hk,rfl,q⟩:=hrel;by_cases bn:k<o
  . have ck:(k:Int)<(o:Int):=Y
    obtain⟨W,bx,rfl,ae,u,x,y,z⟩:=HC.o k bn;have d:=q.o.2.2;have A:=Z (W.below d);replace u:=(d.cell (p:=⟨bx,_,none⟩) ae).trans u;replace x:=(d.cell (p:=⟨bx,_,none⟩) ae).trans x;replace y:=(d.cell (p:=⟨bx,_,none⟩) ae).trans y;replace z:=(d.cell (p:=⟨bx,_,none⟩) ae).trans z;clear W d;obtain⟨s1,T⟩:=ex (s k);obtain⟨t1,U⟩:=ex (t k);obtain⟨a1,M⟩:=ex (aa k);obtain⟨b1,N⟩:=ex (bb k);obtain⟨l1,R⟩:=ex (ll k);obtain⟨c1,P⟩:=ex (cc k);obtain⟨m1,S⟩:=ex (kk k);obtain⟨d1,Q⟩:=ex (dd k);rw[T,U,M,N,R,P,S,Q]at A;rw[T]at u;rw[M,R,P]at x;rw[U]at y;rw[N,S,Q]at z;clear T U M N R P S Q;go_upto_region 5 with fail
    have l:DC w (wr.alloc (B #[E s1,C a1 l1 c1,E t1,C b1 m1 d1] 38)) [some (w.heap.size,.rats (Y4 ps qs n k)),some (wr.heap.size,.rat (cf ps k))]:=M3.DC.push q.o (.rat (cf ps k)) A.o;obtain⟨V1,K⟩:=ex (wr.alloc (B #[E s1,C a1 l1 c1,E t1,C b1 m1 d1] 38));obtain⟨B1,D⟩:=ex (wr.heap.size);rw[K,D]at l;rw[K];rw[D];have Qt:=Z l;clear l K D q A u x y z;go_wp2_with fail
    go_loopw [27] (λi wr=>∃(c:Nat),c<=lb/\i=.int .i64 (c:Int)/\Hid (DC w wr [some (w.heap.size,.rats (Y3 (Y4 ps qs n k) k (cf ps k) qs c)),some (B1,.rat (cf ps k))])) λi _=>lb-(intOf i).toNat
    case atStart=>exact⟨0,AO _,J,Qt⟩
    case round=>
     obtain⟨c,hj,rfl,q⟩:=hrel;by_cases bk:c<lb
     . have ce:(c:Int)<(lb:Int):=Y
       obtain⟨W,ad,rfl,ah,u,x,y,z⟩:=ay.o c bk;have d:=q.o.2.2;have A:=Z (W.below d);replace u:=(d.cell (p:=⟨ad,_,none⟩) ah).trans u;replace x:=(d.cell (p:=⟨ad,_,none⟩) ah).trans x;replace y:=(d.cell (p:=⟨ad,_,none⟩) ah).trans y;replace z:=(d.cell (p:=⟨ad,_,none⟩) ah).trans z;clear W d;obtain⟨s2,T⟩:=ex (s' c);obtain⟨t2,U⟩:=ex (t' c);obtain⟨a2,M⟩:=ex (az c);obtain⟨b2,N⟩:=ex (bc c);obtain⟨l2,R⟩:=ex (bu c);obtain⟨c2,P⟩:=ex (bd c);obtain⟨m2,S⟩:=ex (bt c);obtain⟨d2,Q⟩:=ex (bf c);rw[T,U,M,N,R,P,S,Q]at A;rw[T]at u;rw[M,R,P]at x;rw[U]at y;rw[N,S,Q]at z;clear T U M N R P S Q;go_upto_region 8 with fail
       have l:DC w (wr.alloc (B #[E s2,C a2 l2 c2,E t2,C b2 m2 d2] 38)) [some (w.heap.size,.rats (Y3 (Y4 ps qs n k) k (cf ps k) qs c)),some (B1,.rat (cf ps k)),some (wr.heap.size,.rat (cf qs c))]:=M3.DC.push q.o (.rat (cf qs c)) A.o;obtain⟨V2,K⟩:=ex (wr.alloc (B #[E s2,C a2 l2 c2,E t2,C b2 m2 d2] 38));obtain⟨B2,D⟩:=ex (wr.heap.size);rw[K,D]at l;rw[K];rw[D];have Qc:=Z l;clear l K D q A u x y z;have Qk:(k:Int)+(c:Int)<(n:Int):=by have:=HN.o;omega
       have Qe:(0:Int)<=(k:Int)+(c:Int):=Y
       have Qd:=Z (show k+c<n by omega);have Qa:(k:Int)+(c:Int)=((k+c:Nat):Int):=Y
       obtain⟨m,hm⟩:=ex (k+c);rw[hm]at Qd Qa;have HM:=Z hm;have co:(m:Int)<(n:Int):=by have:=Qd.o;omega
       have cz:IntKind.i64.wrap (m:Int)=(m:Int):=by rw[IntKind.wrap_i64];omega
       obtain⟨g,X⟩:=ex (Y3 (Y4 ps qs n k) k (cf ps k) qs c);rw[X]at Qc;obtain⟨Qf,Qm,Qr,Qp⟩:=Dk (show m<g.length by rw[<-X,Gq,Gr];exact Qd.o) X (show Sq (cf g m)by rw[<-X];exact HK.o.2 n k c m) (HK.o.1 k c);have Qj:=Qc.o.drew;clear hm X Qc Qk Qe;refine ED Di [[],[],[],[1,2],[],[],[],[5,6],[4,7],[8],[9],[],[11],[],[12,13],[10,14,14],[0,3,0,1,2,3,4,5,6,7,8,9,10,11,12,13,14,15],[16,15,15,0,1,2,3,4,5,6,7,8,9,10,11,12,13,14,15]] [.eq (C (some ⟨w.heap.size,0,none⟩) n n),.eq (.int .i64 (k:Int)),.eq (.int .i64 (c:Int)),.eq (.int .i64 (m:Int)),.eq (C (some ⟨w.heap.size,0,none⟩) n n),.eq (.int .i64 (k:Int)),.eq (.int .i64 (c:Int)),.eq (.int .i64 (m:Int)),.eq (G (some ⟨w.heap.size,m*4,none⟩)),.rat (cf g m),.ifq (cf g m),.rat (cf ps k),.ifq (cf ps k),.rat (cf qs c),.rat (cf ps k*cf qs c),.rat (cf g m+cf ps k*cf qs c),.eq (G (some ⟨w.heap.size,m*4,none⟩)),.eq undef] [17] (λb _ V=>DC w V [some (w.heap.size,if b.getD 0 false then .rats (g.set m (cf g m+cf ps k*cf qs c))else .rats g),some (B1,.rat (cf ps k)),some (B2,.rat (cf qs c))]) Qj (WB (.vl J λ_ _=>mv)<|WB (.vl J λ_ _=>mv)<|WB (.vl J λ_ _=>mv)<|WB (.vl J λh _=>⟨_,by refine DO ?_;rw[h.e 1,h.e 2];go_simp,J⟩)<|WB (.vl J λ_ _=>mv)<|WB (.vl J λ_ _=>mv)<|WB (.vl J λ_ _=>mv)<|WB (.vl J λh _=>⟨_,by refine DO ?_;rw[h.e 5,h.e 6];go_simp,J⟩)<|WB (.vl J λh _=>⟨_,by refine DO ?_;rw[h.e 4,h.e 7];go_simp,J⟩)<|WB (.vl J λh j=>QM 0 j Qf.o (h.e 8))<|WB (.vl J λh _=>mi (h.g 9))<|WB (.vl J λ_ j=>El 1 j)<|WB (.vl J λh _=>mi (h.g 11))<|WB (.vl J λ_ j=>El 2 j)<|WB (.ci J fun {_ V _} h j=>by obtain⟨y0,e,g0⟩:=h.g 12;have Qo:=RW y0 V;exact⟨_,by refine DO ?_;rw[e];go_simp,Q9 _ _ (cf ps k) (cf qs c) V g0 (h.g 13) (HP.o.at k) (HQ.o.at c)⟩)<|WB (.ci J fun {_ V _} h j=>by obtain⟨y0,e,g0⟩:=h.g 10;have Qo:=RX y0 V;exact⟨_,by refine DO ?_;rw[e];go_simp,Iw _ _ (cf g m) (cf ps k*cf qs c) V g0 (h.g 14) Qr.o Qp.o⟩)<|WB (.vl J λh _=>⟨_,by refine DO ?_;rw[h.e 0,h.e 3];go_simp,J⟩)<|WB (.wr J λh j=>QN 0 j Qf.o (h.g 15) (h.e 16)) Stp.end_)
        λf V hF l=>?_
       refine DO ?_;rw[hF.e 0,hF.e 1,hF.e 2,hF.e 3,hF.e 4,hF.e 5,hF.e 6,hF.e 7,hF.e 8,hF.e 16];have l:=FM l;have Qn:=Z l;clear l hF;go_wp2_with fail
       go_roundw
       case rel=>
        refine⟨c+1,Y,by go_num,Z ?_⟩;have r:=Qn.o.take 2;rw[<-HM.o,<-Qm.o]at r;exact r
       case measure=>simp[intOf];omega
     . have Ql:c=lb:=Y
       subst Ql;go_wp2_with fail
       go_roundw
       case rel=>
        refine⟨k+1,Y,by go_num,Z ?_⟩;have r:=q.o.take 1;rw[Qh.o]at r;exact r
       case measure=>simp[intOf];omega
  . have Qi:k=o:=Y
    subst Qi;go_wp2;go_ret;have hE:=q.o.rats (i:=0) J;have cn:=Gr ps qs n k;have Qb:=hE.row (n:=n) (cap:=n) Y (Aa _) Y Y;rw[Ac Y]at Qb;refine⟨_,_,J,Qb,λc=>?_,Sqs.of λi=>?_,λa' l' c' e=>(by cases e;exact Aa _),q.o.2.2⟩
    . rw[Qg.o,KP _ _ _ _ _ (Aw (by have:=HN.o;have h2:=Qh.o;have r:=Qg.o;omega)),KO]
    . exact HK.o.2 n k 0 i
def RZ(D K:L)(ps qs:List Rat)(w:F)(i:Yj w D ps)(k:Yj w K qs)(x:Sqs ps)(z:Sqs qs)(t:I0 ps qs)(s:ps.length+qs.length<=1099511627776):
 Calls H 28 #[D,K] w λe M=>∃u,e=.returned u/\Yj M u (FV ps qs)/\L8 w.heap.size u/\Bl w M:=by
 obtain⟨u,rfl,i⟩:=i;obtain⟨v,rfl,k⟩:=k;obtain⟨a,l,f,rfl⟩:=i.form;obtain⟨b,lb,g,rfl⟩:=k.form;obtain⟨W0,c⟩:=ex (((w.alloc (B #[C a l f] 25)).alloc (B #[C b lb g] 25)).alloc (B #[C none 0 0] 25));have b0:Boxed W0 w.heap.size 25 (C a l f):=by rw[<-c];exact((BJ w _ _).alloc _).alloc _
 have R:Boxed W0 (w.heap.size+1) 25 (C b lb g):=by rw[<-c];have:=(BJ (w.alloc (B #[C a l f] 25)) 25 (C b lb g)).alloc (B #[C none 0 0] 25);simpa using this
 have S:Boxed W0 (w.heap.size+1+1) 25 (C none 0 0):=by rw[<-c];have:=BJ ((w.alloc (B #[C a l f] 25)).alloc (B #[C b lb g] 25)) 25 (C none 0 0);simpa using this
 have m:Bl w W0:=by rw[<-c];exact((Ba w _).alloc C9 _).alloc si _
 obtain⟨q,r,P⟩:=DQ (RY a b l f lb g ps qs W0 (i.below m) (k.below m) x z t s) (λ(V:F) (v:L) (d:List Rat) (h:RowK true V v d) (hs:Sqs d)=>L9 v d V h hs) c;have k0:=b0.cell;have k1:=R.cell;clear c i k x z t s;go_enter func28,ntmps28
 go_upto_region 1 with fail
 rw[P.o];go_wp2_with(first
  |(go_at_call 68;refine q.o.mono ?_;clear q;rintro e w1 ⟨v1,d,rfl,ae,A,ah,X,U⟩;have N:=Z A;clear A)
  |(go_at_call 65;refine(r.o _ _ d ae ah).mono ?_;clear r;rintro e w2 ⟨u2,rfl,o,ad,W⟩;obtain⟨a9,l9,c9,rfl⟩:=o.form;have y:=Bt U W;have n:=Jl S y;have k2:=n.cell;have f2:=n.frozen))
 have T:Jv d=FV ps qs:=YP λj=>N.o j;rw[T]at o;refine BA (by simp[results,results28,go_sem,k2]) J ⟨_,J,⟨_,J,Fq n _ o.row⟩,?_,(Bt m y).setCell (p:=⟨w.heap.size+1+1,0,none⟩) si _⟩;intro Q l' c' e;have:=ad W0.heap.size X Q l' c' e;have h2:=m.size;omega
def Ra(n:Int)(y:-9223372036854775808<=n)(z:n<=9223372036854775807)(w:F):
 Calls H 77 #[.int .i64 n] w λe o=>∃u,e=.returned u/\Jk o u (n:Rat)/\Bl w o:=by
 have c:Bl w (w.alloc (B #[E false,C none 0 0,E false,C none 0 0] 38)):=Ba w _;have b0:=JB.new w 38 (E false) (C none 0 0) (E false) (C none 0 0);obtain⟨W0,f⟩:=ex (w.alloc (B #[E false,C none 0 0,E false,C none 0 0] 38));rw[f]at c b0;obtain⟨p,i,j,q⟩:=Dk f (GO n y z W0) (λ(V:F)=>GO 1 Y Y V) (show Sok n from Sok.of (k:=2) (by unfold Sm O;omega) Y);have b:=Z λ(V:F) (u v:L) (K:Jh V u n) (N:Jh V v 1)=>RA u v n 1 V K N q.o Sok.one;rw[show decide ((1:Int)≠0)=true from J,show Rat.divInt n 1=(n:Rat)from by rw[Rat.divInt_eq_div];grind]at b;clear f;go_enter func77,ntmps77
 go_upto_region 1 with fail
 rw[p.o];go_wp2_with(first
  |(go_at_call 110;refine i.o.mono ?_;clear i;rintro e w1 ⟨u1,rfl,d,A⟩)
  |(go_at_call 110;refine(j.o _).mono ?_;clear j;rintro e w2 ⟨u2,rfl,M,l⟩;have d:=d.below l)
  |(go_at_call 107;refine(b.o _ _ _ d M).mono ?_;clear b;rintro e w3 ⟨u3,rfl,m,D⟩;have a:=Bt (Bt A l) D;have n2:=(b0.below a).alloc (B #[E false,C none 0 0,E false,C none 0 0] 38);obtain⟨W,r,U,t,X,s,T,x,rfl⟩:=Jk.form m;have g:=(b0.below a).alloc (B #[E W,C r U t,E X,C s T x] 38);obtain⟨P,Q,R,S⟩:=g.cq;obtain⟨f0,f1,f2,f3⟩:=g.fq))
 exact BA (by simp[results,results77,go_sem,P,Q,R,S]) J ⟨_,J,(m.below (Ba _ _)).put4 g J J J J _ _ _ _,Jt ((Bt c a).alloc (by have:=c.size;have:=a.size;omega) _) (Aa _) _ _ _ _⟩
end M3
abbrev FB(w:F):Prop:=Lib.TabIs H w "internal/strconv.uint64pow10" .u64 Lib.pow10Tab
def I1(n:Nat)(c:n<=9223372036854775807)(w:F)(b:FB w):Calls H 58 #[.int .i64 (n:Int)] w λe a=>e=.returned (I ⟨(Yz n).toArray⟩)/\Bl w a:=by
 refine(Tryz.strconv_Itoa n Y Y w b).mono ?_;rintro e a ⟨rfl,k,os,rfl⟩;refine⟨?_,LF w k os⟩;unfold Lib.itoa;rw[BH Y,Cs,OD]
def Rb(s:ByteArray)(w:F):Calls H 96 #[I s,I ⟨#[45]⟩] w λe a=>e=.returned (.tuple #[I ⟨(JE (Je s)).toArray⟩,E (decide ((Je s).head?=some 45))])/\Bl w a:=by
 refine(Fi s w).mono ?_;rintro e a ⟨rfl,rfl⟩;exact⟨J,BB _ _⟩
def Xp(a b:List UInt8):(⟨a.toArray⟩:ByteArray)++⟨b.toArray⟩=⟨(a++b).toArray⟩:=by
 apply ByteArray.ext;simp
def Rc(i:Nat)(p:i<=1099511627776)(w:F)(g:FB w):
 Calls H 97 #[.int .i64 (i:Int)] w λe l=>e=.returned (I ⟨(XE i).toArray⟩)/\Bl w l:=by
 by_cases b:i=0
 . subst b;go_enter func97,ntmps97
   go_wp2;go_ret;exact⟨J,BB _ _⟩
 . by_cases c:i=1
   . subst c;go_enter func97,ntmps97
     go_wp2;go_ret;exact⟨J,BB _ _⟩
   . have a:=Z (I1 i Y w g);have m:((i:Int)==0)=false:=by rw[BF];omega
     have n:((i:Int)==1)=false:=by rw[BF];omega
     have d:=Z (show(⟨#[120,94]⟩:ByteArray)++⟨(Yz i).toArray⟩=⟨(XE i).toArray⟩by
      unfold XE;rw[BH b,BH c];exact Xp [120,94] (Yz i))
     have k:(⟨(Yz i).toArray⟩:ByteArray).size<=1000:=by
      show(Yz i).toArray.size<=_;rw[Ah];have:=Xz i;have o:(Jb O i).length<=1:=Jz Jc uo;omega
     obtain⟨S,f⟩:∃S:ByteArray,⟨(Yz i).toArray⟩=S:=⟨_,J⟩;rw[f]at a d k;clear b c g f;go_enter func97,ntmps97
     go_wp2_with(go_at_call 58;refine a.o.mono ?_;clear a;rintro e q ⟨rfl,j⟩)
     go_ret;exact⟨by rw[<-d.o];rfl,j⟩
def MO(q:Rat):JE (JL q)=JL (YA q)/\decide ((JL q).head?=some 45)=decide (q<0):=by
 by_cases h:q<0
 . rw[MI h,RQ h];refine⟨J,?_⟩;rw[BI h];rfl
 . rw[MJ h];have a:=RR h;refine⟨by unfold JE;rw[BH a],by rw[BE a,BE h]⟩
def MP(a b c:List UInt8):(⟨a.toArray⟩:ByteArray)++⟨b.toArray⟩++⟨c.toArray⟩=⟨(a++b++c).toArray⟩:=by rw[Xp,Xp]
def Xs{X a:ByteArray}(h:X=a):Ending.returned (I X)=.returned (I a):=by rw[h]
def Re(va:L)(q:Rat)(i:Nat)(first:Bool)(w:F)(U:Jk w va q)(hs:Sq q)(hi:i<=1099511627776)(ad:FB w):
 Calls H 53 #[va,.int .i64 (i:Int),E first] w λe w'=>e=.returned (I ⟨(YY q i first).toArray⟩)/\Bl w w':=by
 obtain⟨s,a,l,c,t,b,k,d,rfl⟩:=U.form;have b0:=JB.new w 38 (E s) (C a l c) (E t) (C b k d);have r:Bl w (w.alloc (B #[E s,C a l c,E t,C b k d] 38)):=Ba w _;obtain⟨W0,T⟩:=ex (w.alloc (B #[E s,C a l c,E t,C b k d] 38));rw[T]at b0 r;obtain⟨y,j,g⟩:=DQ T (MG _ q W0 (U.below r) hs (JS ad r)) λ(V:F)=>Rb ⟨(JL q).toArray⟩ V;rw[show Je ⟨(JL q).toArray⟩=JL q from by simp[Je],(MO q).1,(MO q).2]at g;have m:=Z λ(V:F) (h:Bl W0 V)=>Rc i hi V (JS (JS ad r) h);obtain⟨k0,k1,k2,k3⟩:=b0.cq;have R:(⟨(JL (YA q)).toArray⟩:ByteArray).size<=2000000000000:=by
  show(JL (YA q)).toArray.size<=_;rw[Ah];obtain⟨e1,e2⟩:=Fr q;unfold JL;have h1:=XD (YA q).num;have M:=XD ((YA q).den:Int);have h3:=hs.num.words;have h4:=hs.den.words;rw[e1,A8]at h1;rw[e2]at M;rw[e1,e2];split
  . omega
  . rw[At,Ai];omega
 have Qm:(⟨(XE i).toArray⟩:ByteArray).size<=2000:=by
  show(XE i).toArray.size<=_;rw[Ah];have h3:(Jb O i).length<=1:=Jz Jc uo;have:=Xz i;unfold XE;split
  . simp
  . split
    . simp
    . simp only[Ai];omega
 obtain⟨ST,ah⟩:∃S:ByteArray,⟨(JL q).toArray⟩=S:=⟨_,J⟩;obtain⟨v,ae⟩:∃S:ByteArray,⟨(XE i).toArray⟩=S:=⟨_,J⟩;obtain⟨bl,W⟩:=ex (decide (q<0));rw[ah]at j g;rw[W]at g;rw[ae]at m Qm;have Qj:=Z W;have Ql:=Z ae;clear T U hs ad ah W;obtain⟨P,z⟩:∃S:ByteArray,⟨(JL (YA q)).toArray⟩=S:=⟨_,J⟩;have Qi:=Z z;have u:=Z (show(bl=true->(⟨#[45]⟩:ByteArray)++⟨(Ym q i).toArray⟩++v=⟨(YY q i first).toArray⟩)/\(bl=false->first=true->(⟨(Ym q i).toArray⟩:ByteArray)++v=⟨(YY q i first).toArray⟩)/\(bl=false->first=false->(⟨#[43]⟩:ByteArray)++⟨(Ym q i).toArray⟩++v=⟨(YY q i first).toArray⟩)by
  rw[<-Ql.o];have N:=Qj.o;refine⟨λh=>?_,λh M=>?_,λh M=>?_⟩
  . rw[h]at N;unfold YY Xk;rw[BL (Be N)];exact MP [45] _ _
  . rw[h]at N;unfold YY Xk;rw[BH (of_decide_eq_false N),M];exact(Xp _ _)
  . rw[h]at N;unfold YY Xk;rw[BH (of_decide_eq_false N),M];exact MP [43] _ _)
 by_cases x:JL (YA q)=[49]
 . by_cases Q:0<i
   . have Qk:(0:Int)<(i:Int):=Y
     rw[show Ym q i=[]from by unfold Ym;rw[BL ⟨x,Q⟩]]at u;rw[x]at g R;clear x Q z Qi;cases bl
     . cases first
       . go_enter func53,ntmps53
         go_upto_region 1 with fail
         rw[y.o];go_wp2_with(first
          |(go_at_call 16;refine j.o.mono ?_;clear j;rintro e A ⟨rfl,n⟩)
          |(go_at_call 96;refine(g.o _).mono ?_;clear g;rintro e D ⟨rfl,o⟩;have f:=Bt n o)
          |(go_at_call 97;refine(m.o _ f).mono ?_;clear m;rintro e K ⟨rfl,p⟩))
         go_ret;refine⟨?_,Bt r (Bt f p)⟩;exact Xs (X:=(⟨#[43]⟩:ByteArray)++⟨#[]⟩++v) (u.o.2.2 (by first|rfl|trivial) (by first|rfl|trivial))
       . go_enter func53,ntmps53
         go_upto_region 1 with fail
         rw[y.o];go_wp2_with(first
          |(go_at_call 16;refine j.o.mono ?_;clear j;rintro e A ⟨rfl,n⟩)
          |(go_at_call 96;refine(g.o _).mono ?_;clear g;rintro e D ⟨rfl,o⟩;have f:=Bt n o)
          |(go_at_call 97;refine(m.o _ f).mono ?_;clear m;rintro e K ⟨rfl,p⟩))
         go_ret;refine⟨?_,Bt r (Bt f p)⟩;exact Xs (X:=(⟨#[]⟩:ByteArray)++v) (u.o.2.1 (by first|rfl|trivial) (by first|rfl|trivial))
     . go_enter func53,ntmps53
       go_upto_region 1 with fail
       rw[y.o];go_wp2_with(first
        |(go_at_call 16;refine j.o.mono ?_;clear j;rintro e A ⟨rfl,n⟩)
        |(go_at_call 96;refine(g.o _).mono ?_;clear g;rintro e D ⟨rfl,o⟩;have f:=Bt n o)
        |(go_at_call 97;refine(m.o _ f).mono ?_;clear m;rintro e K ⟨rfl,p⟩))
       go_ret;refine⟨?_,Bt r (Bt f p)⟩;exact Xs (X:=(⟨#[45]⟩:ByteArray)++⟨#[]⟩++v) (u.o.1 (by first|rfl|trivial))
   . have Qk:¬(0:Int)<(i:Int):=Y
     rw[show Ym q i=[49]from by unfold Ym;rw[BH λh=>Q h.2,x]]at u;rw[x]at g R;clear x Q z Qi;cases bl
     . cases first
       . go_enter func53,ntmps53
         go_upto_region 1 with fail
         rw[y.o];go_wp2_with(first
          |(go_at_call 16;refine j.o.mono ?_;clear j;rintro e A ⟨rfl,n⟩)
          |(go_at_call 96;refine(g.o _).mono ?_;clear g;rintro e D ⟨rfl,o⟩;have f:=Bt n o)
          |(go_at_call 97;refine(m.o _ f).mono ?_;clear m;rintro e K ⟨rfl,p⟩))
         go_ret;refine⟨?_,Bt r (Bt f p)⟩;exact Xs (X:=(⟨#[43]⟩:ByteArray)++⟨#[49]⟩++v) (u.o.2.2 (by first|rfl|trivial) (by first|rfl|trivial))
       . go_enter func53,ntmps53
         go_upto_region 1 with fail
         rw[y.o];go_wp2_with(first
          |(go_at_call 16;refine j.o.mono ?_;clear j;rintro e A ⟨rfl,n⟩)
          |(go_at_call 96;refine(g.o _).mono ?_;clear g;rintro e D ⟨rfl,o⟩;have f:=Bt n o)
          |(go_at_call 97;refine(m.o _ f).mono ?_;clear m;rintro e K ⟨rfl,p⟩))
         go_ret;refine⟨?_,Bt r (Bt f p)⟩;exact Xs (X:=(⟨#[49]⟩:ByteArray)++v) (u.o.2.1 (by first|rfl|trivial) (by first|rfl|trivial))
     . go_enter func53,ntmps53
       go_upto_region 1 with fail
       rw[y.o];go_wp2_with(first
        |(go_at_call 16;refine j.o.mono ?_;clear j;rintro e A ⟨rfl,n⟩)
        |(go_at_call 96;refine(g.o _).mono ?_;clear g;rintro e D ⟨rfl,o⟩;have f:=Bt n o)
        |(go_at_call 97;refine(m.o _ f).mono ?_;clear m;rintro e K ⟨rfl,p⟩))
       go_ret;refine⟨?_,Bt r (Bt f p)⟩;exact Xs (X:=(⟨#[45]⟩:ByteArray)++⟨#[49]⟩++v) (u.o.1 (by first|rfl|trivial))
 . have Qh:¬P=(⟨#[49]⟩:ByteArray):=by
    intro h;apply x;rw[<-z]at h;have M:=Bw (λb:ByteArray=>b.data.toList) h;simpa using M
   have ai:¬P.toList=[49]:=by
    rw[YO,<-z];simpa using x
   clear Qh;rw[show Ym q i=JL (YA q)from by unfold Ym;rw[BH λh=>x h.1],z]at u;rw[z]at g R;clear x z;cases bl
   . cases first
     . go_enter func53,ntmps53
       go_upto_region 1 with fail
       rw[y.o];go_wp2_with(first
        |(go_at_call 16;refine j.o.mono ?_;clear j;rintro e A ⟨rfl,n⟩)
        |(go_at_call 96;refine(g.o _).mono ?_;clear g;rintro e D ⟨rfl,o⟩;have f:=Bt n o)
        |(go_at_call 97;refine(m.o _ f).mono ?_;clear m;rintro e K ⟨rfl,p⟩))
       go_ret;refine⟨?_,Bt r (Bt f p)⟩;exact Xs (X:=(⟨#[43]⟩:ByteArray)++P++v) (u.o.2.2 (by first|rfl|trivial) (by first|rfl|trivial))
     . go_enter func53,ntmps53
       go_upto_region 1 with fail
       rw[y.o];go_wp2_with(first
        |(go_at_call 16;refine j.o.mono ?_;clear j;rintro e A ⟨rfl,n⟩)
        |(go_at_call 96;refine(g.o _).mono ?_;clear g;rintro e D ⟨rfl,o⟩;have f:=Bt n o)
        |(go_at_call 97;refine(m.o _ f).mono ?_;clear m;rintro e K ⟨rfl,p⟩))
       go_ret;refine⟨?_,Bt r (Bt f p)⟩;exact Xs (X:=(P:ByteArray)++v) (u.o.2.1 (by first|rfl|trivial) (by first|rfl|trivial))
   . go_enter func53,ntmps53
     go_upto_region 1 with fail
     rw[y.o];go_wp2_with(first
      |(go_at_call 16;refine j.o.mono ?_;clear j;rintro e A ⟨rfl,n⟩)
      |(go_at_call 96;refine(g.o _).mono ?_;clear g;rintro e D ⟨rfl,o⟩;have f:=Bt n o)
      |(go_at_call 97;refine(m.o _ f).mono ?_;clear m;rintro e K ⟨rfl,p⟩))
     go_ret;refine⟨?_,Bt r (Bt f p)⟩;exact Xs (X:=(⟨#[45]⟩:ByteArray)++P++v) (u.o.1 (by first|rfl|trivial))
def MQ(B b:Nat)(l:List UInt8)(w:F)(h:Lib.IsBuilder 89 5 B b (Lib.byteCells l) w):Calls H 54 #[G (some ⟨b,0,none⟩)] w λe a=>e=.returned (.int .i64 (l.length:Int))/\Bl w a:=by
 refine(Tryz.Builder_Len B b _ w h).mono ?_;rintro e a ⟨rfl,rfl⟩;grind[Bu,BB]
def MR(w:F)(b:Nat)(a:TS)(len cap:Nat)(qs:X)(k:Nat)(W:F):Prop:=
 (Boxed W (b+1) 23 (C a len cap)/\Bl w W)/\Lib.IsBuilder 89 5 b b (Lib.byteCells (JM (qs.drop (len-k)) (len-k))) W
def Rf(w:F)(b:Nat)(a:TS)(len cap:Nat)(qs:X)(d:w.heap.size<=b):OwnFrom (b+1+1) (MR w b a len cap qs):=
 BM (BM (Bf (boxed_own _ _ λ_=>C a len cap) _) (Bn (Aa _) Y)) λ_ _ _ _ h hg c=>Ih h hg c
def EX(w W:F)(c b:Nat)(a:TS)(len cap:Nat)(x y z u:L)(T:List UInt8)(V:F):Prop:=
 ((Boxed V (c+1) 23 (C a len cap)/\Bl w V)/\Lib.IsBuilder 89 5 c c (Lib.byteCells T) V)/\KeepsOthers W V/\JB V b 38 x y z u/\c+1<V.heap.size
def EX.below{w W:F}{d b:Nat}{a:TS}{len cap:Nat}{x y z u:L}{T:List UInt8}{V V':F}(h:EX w W d b a len cap x y z u T V)(c:Bl V V'):EX w W d b a len cap x y z u T V':=
 ⟨⟨⟨Jl h.1.1.1 c,Bt h.1.1.2 c⟩,YD h.1.2 c⟩,h.2.1.trans (J4 c),h.2.2.1.below c,Al h.2.2.2 c.size⟩
def EX.write{w W:F}{c b:Nat}{a:TS}{len cap:Nat}{x y z u:L}{T n:List UInt8}{V V':F}(h:EX w W c b a len cap x y z u T V)(s:w.heap.size<=c)(q:b≠c){bs:List L}
(r:Lib.BuilderAt 89 5 c c (G (some ⟨c,0,none⟩)) bs V')(l:Below c V V')(m:∀k o,V.heap[k]?=some o->k≠c->(∀f z,o≠B f 5 z)->V'.heap[k]?=some o)(e:bs=Lib.byteCells n):EX w W c b a len cap x y z u n V':=by
 refine⟨⟨⟨m _ _ h.1.1.1 Y (λf z e=>by cases e),h.1.1.2.trans (l.mono s)⟩,Aw (by rw[<-e];exact r)⟩,h.2.1.trans ⟨l.size,λk o d g=>?_⟩,m _ _ h.2.2.1 q (λf z e=>by cases e),Al h.2.2.2 l.size⟩;by_cases p:k=c
 . subst p;rcases h.1.2 with i|i
   . obtain⟨_,v,j,_⟩:=i;rw[j]at d;cases d;cases g
   . obtain⟨_,v,j,_⟩:=i;rw[j]at d;cases d;cases g
 . exact m k o d p (λf z e=>by rw[e]at g;cases g)
def FQ(w W:F)(c b:Nat)(a:TS)(len cap:Nat)(x y z u:L)(T:List UInt8)(q:Rat)(V:F):Prop:=EX w W c b a len cap x y z u T V/\Jk V (.agg #[x,y,z,u]) q
def FQ.below{w W:F}{c b:Nat}{a:TS}{len cap:Nat}{x y z u:L}{T:List UInt8}{q:Rat}{V V':F}(h:FQ w W c b a len cap x y z u T q V)(d:Bl V V'):FQ w W c b a len cap x y z u T q V':=⟨h.1.below d,h.2.below d⟩
def I5(v:L)(qs:List Rat)(w:F)(hp:Yj w v qs)(hs:Sqs qs)(hT:∀m,(JM (qs.drop m) m).length<=140737488355328)(bu:FB w):
 Calls H 13 #[v] w λe w'=>e=.returned (I ⟨(X6 qs).toArray⟩)/\Bl w w':=by
 obtain⟨u0,rfl,h⟩:=hp;obtain⟨a,len,cap,rfl⟩:=h.form;obtain⟨hl,de,dh,cy,s,t,aa,bb,ll,cc,kk,dd,hc⟩:=h.forms;obtain⟨HL,M,HS,Ub,Qp⟩:=Ed hl hc hs hT bu;clear hc hl hs h hT bu;obtain⟨W0,ah⟩:=ex (((w.alloc (B #[C a len cap] 25)).alloc (B #[G none,C none 0 0] 89)).alloc (B #[C a len cap] 23));obtain⟨d,aj⟩:=ex (w.heap.size+1);have hN:W0.heap.size=d+1+1:=by rw[<-ah,<-aj];simp
 have x2:Boxed W0 (d+1) 23 (C a len cap):=by
  have R:=BJ ((w.alloc (B #[C a len cap] 25)).alloc (B #[G none,C none 0 0] 89)) 23 (C a len cap);rw[ah]at R;simpa[aj]using R
 have x3:Bl w W0:=by rw[<-ah];exact((Ba w _).alloc C9 _).alloc si _
 have x5:Lib.IsBuilder 89 5 d d (Lib.byteCells (JM (qs.drop (len-0)) (len-0))) W0:=by
  refine Ao ⟨Aa _,C none 0 0,?_,?_,by simp[Value.ownBlock]⟩
  . rw[<-ah,<-aj];have R:=BD (w.alloc (B #[C a len cap] 25)) (B #[G none,C none 0 0] 89);rw[A1]at R;exact(Bj _ _ _ C9).trans R
  . rw[Au (by have:=HL.o;omega)];exact⟨J,Ao ⟨J,J⟩⟩
 have Qr:=Z ah;have Qk:=Z aj;have Qj:w.heap.size<=d:=Y
 clear ah;refine(BK (n:=3)).1 ?_;refine BV func13 J trivial ?_ J;simp only[ntmps13,Ah,Ai,AM,Nat.reduceAdd,Nat.reduceSub,Ar,As,AK,Az,Ag,An];gi_wp2_with(refine⟨trivial,?_⟩;gi_at_call 50;refine(L4 Fence.wide _ trivial J _ _ _ _).mono ?_;rintro e w' ⟨rfl,rfl⟩)
 rw[Qr.o];try simp only[Qk.o]
 clear aj;refine Kk J Y (gf:=94) (lb:=#[G (some ⟨d+1,0,none⟩)]) J trivial (B7 func94 TT J)
  (L3 Fence.wide _ trivial J Y (d+1) a len cap (λj=>E (s j)) (λj=>C (aa j) (ll j) (cc j)) (λj=>E (t j)) (λj=>C (bb j) (kk j) (dd j)) cy) (λ_=>rfl)
  (MR w d a len cap qs) (λ_ _ _=>False) (by rw[hN];exact Rf w d a len cap qs Qj) (λc s W W' row h=>h.elim) ⟨⟨x2,x3⟩,x5⟩ ?rd
  (λk b=>{ tmps:=#[.agg #[C a len cap],G (some ⟨w.heap.size,0,none⟩),I ⟨#[]⟩,G (some ⟨d,0,none⟩),.int .i64 ((len:Int)-1-k),G (some ⟨b,0,none⟩),G (some ⟨w.heap.size,0,none⟩),C a len cap,.func (.func 94) #[] #[G (some ⟨d+1,0,none⟩)],.int .i64 ((len:Int)-1-k),.agg #[E (s (len-1-k)),C (aa (len-1-k)) (ll (len-1-k)) (cc (len-1-k)),E (t (len-1-k)),C (bb (len-1-k)) (kk (len-1-k)) (dd (len-1-k))],undef,undef,undef,undef,undef,undef,undef,undef,undef,undef,undef,undef],defers:=[] })
  (λk=>B #[E (s (len-1-k)),C (aa (len-1-k)) (ll (len-1-k)) (cc (len-1-k)),E (t (len-1-k)),C (bb (len-1-k)) (kk (len-1-k)) (dd (len-1-k))] 38 (0,0)) ?assign ?body ?done ?stop
 case stop=>intro D c k W _ _ h;exact h.elim
 case rd=>
  intro k W az;have hB:=az.1.2;refine⟨az.1.1.cell,λhk=>?_⟩;obtain⟨_,b,ea,hb,R,N,h3,h4⟩:=M.o (len-1-k) Y;exact⟨b,ea,(hB.cell (p:=⟨b,_,none⟩) hb).trans R,(hB.cell (p:=⟨b,_,none⟩) hb).trans N,(hB.cell (p:=⟨b,_,none⟩) hb).trans h3,(hB.cell (p:=⟨b,_,none⟩) hb).trans h4⟩
 case assign=>
  intro l k W K U;unfold GY;gi_wp2;exact U
 case done=>
  rintro D W hD ⟨⟨y1,y2⟩,A⟩ U;rw[show qs.drop (len-len)=qs from by rw[AV];rfl,AV]at A;have Qf:d<=W.heap.size:=by have:=y1.lt;omega
  have HY:=Z A;have Qd:=Z (MQ d d _ W A);clear A;by_cases am:JM qs 0=[]
  . have Qe:=Z (show X6 qs=[48]by unfold X6;rw[BL am]);rw[am]at Qd;gi_wp2_with(refine⟨trivial,?_⟩;gi_at_call 54;refine((BK (n:=_)).2 Qd.o).mono ?_;rintro e w6 ⟨rfl,ai⟩)
    have Qh:w6.heap[D]?=some (.deferred (some [])):=(J4 ai).same D _ U J;refine⟨C9,.inl ⟨_,_,J,Bd Qh,?_⟩⟩;refine⟨I ⟨#[48]⟩,by simp[results,results13,go_sem],by rw[Qe.o],?_⟩;exact below_grown (Bt y2 ai) (BW _ D (.deferred none)) Y
  . have Qe:=Z (show X6 qs=JM qs 0 by unfold X6;rw[BH am]);have Qn:((JM qs 0).length:Int)≠0:=by
     have:0<(JM qs 0).length:=Ch.2 am
     omega
    have Qz:(((JM qs 0).length:Int)==0)=false:=by rw[BF];exact Qn
    have Ql:=Z λ(V:F) (h:Bl W V)=>Tryz.Builder_String_any_k d d (JM qs 0) V (Lib.IsBuilderF.of (YD HY.o h)) (AB Qf h.size);obtain⟨n,hn⟩:=ex ((JM qs 0).length);rw[hn]at Qd Qz Qn;obtain⟨ST,aq⟩:∃S:ByteArray,⟨(JM qs 0).toArray⟩=S:=⟨_,J⟩;rw[aq]at Ql;have Qt:=Z (show⟨(X6 qs).toArray⟩=ST by rw[Qe.o];exact aq);clear am hn aq HY;gi_wp2_with(first
     |(refine⟨trivial,?_⟩;gi_at_call 54;refine((BK (n:=_)).2 Qd.o).mono ?_;clear Qd;rintro e w6 ⟨rfl,ai⟩)
     |(refine⟨trivial,?_⟩;gi_at_call 55;refine((BK (n:=_)).2 (Ql.o _ ai)).mono ?_;clear Ql;rintro e w7 ⟨rfl,_,cg,co⟩))
    have Qh:w6.heap[D]?=some (.deferred (some [])):=(J4 ai).same D _ U J;have Qs:=co D _ Qh (λe=>by cases e;omega) (λc fz e=>by cases e);refine⟨C9,.inl ⟨_,_,J,Bd Qs,?_⟩⟩;refine⟨I ST,by simp[results,results13,go_sem],by rw[Qt.o],?_⟩;exact below_grown ((Bt y2 ai).trans (cg.mono Qj)) (BW _ D (.deferred none)) Y
 case body=>
  rintro l k b W ⟨⟨y1,y2⟩,A⟩ hk cz ck ay;have hm:len-1-k<len:=Y
  obtain⟨hi,_⟩:=M.o (len-1-k) hm;have HI:=Z (Jk.below hi y2);have e1:((len:Int)-1-k)=((len-1-k:Nat):Int):=Y
  have ek:len-k=len-1-k+1:=Y
  rw[e1];rw[ek]at A;have Qi:=Z (show len-(k+1)=len-1-k by omega);clear e1 hi ek;obtain⟨m,bk⟩:=ex (len-1-k);rw[bk]at ay HI hm A Qi ⊢;have HM:=Z (show m<qs.length by have:=HL.o;omega);obtain⟨Qc,Qw,Qg⟩:=DQ (Y8 qs HM.o) (Ub.o m) (HS.o.at m);have Qu:m<=1099511627776:=Y
  clear bk;have q0:JB W b 38 (E (s m)) (C (aa m) (ll m) (cc m)) (E (t m)) (C (bb m) (kk m) (dd m)):=ay;obtain⟨s1,bn⟩:=ex (s m);obtain⟨t1,bt⟩:=ex (t m);obtain⟨a1,bd⟩:=ex (aa m);obtain⟨b1,bf⟩:=ex (bb m);obtain⟨l1,bj⟩:=ex (ll m);obtain⟨c1,bg⟩:=ex (cc m);obtain⟨m1,bm⟩:=ex (kk m);obtain⟨d1,bi⟩:=ex (dd m);rw[bn,bt,bd,bf,bj,bg,bm,bi]at q0 HI ⊢;obtain⟨T,bc⟩:=ex (JM (qs.drop (m+1)) (m+1));rw[bc]at A Qc;obtain⟨q,bh⟩:∃y,cf qs m=y:=⟨_,J⟩;rw[bh]at HI Qc Qg;have hS:EX w W d b a len cap (E s1) (C a1 l1 c1) (E t1) (C b1 m1 d1) T W:=⟨⟨⟨y1,y2⟩,A⟩,KeepsOthers.refl W,q0,by have:=y1.lt;omega⟩;have Qy:b≠d:=Y
  clear bn bt bd bf bj bg bm bi bc bh y1 y2 A ay cz ck;obtain⟨k0,k1,k2,k3⟩:=q0.cq;have HZ:=Z λ(X:Nat)=>Bc l ((BK (n:=X)).2 (L2 _ q W HI.o Qg.o));by_cases hx:q=0
  . rw[show decide (q=0)=true from BI hx]at HZ;have HX:=Z hx;clear hx;gi_wp2_with(refine⟨trivial,?_⟩;gi_at_call 51;refine(HZ.o _).mono ?_;rintro e w' ⟨rfl,an⟩)
    have ae:=hS.below an;refine⟨ae.2.1.from _,ae.1.1,?_⟩;rw[Qi.o,Qc.o,BL HX.o];exact ae.1.2
  . rw[show decide (q=0)=false from BE hx]at HZ;have HX:=Z hx;clear hx;gi_wp2_with(refine⟨trivial,?_⟩;gi_at_call 51;refine(HZ.o _).mono ?_;clear HZ;rintro e w' ⟨rfl,an⟩)
    have ae:=hS.below an;have bz:=Z (HI.o.below an);clear hS k0 k1 k2 k3 q0 HI;obtain⟨n,hn⟩:=ex (T.length);obtain⟨f,hf⟩:=ex (T.isEmpty);have dj:((n:Int)==0)=f:=by
     rw[<-hf,<-hn,Ce,beq_iff_eq,List.isEmpty_iff_length_eq_zero];omega
    rw[BH HX.o,hf]at Qc;have HN:=Z hn;have Qm:=Z (show T.length+(YY q m f).length<=140737488355328 by
     have:=Qw.o;rw[Qc.o,At]at this;exact this)
    have Qq:FQ w W d b a len cap (E s1) (C a1 l1 c1) (E t1) (C b1 m1 d1) T q w'.drew:=FQ.below ⟨ae,bz.o⟩ ((BB _ w').drew);have Qv:=Z λ(V:F) (h:Bl w V)=>JS Qp.o h;obtain⟨TX,ak⟩:∃S:ByteArray,⟨(YY q m f).toArray⟩=S:=⟨_,J⟩;obtain⟨Qe,Ua,Qx,Qo⟩:=Dk ak (show T.length+TX.size<=140737488355328 by rw[<-ak];show _+(YY q m f).toArray.size<=_;rw[Ah];exact Qm.o) (show Lib.byteCells T++Lib.strCells TX=Lib.byteCells (T++YY q m f)by rw[<-ak];simp[Lib.byteCells,Lib.strCells]) λ(V:F) (u:L) (hu:Jk V u q) (h:Bl w V)=>Re u q m f V hu Qg.o Qu (Qv.o V h);rw[ak]at Qo;clear ae hn hf ak;refine Xm Di [[],[],[],[2],[0,1,3,2],[4,4]] TT DG
     (λD ap V=>∃(ta tb tc td te tf:L),ap={ tmps:=#[.agg #[C a len cap],G (some ⟨w.heap.size,0,none⟩),I { data:=#[] },G (some ⟨d,0,none⟩),.int .i64 ↑m,G (some ⟨b,0,none⟩),G (some ⟨w.heap.size,0,none⟩),C a len cap,.func (.func 94) #[] #[G (some ⟨d+1,0,none⟩)],.int .i64 ↑m,.agg #[E s1,C a1 l1 c1,E t1,C b1 m1 d1],.agg #[E s1,C a1 l1 c1,E t1,C b1 m1 d1],E false,E true,ta,tb,tc,td,te,tf,undef,undef,undef],defers:=[] }/\Hid ((D 0=true->D 5=false->Jk V ta q)/\(D 1=true->tb=.int .i64 (m:Int))/\(D 2=true->tc=.int .i64 (n:Int))/\(D 3=true->td=E f)/\(D 4=true->te=I TX)/\(D 5=true->True))/\Hid ((D 5=false->FQ w W d b a len cap (E s1) (C a1 l1 c1) (E t1) (C b1 m1 d1) (T) q V)/\(D 5=true->EX w W d b a len cap (E s1) (C a1 l1 c1) (E t1) (C b1 m1 d1) (T++YY q m f) V)))
     ⟨_,_,_,_,_,_,J,Z C9,Z ⟨λ_=>Qq,C9⟩⟩ ?step1 ?fin1
    case step1=>
     rintro D ap V i ds Q hi x ad ⟨ta,tb,tc,td,te,tf,rfl,g,o⟩;have di:i<6:=(Ax.1 hi).1;obtain rfl|rfl|rfl|rfl|rfl|rfl:=KM i Y
     all_goals
      simp only[A3,AW,A0]at hi;subst hi
     . have z:D 5=false:=DK Q (DK (a:=4) Q ad);have r:=o.o.1 z;obtain⟨e0,e1,e2,e3⟩:=r.1.2.2.1.cq;clear x;refine Dw ?_;exact⟨(IA (Fc g λ_ _=>r.2) λ_=>trivial),o⟩
     . have z:D 5=false:=DK Q (DK (a:=4) Q ad);have r:=o.o.1 z;clear x;refine Dw ?_;exact⟨(IA (GJ g) λ_=>trivial),o⟩
     . have z:D 5=false:=DK Q (DK (a:=4) Q ad);have r:=o.o.1 z;clear x;have M:=Z λ(X:Nat)=>Bc l ((BK (n:=X)).2 (MQ d d T V r.1.1.2));rw[HN.o]at M;refine Bb J λK U=>?_;go_simp;gi_wp2_with(refine⟨trivial,?_⟩;gi_at_call 54;refine(M.o _).mono ?_;rintro e w5 ⟨rfl,P⟩)
       exact⟨_,_,_,_,_,_,J,Z ⟨λh N=>(g.o.1 h N).below P,g.o.2.1,λ_=>rfl,g.o.2.2.2.1,g.o.2.2.2.2.1,λ_=>trivial⟩,Z ⟨λh=>(o.o.1 h).below P,λh=>(o.o.2 h).below P⟩⟩
     . have z:D 5=false:=DK Q (DK (a:=4) Q ad);have r:=o.o.1 z;obtain rfl:=g.o.2.2.1 (x 2 C9);clear x;refine Dw ?_;exact⟨Z ⟨g.o.1,g.o.2.1,λ_=>rfl,λ_=>rfl,g.o.2.2.2.2.1,λ_=>trivial⟩,o⟩
     . have z:D 5=false:=DK Q ad;have r:=o.o.1 z;have h0:=g.o.1 (x 0 C9) z;obtain rfl:=g.o.2.1 (x 1 C9);obtain rfl:=g.o.2.2.2.1 (x 3 C9);clear x;have M:=Z λ(X:Nat)=>Bc l ((BK (n:=X)).2 (Qo.o V _ h0 r.1.1.1.2));clear h0;refine Bb J λK U=>?_;go_simp;gi_wp2_with(refine⟨trivial,?_⟩;gi_at_call 53;refine(M.o _).mono ?_;rintro e w5 ⟨rfl,P⟩)
       exact⟨_,_,_,_,_,_,J,Z ⟨λh N=>(g.o.1 h N).below P,λ_=>rfl,g.o.2.2.1,λ_=>rfl,λ_=>rfl,λ_=>trivial⟩,Z ⟨λh=>(o.o.1 h).below P,λh=>(o.o.2 h).below P⟩⟩
     . have r:=o.o.1 ad;obtain rfl:=g.o.2.2.2.2.1 (x 4 C9);clear x;have M:=Z λ(X:Nat)=>Bc l ((BK (n:=X)).2 (Xg d d _ TX V r.1.1.2 (by rw[Bu];exact Ua.o) (by have:=r.1.2.2.2;omega)));refine Bb J λK U=>?_;go_simp;gi_wp2_with(refine⟨trivial,?_⟩;gi_at_call 52;refine(M.o _).mono ?_;rintro e w5 ⟨⟨v5,rfl⟩,⟨cj,P⟩,cn⟩)
       exact⟨_,_,_,_,_,_,J,Z ⟨λ_ h=>by simp at h,g.o.2.1,g.o.2.2.1,g.o.2.2.2.1,λ_=>rfl,λ_=>trivial⟩,Z ⟨λh=>by simp at h,λ_=>r.1.write Qj Qy cj P cn Qx.o⟩⟩
    case fin1=>
     rintro D ap V ce ⟨ta,tb,tc,td,te,tf,rfl,g,o⟩;have N:=o.o.2 (ce 5 DG);refine⟨N.2.1.from _,N.1.1,?_⟩;rw[Qi.o,Qc.o];exact N.1.2
open M3

