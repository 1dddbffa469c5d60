import Derived.Test.YtcahejkcdcjjgaaGreatDoorU25
set_option linter.all false
open Go.Value renaming slice->B,bool->C,pointer->G,string->I
open Go.Obj renaming cells->E
open Go renaming World->F
open Go.Proofs.Tryz renaming prog->H
set_option maxRecDepth 99999
set_option maxHeartbeats 0
namespace Go.Proofs.YtcahejkcdcjjgaaGreatDoor
open Proofs.Tryz
open Go.RowKit Go.Shelf
attribute [local go_sem] Oper.semAt_some
namespace M3
def KF(V:F)(t:Value)(q:Rat):Prop:=∃v,t=.iface 38 v/\Jn V v q
def KF.below{V V':F}{t:Value}{q:Rat}(h:KF V t q)(b:Bl V V'):KF V' t q:=by
 obtain⟨v,e,a⟩:=h;exact⟨v,e,a.below b⟩
def Rg(v:Value)(V:F):(method 371 38 v "Times").run H V=.ok (41,v) V:=by kernel_rfl
def Rh(v:Value)(V:F):(method 371 38 v "Plus").run H V=.ok (40,v) V:=by kernel_rfl
def KG(ps qs:Z):Prop:=(∀i a,Sq (cf ps i*cf qs a))/\∀n i a k,Sq (cf (Y8 (Y9 ps qs n i) i (cf ps i) qs a) k)
def Ri(a b:Tb)(o ca lb cb:Nat)(ps qs:Z)(w:F)(ha:RowK true w (B a o ca) ps)(hb:RowK true w (B b lb cb) qs)(ap:Sqs ps)(aq:Sqs qs)(an:KG ps qs)(bm:ps.length+qs.length<=1099511627776):
 Calls H 68 #[B a o ca,B b lb cb] w λe w'=>∃v g,e=.returned v/\RowK true w' v g/\(∀c,cf g c=cf (FO ps qs) c)/\Sqs g/\MK w.heap.size v/\Bl w w':=by
 obtain⟨ak,bg,bi,cg,s,t,aa,bb,ll,cc,kk,dd,hc⟩:=ha.forms;obtain⟨am,bh,bj,cj,s',t',az,bc,bu,bd,bt,bf,aj⟩:=hb.forms;obtain⟨n,hn⟩:∃n:Nat,max (0:Int) ((o:Int)+(lb:Int)-1)=(n:Int):=⟨(max (0:Int) ((o:Int)+(lb:Int)-1)).toNat,Y⟩;have cy:n<=1099511627776:=Y
 obtain⟨HN,bz,HC,ay,HP,HQ,HK,Qg⟩:=Fw (show o+lb<=n+1 from by omega) (show o+lb=0\/n+1=o+lb from by omega) hc aj ap aq an ak;have Qh:=Ja am;have Qs:=MP n Y w;have M0:C8 w (w.alloc (E (XD n) 38)) [some (w.heap.size,.rats (List.replicate n 0))]:=M3.C8.push (M3.C8.nil w) (.rats (List.replicate n 0)) (by
  obtain⟨cs,r,h2⟩:=MQ n w;refine⟨XD n,J,λc hj=>?_⟩;rw[A3]at hj;obtain⟨h0,r,h2,h3⟩:=MO hj;exact⟨_,_,_,_,h0,r,h2,h3,by rw[Yo];exact Dz _⟩)
 obtain⟨W0,ai⟩:=ex (w.alloc (E (XD n) 38));rw[ai]at M0 Qs;have Qq:=Ja M0;clear M0 ai ha hb ap aq ak am bg bi bh bj an hc aj bm;go_enter func68,ntmps68
 go_wp2;go_loopw [20] (λi wr=>∃(k:Nat),k<=o/\i=.int .i64 (k:Int)/\Hid (C8 w wr [some (w.heap.size,.rats (Y9 ps qs n k))])) λi _=>o-(intOf i).toNat
 case atStart=>exact⟨0,AL _,J,Qq⟩
 case round=>
  obtain⟨k,hk,rfl,q⟩:=hrel;by_cases bn:k<o
  . have ck:(k:Int)<(o:Int):=Y
    obtain⟨U,X,rfl,ae,u,x,y,z⟩:=HC.o k bn;have d:=q.o.2.2;have A:=Ja (U.below d);replace u:=(d.cell (p:=⟨X,_,none⟩) ae).trans u;replace x:=(d.cell (p:=⟨X,_,none⟩) ae).trans x;replace y:=(d.cell (p:=⟨X,_,none⟩) ae).trans y;replace z:=(d.cell (p:=⟨X,_,none⟩) ae).trans z;clear U d;obtain⟨s1,S⟩:=ex (s k);obtain⟨t1,T⟩:=ex (t k);obtain⟨a1,L⟩:=ex (aa k);obtain⟨b1,M⟩:=ex (bb k);obtain⟨l1,Q⟩:=ex (ll k);obtain⟨c1,N⟩:=ex (cc k);obtain⟨m1,R⟩:=ex (kk k);obtain⟨d1,P⟩:=ex (dd k);rw[S,T,L,M,Q,N,R,P]at A;rw[S]at u;rw[L,Q,N]at x;rw[T]at y;rw[M,R,P]at z;clear S T L M Q N R P;go_upto_region 5 with fail
    have l:C8 w (wr.alloc (E #[C s1,B a1 l1 c1,C t1,B b1 m1 d1] 38)) [some (w.heap.size,.rats (Y9 ps qs n k)),some (wr.heap.size,.rat (cf ps k))]:=M3.C8.push q.o (.rat (cf ps k)) A.o;obtain⟨V1,K⟩:=ex (wr.alloc (E #[C s1,B a1 l1 c1,C t1,B b1 m1 d1] 38));obtain⟨B1,D⟩:=ex (wr.heap.size);rw[K,D]at l;rw[K];rw[D];have Qt:=Ja l;clear l K D q A u x y z;go_wp2_with fail
    go_loopw [27] (λi wr=>∃(c:Nat),c<=lb/\i=.int .i64 (c:Int)/\Hid (C8 w wr [some (w.heap.size,.rats (Y8 (Y9 ps qs n k) k (cf ps k) qs c)),some (B1,.rat (cf ps k))])) λi _=>lb-(intOf i).toNat
    case atStart=>exact⟨0,AL _,J,Qt⟩
    case round=>
     obtain⟨c,hj,rfl,q⟩:=hrel;by_cases bk:c<lb
     . have ce:(c:Int)<(lb:Int):=Y
       obtain⟨U,ad,rfl,ah,u,x,y,z⟩:=ay.o c bk;have d:=q.o.2.2;have A:=Ja (U.below d);replace u:=(d.cell (p:=⟨ad,_,none⟩) ah).trans u;replace x:=(d.cell (p:=⟨ad,_,none⟩) ah).trans x;replace y:=(d.cell (p:=⟨ad,_,none⟩) ah).trans y;replace z:=(d.cell (p:=⟨ad,_,none⟩) ah).trans z;clear U d;obtain⟨s2,S⟩:=ex (s' c);obtain⟨t2,T⟩:=ex (t' c);obtain⟨a2,L⟩:=ex (az c);obtain⟨b2,M⟩:=ex (bc c);obtain⟨l2,Q⟩:=ex (bu c);obtain⟨c2,N⟩:=ex (bd c);obtain⟨m2,R⟩:=ex (bt c);obtain⟨d2,P⟩:=ex (bf c);rw[S,T,L,M,Q,N,R,P]at A;rw[S]at u;rw[L,Q,N]at x;rw[T]at y;rw[M,R,P]at z;clear S T L M Q N R P;go_upto_region 8 with fail
       have l:C8 w (wr.alloc (E #[C s2,B a2 l2 c2,C t2,B b2 m2 d2] 38)) [some (w.heap.size,.rats (Y8 (Y9 ps qs n k) k (cf ps k) qs c)),some (B1,.rat (cf ps k)),some (wr.heap.size,.rat (cf qs c))]:=M3.C8.push q.o (.rat (cf qs c)) A.o;obtain⟨V2,K⟩:=ex (wr.alloc (E #[C s2,B a2 l2 c2,C t2,B b2 m2 d2] 38));obtain⟨B2,D⟩:=ex (wr.heap.size);rw[K,D]at l;rw[K];rw[D];have Qc:=Ja l;clear l K D q A u x y z;have Qk:(k:Int)+(c:Int)<(n:Int):=by have:=HN.o;omega
       have Qe:(0:Int)<=(k:Int)+(c:Int):=Y
       have Qd:=Ja (show k+c<n by omega);have Qa:(k:Int)+(c:Int)=((k+c:Nat):Int):=Y
       obtain⟨m,hm⟩:=ex (k+c);rw[hm]at Qd Qa;have HM:=Ja hm;have co:(m:Int)<(n:Int):=by have:=Qd.o;omega
       have cz:IntKind.i64.wrap (m:Int)=(m:Int):=by rw[IntKind.wrap_i64];omega
       obtain⟨g,W⟩:=ex (Y8 (Y9 ps qs n k) k (cf ps k) qs c);rw[W]at Qc;obtain⟨Qf,Qm,Qr,Qp⟩:=Df (show m<g.length by rw[<-W,G9,Ha];exact Qd.o) W (show Sq (cf g m)by rw[<-W];exact HK.o.2 n k c m) (HK.o.1 k c);have Qj:=Qc.o.drew;clear hm W Qc Qk Qe;refine EA Dc [[],[],[],[1,2],[],[],[],[5,6],[4,7],[8],[9],[],[11],[],[12,13],[10,14,14],[0,3,0,1,2,3,4,5,6,7,8,9,10,11,12,13,14,15],[16,15,15,0,1,2,3,4,5,6,7,8,9,10,11,12,13,14,15]] [.eq (B (some ⟨w.heap.size,0,none⟩) n n),.eq (.int .i64 (k:Int)),.eq (.int .i64 (c:Int)),.eq (.int .i64 (m:Int)),.eq (B (some ⟨w.heap.size,0,none⟩) n n),.eq (.int .i64 (k:Int)),.eq (.int .i64 (c:Int)),.eq (.int .i64 (m:Int)),.eq (G (some ⟨w.heap.size,m*4,none⟩)),.rat (cf g m),.ifq (cf g m),.rat (cf ps k),.ifq (cf ps k),.rat (cf qs c),.rat (cf ps k*cf qs c),.rat (cf g m+cf ps k*cf qs c),.eq (G (some ⟨w.heap.size,m*4,none⟩)),.eq undef] [17] (λb _ V=>C8 w V [some (w.heap.size,if b.getD 0 false then .rats (g.set m (cf g m+cf ps k*cf qs c))else .rats g),some (B1,.rat (cf ps k)),some (B2,.rat (cf qs c))]) Qj (WB (.vl J λ_ _=>mv)<|WB (.vl J λ_ _=>mv)<|WB (.vl J λ_ _=>mv)<|WB (.vl J λh _=>⟨_,by refine DK ?_;rw[h.e 1,h.e 2];go_simp,J⟩)<|WB (.vl J λ_ _=>mv)<|WB (.vl J λ_ _=>mv)<|WB (.vl J λ_ _=>mv)<|WB (.vl J λh _=>⟨_,by refine DK ?_;rw[h.e 5,h.e 6];go_simp,J⟩)<|WB (.vl J λh _=>⟨_,by refine DK ?_;rw[h.e 4,h.e 7];go_simp,J⟩)<|WB (.vl J λh j=>QX 0 j Qf.o (h.e 8))<|WB (.vl J λh _=>mi (h.g 9))<|WB (.vl J λ_ j=>Eo 1 j)<|WB (.vl J λh _=>mi (h.g 11))<|WB (.vl J λ_ j=>Eo 2 j)<|WB (.ci J fun {_ V _} h j=>by obtain⟨y0,e,g0⟩:=h.g 12;have Qo:=Rg y0 V;exact⟨_,by refine DK ?_;rw[e];go_simp,RK _ _ (cf ps k) (cf qs c) V g0 (h.g 13) (HP.o.at k) (HQ.o.at c)⟩)<|WB (.ci J fun {_ V _} h j=>by obtain⟨y0,e,g0⟩:=h.g 10;have Qo:=Rh y0 V;exact⟨_,by refine DK ?_;rw[e];go_simp,Jx _ _ (cf g m) (cf ps k*cf qs c) V g0 (h.g 14) Qr.o Qp.o⟩)<|WB (.vl J λh _=>⟨_,by refine DK ?_;rw[h.e 0,h.e 3];go_simp,J⟩)<|WB (.wr J λh j=>QY 0 j Qf.o (h.g 15) (h.e 16)) Stp.end_)
        λf V hF l=>?_
       refine DK ?_;rw[hF.e 0,hF.e 1,hF.e 2,hF.e 3,hF.e 4,hF.e 5,hF.e 6,hF.e 7,hF.e 8,hF.e 16];have l:=FW l;have Qn:=Ja l;clear l hF;go_wp2_with fail
       go_roundw
       case rel=>
        refine⟨c+1,Y,by go_num,Ja ?_⟩;have r:=Qn.o.take 2;rw[<-HM.o,<-Qm.o]at r;exact r
       case measure=>simp[intOf];omega
     . have Ql:c=lb:=Y
       subst Ql;go_wp2_with fail
       go_roundw
       case rel=>
        refine⟨k+1,Y,by go_num,Ja ?_⟩;have r:=q.o.take 1;rw[Qh.o]at r;exact r
       case measure=>simp[intOf];omega
  . have Qi:k=o:=Y
    subst Qi;go_wp2;go_ret;have hE:=q.o.rats (i:=0) J;have cn:=Ha ps qs n k;have Qb:=hE.row (n:=n) (cap:=n) Y (Aa _) Y Y;rw[Ac Y]at Qb;refine⟨_,_,J,Qb,λc=>?_,Sqs.of λi=>?_,λa' l' c' e=>(by cases e;exact Aa _),q.o.2.2⟩
    . rw[Qg.o,Ke _ _ _ _ _ (Ax (by have:=HN.o;have h2:=Qh.o;have r:=Qg.o;omega)),Kd]
    . exact HK.o.2 n k 0 i
def Rj(D K:Value)(ps qs:Z)(w:F)(i:Yp w D ps)(k:Yp w K qs)(x:Sqs ps)(z:Sqs qs)(t:KG ps qs)(s:ps.length+qs.length<=1099511627776):
 Calls H 28 #[D,K] w λe L=>∃u,e=.returned u/\Yp L u (Fk ps qs)/\ML w.heap.size u/\Bl w L:=by
 obtain⟨u,rfl,i⟩:=i;obtain⟨v,rfl,k⟩:=k;obtain⟨a,l,f,rfl⟩:=i.form;obtain⟨b,lb,g,rfl⟩:=k.form;obtain⟨W0,c⟩:=ex (((w.alloc (E #[B a l f] 25)).alloc (E #[B b lb g] 25)).alloc (E #[B none 0 0] 25));have b0:Boxed W0 w.heap.size 25 (B a l f):=by rw[<-c];exact((BJ w _ _).alloc _).alloc _
 have Q:Boxed W0 (w.heap.size+1) 25 (B b lb g):=by rw[<-c];have:=(BJ (w.alloc (E #[B a l f] 25)) 25 (B b lb g)).alloc (E #[B none 0 0] 25);simpa using this
 have R:Boxed W0 (w.heap.size+1+1) 25 (B none 0 0):=by rw[<-c];have:=BJ ((w.alloc (E #[B a l f] 25)).alloc (E #[B b lb g] 25)) 25 (B none 0 0);simpa using this
 have m:Bl w W0:=by rw[<-c];exact((Ba w _).alloc B5 _).alloc si _
 obtain⟨q,r,N⟩:=DO (Ri a b l f lb g ps qs W0 (i.below m) (k.below m) x z t s) (λ(V:F) (v:Value) (d:Z) (h:RowK true V v d) (hs:Sqs d)=>MN v d V h hs) c;have k0:=b0.cell;have k1:=Q.cell;clear c i k x z t s;go_enter func28,ntmps28
 go_upto_region 1 with fail
 rw[N.o];go_wp2_with(first
  |(go_at_call 68;refine q.o.mono ?_;clear q;rintro e w1 ⟨v1,d,rfl,ad,A,ae,W,T⟩;have M:=Ja A;clear A)
  |(go_at_call 65;refine(r.o _ _ d ad ae).mono ?_;clear r;rintro e w2 ⟨u2,rfl,o,X,U⟩;obtain⟨a9,l9,c9,rfl⟩:=o.form;have y:=Bt T U;have n:=Jk R y;have k2:=n.cell;have f2:=n.frozen))
 have S:Jv d=Fk ps qs:=Yr λj=>M.o j;rw[S]at o;refine BA (by simp[results,results28,go_sem,k2]) J ⟨_,J,⟨_,J,F7 n _ o.row⟩,?_,(Bt m y).setCell (p:=⟨w.heap.size+1+1,0,none⟩) si _⟩;intro P l' c' e;have:=X W0.heap.size W P l' c' e;have h2:=m.size;omega
def Rk(n:Int)(y:-9223372036854775808<=n)(z:n<=9223372036854775807)(w:F):
 Calls H 77 #[.int .i64 n] w λe o=>∃u,e=.returned u/\Jn o u (n:Rat)/\Bl w o:=by
 have c:Bl w (w.alloc (E #[C false,B none 0 0,C false,B none 0 0] 38)):=Ba w _;have b0:=JC.new w 38 (C false) (B none 0 0) (C false) (B none 0 0);obtain⟨W0,f⟩:=ex (w.alloc (E #[C false,B none 0 0,C false,B none 0 0] 38));rw[f]at c b0;obtain⟨p,i,j,q⟩:=Df f (Gc n y z W0) (λ(V:F)=>Gc 1 Y Y V) (show Sok n from Sok.of (k:=2) (by unfold Sm O;omega) Y);have b:=Ja λ(V:F) (u v:Value) (K:Jh V u n) (M:Jh V v 1)=>RL u v n 1 V K M q.o Sok.one;rw[show decide ((1:Int)≠0)=true from J,show Rat.divInt n 1=(n:Rat)from by rw[Rat.divInt_eq_div];grind]at b;clear f;go_enter func77,ntmps77
 go_upto_region 1 with fail
 rw[p.o];go_wp2_with(first
  |(go_at_call 110;refine i.o.mono ?_;clear i;rintro e w1 ⟨u1,rfl,d,A⟩)
  |(go_at_call 110;refine(j.o _).mono ?_;clear j;rintro e w2 ⟨u2,rfl,L,l⟩;have d:=d.below l)
  |(go_at_call 107;refine(b.o _ _ _ d L).mono ?_;clear b;rintro e w3 ⟨u3,rfl,m,D⟩;have a:=Bt (Bt A l) D;have X:=(b0.below a).alloc (E #[C false,B none 0 0,C false,B none 0 0] 38);obtain⟨U,r,T,t,W,s,S,x,rfl⟩:=Jn.form m;have g:=(b0.below a).alloc (E #[C U,B r T t,C W,B s S x] 38);obtain⟨N,P,Q,R⟩:=g.cq;obtain⟨f0,f1,f2,f3⟩:=g.fq))
 exact BA (by simp[results,results77,go_sem,N,P,Q,R]) J ⟨_,J,(m.below (Ba _ _)).put4 g J J J J _ _ _ _,Ju ((Bt c a).alloc (by have:=c.size;have:=a.size;omega) _) (Aa _) _ _ _ _⟩
end M3
abbrev Fa(w:F):Prop:=Lib.TabIs H w "internal/strconv.uint64pow10" .u64 Lib.pow10Tab
def Rl(n:Nat)(c:n<=9223372036854775807)(w:F)(b:Fa w):Calls H 58 #[.int .i64 (n:Int)] w λe a=>e=.returned (I ⟨(J8 n).toArray⟩)/\Bl w a:=by
 refine(Tryz.strconv_Itoa n Y Y w b).mono ?_;rintro e a ⟨rfl,k,os,rfl⟩;refine⟨?_,LS w k os⟩;unfold Lib.itoa;rw[BE Y,CA,OT]
def Rm(s:ByteArray)(w:F):Calls H 96 #[I s,I ⟨#[45]⟩] w λe a=>e=.returned (.tuple #[I ⟨(JF (Jc s)).toArray⟩,C (decide ((Jc s).head?=some 45))])/\Bl w a:=by
 refine(Fz s w).mono ?_;rintro e a ⟨rfl,rfl⟩;exact⟨J,BB _ _⟩
def Gt(a b:List UInt8):(⟨a.toArray⟩:ByteArray)++⟨b.toArray⟩=⟨(a++b).toArray⟩:=by
 apply ByteArray.ext;simp
def Rn(i:Nat)(p:i<=1099511627776)(w:F)(g:Fa w):
 Calls H 97 #[.int .i64 (i:Int)] w λe l=>e=.returned (I ⟨(YG i).toArray⟩)/\Bl w l:=by
 by_cases b:i=0
 . subst b;go_enter func97,ntmps97
   go_wp2;go_ret;exact⟨J,BB _ _⟩
 . by_cases c:i=1
   . subst c;go_enter func97,ntmps97
     go_wp2;go_ret;exact⟨J,BB _ _⟩
   . have a:=Ja (Rl i Y w g);have m:((i:Int)==0)=false:=by rw[BI];omega
     have n:((i:Int)==1)=false:=by rw[BI];omega
     have d:=Ja (show(⟨#[120,94]⟩:ByteArray)++⟨(J8 i).toArray⟩=⟨(YG i).toArray⟩by
      unfold YG;rw[BE b,BE c];exact Gt [120,94] (J8 i))
     have k:(⟨(J8 i).toArray⟩:ByteArray).size<=1000:=by
      show(J8 i).toArray.size<=_;rw[An];have:=F3 i;have o:(Jb O i).length<=1:=JE Jd uo;omega
     obtain⟨S,f⟩:∃S:ByteArray,⟨(J8 i).toArray⟩=S:=⟨_,J⟩;rw[f]at a d k;clear b c g f;go_enter func97,ntmps97
     go_wp2_with(go_at_call 58;refine a.o.mono ?_;clear a;rintro e q ⟨rfl,j⟩)
     go_ret;exact⟨by rw[<-d.o];rfl,j⟩
def MX(q:Rat):JF (JT q)=JT (Yy q)/\decide ((JT q).head?=some 45)=decide (q<0):=by
 by_cases h:q<0
 . rw[KB h,Rb h];refine⟨J,?_⟩;rw[BG h];rfl
 . rw[KC h];have a:=Rc h;refine⟨by unfold JF;rw[BE a],by rw[BD a,BD h]⟩
def MY(a b c:List UInt8):(⟨a.toArray⟩:ByteArray)++⟨b.toArray⟩++⟨c.toArray⟩=⟨(a++b++c).toArray⟩:=by rw[Gt,Gt]
def Xu{X a:ByteArray}(h:X=a):Ending.returned (I X)=.returned (I a):=by rw[h]
def Ro(va:Value)(q:Rat)(i:Nat)(first:Bool)(w:F)(T:Jn w va q)(hs:Sq q)(hi:i<=1099511627776)(W:Fa w):
 Calls H 53 #[va,.int .i64 (i:Int),C first] w λe w'=>e=.returned (I ⟨(Yj q i first).toArray⟩)/\Bl w w':=by
 obtain⟨s,a,l,c,t,b,k,d,rfl⟩:=T.form;have b0:=JC.new w 38 (C s) (B a l c) (C t) (B b k d);have r:Bl w (w.alloc (E #[C s,B a l c,C t,B b k d] 38)):=Ba w _;obtain⟨W0,R⟩:=ex (w.alloc (E #[C s,B a l c,C t,B b k d] 38));rw[R]at b0 r;obtain⟨y,j,g⟩:=DO R (RZ _ q W0 (T.below r) hs (J6 W r)) λ(V:F)=>Rm ⟨(JT q).toArray⟩ V;rw[show Jc ⟨(JT q).toArray⟩=JT q from by simp[Jc],(MX q).1,(MX q).2]at g;have m:=Ja λ(V:F) (h:Bl W0 V)=>Rn i hi V (J6 (J6 W r) h);obtain⟨k0,k1,k2,k3⟩:=b0.cq;have Q:(⟨(JT (Yy q)).toArray⟩:ByteArray).size<=2000000000000:=by
  show(JT (Yy q)).toArray.size<=_;rw[An];obtain⟨e1,e2⟩:=KD q;unfold JT;have h1:=F8 (Yy q).num;have L:=F8 ((Yy q).den:Int);have h3:=hs.num.words;have h4:=hs.den.words;rw[e1,Ci]at h1;rw[e2]at L;rw[e1,e2];split
  . omega
  . rw[As,Ag];omega
 have Qm:(⟨(YG i).toArray⟩:ByteArray).size<=2000:=by
  show(YG i).toArray.size<=_;rw[An];have h3:(Jb O i).length<=1:=JE Jd uo;have:=F3 i;unfold YG;split
  . simp
  . split
    . simp
    . simp only[Ag];omega
 obtain⟨ST,ae⟩:∃S:ByteArray,⟨(JT q).toArray⟩=S:=⟨_,J⟩;obtain⟨v,ad⟩:∃S:ByteArray,⟨(YG i).toArray⟩=S:=⟨_,J⟩;obtain⟨bl,U⟩:=ex (decide (q<0));rw[ae]at j g;rw[U]at g;rw[ad]at m Qm;have Qj:=Ja U;have Ql:=Ja ad;clear R T hs W ae U;obtain⟨N,z⟩:∃S:ByteArray,⟨(JT (Yy q)).toArray⟩=S:=⟨_,J⟩;have Qi:=Ja z;have u:=Ja (show(bl=true->(⟨#[45]⟩:ByteArray)++⟨(YE q i).toArray⟩++v=⟨(Yj q i first).toArray⟩)/\(bl=false->first=true->(⟨(YE q i).toArray⟩:ByteArray)++v=⟨(Yj q i first).toArray⟩)/\(bl=false->first=false->(⟨#[43]⟩:ByteArray)++⟨(YE q i).toArray⟩++v=⟨(Yj q i first).toArray⟩)by
  rw[<-Ql.o];have M:=Qj.o;refine⟨λh=>?_,λh L=>?_,λh L=>?_⟩
  . rw[h]at M;unfold Yj EY;rw[BH (Bc M)];exact MY [45] _ _
  . rw[h]at M;unfold Yj EY;rw[BE (of_decide_eq_false M),L];exact(Gt _ _)
  . rw[h]at M;unfold Yj EY;rw[BE (of_decide_eq_false M),L];exact MY [43] _ _)
 by_cases x:JT (Yy q)=[49]
 . by_cases P:0<i
   . have Qk:(0:Int)<(i:Int):=Y
     rw[show YE q i=[]from by unfold YE;rw[BH ⟨x,P⟩]]at u;rw[x]at g Q;clear x P z Qi;cases bl
     . cases first
       . go_enter func53,ntmps53
         go_upto_region 1 with fail
         rw[y.o];go_wp2_with(first
          |(go_at_call 16;refine j.o.mono ?_;clear j;rintro e A ⟨rfl,n⟩)
          |(go_at_call 96;refine(g.o _).mono ?_;clear g;rintro e D ⟨rfl,o⟩;have f:=Bt n o)
          |(go_at_call 97;refine(m.o _ f).mono ?_;clear m;rintro e K ⟨rfl,p⟩))
         go_ret;refine⟨?_,Bt r (Bt f p)⟩;exact Xu (X:=(⟨#[43]⟩:ByteArray)++⟨#[]⟩++v) (u.o.2.2 (by first|rfl|trivial) (by first|rfl|trivial))
       . go_enter func53,ntmps53
         go_upto_region 1 with fail
         rw[y.o];go_wp2_with(first
          |(go_at_call 16;refine j.o.mono ?_;clear j;rintro e A ⟨rfl,n⟩)
          |(go_at_call 96;refine(g.o _).mono ?_;clear g;rintro e D ⟨rfl,o⟩;have f:=Bt n o)
          |(go_at_call 97;refine(m.o _ f).mono ?_;clear m;rintro e K ⟨rfl,p⟩))
         go_ret;refine⟨?_,Bt r (Bt f p)⟩;exact Xu (X:=(⟨#[]⟩:ByteArray)++v) (u.o.2.1 (by first|rfl|trivial) (by first|rfl|trivial))
     . go_enter func53,ntmps53
       go_upto_region 1 with fail
       rw[y.o];go_wp2_with(first
        |(go_at_call 16;refine j.o.mono ?_;clear j;rintro e A ⟨rfl,n⟩)
        |(go_at_call 96;refine(g.o _).mono ?_;clear g;rintro e D ⟨rfl,o⟩;have f:=Bt n o)
        |(go_at_call 97;refine(m.o _ f).mono ?_;clear m;rintro e K ⟨rfl,p⟩))
       go_ret;refine⟨?_,Bt r (Bt f p)⟩;exact Xu (X:=(⟨#[45]⟩:ByteArray)++⟨#[]⟩++v) (u.o.1 (by first|rfl|trivial))
   . have Qk:¬(0:Int)<(i:Int):=Y
     rw[show YE q i=[49]from by unfold YE;rw[BE λh=>P h.2,x]]at u;rw[x]at g Q;clear x P z Qi;cases bl
     . cases first
       . go_enter func53,ntmps53
         go_upto_region 1 with fail
         rw[y.o];go_wp2_with(first
          |(go_at_call 16;refine j.o.mono ?_;clear j;rintro e A ⟨rfl,n⟩)
          |(go_at_call 96;refine(g.o _).mono ?_;clear g;rintro e D ⟨rfl,o⟩;have f:=Bt n o)
          |(go_at_call 97;refine(m.o _ f).mono ?_;clear m;rintro e K ⟨rfl,p⟩))
         go_ret;refine⟨?_,Bt r (Bt f p)⟩;exact Xu (X:=(⟨#[43]⟩:ByteArray)++⟨#[49]⟩++v) (u.o.2.2 (by first|rfl|trivial) (by first|rfl|trivial))
       . go_enter func53,ntmps53
         go_upto_region 1 with fail
         rw[y.o];go_wp2_with(first
          |(go_at_call 16;refine j.o.mono ?_;clear j;rintro e A ⟨rfl,n⟩)
          |(go_at_call 96;refine(g.o _).mono ?_;clear g;rintro e D ⟨rfl,o⟩;have f:=Bt n o)
          |(go_at_call 97;refine(m.o _ f).mono ?_;clear m;rintro e K ⟨rfl,p⟩))
         go_ret;refine⟨?_,Bt r (Bt f p)⟩;exact Xu (X:=(⟨#[49]⟩:ByteArray)++v) (u.o.2.1 (by first|rfl|trivial) (by first|rfl|trivial))
     . go_enter func53,ntmps53
       go_upto_region 1 with fail
       rw[y.o];go_wp2_with(first
        |(go_at_call 16;refine j.o.mono ?_;clear j;rintro e A ⟨rfl,n⟩)
        |(go_at_call 96;refine(g.o _).mono ?_;clear g;rintro e D ⟨rfl,o⟩;have f:=Bt n o)
        |(go_at_call 97;refine(m.o _ f).mono ?_;clear m;rintro e K ⟨rfl,p⟩))
       go_ret;refine⟨?_,Bt r (Bt f p)⟩;exact Xu (X:=(⟨#[45]⟩:ByteArray)++⟨#[49]⟩++v) (u.o.1 (by first|rfl|trivial))
 . have Qh:¬N=(⟨#[49]⟩:ByteArray):=by
    intro h;apply x;rw[<-z]at h;have L:=congrArg (λb:ByteArray=>b.data.toList) h;simpa using L
   have ah:¬N.toList=[49]:=by
    rw[Gr,<-z];simpa using x
   clear Qh;rw[show YE q i=JT (Yy q)from by unfold YE;rw[BE λh=>x h.1],z]at u;rw[z]at g Q;clear x z;cases bl
   . cases first
     . go_enter func53,ntmps53
       go_upto_region 1 with fail
       rw[y.o];go_wp2_with(first
        |(go_at_call 16;refine j.o.mono ?_;clear j;rintro e A ⟨rfl,n⟩)
        |(go_at_call 96;refine(g.o _).mono ?_;clear g;rintro e D ⟨rfl,o⟩;have f:=Bt n o)
        |(go_at_call 97;refine(m.o _ f).mono ?_;clear m;rintro e K ⟨rfl,p⟩))
       go_ret;refine⟨?_,Bt r (Bt f p)⟩;exact Xu (X:=(⟨#[43]⟩:ByteArray)++N++v) (u.o.2.2 (by first|rfl|trivial) (by first|rfl|trivial))
     . go_enter func53,ntmps53
       go_upto_region 1 with fail
       rw[y.o];go_wp2_with(first
        |(go_at_call 16;refine j.o.mono ?_;clear j;rintro e A ⟨rfl,n⟩)
        |(go_at_call 96;refine(g.o _).mono ?_;clear g;rintro e D ⟨rfl,o⟩;have f:=Bt n o)
        |(go_at_call 97;refine(m.o _ f).mono ?_;clear m;rintro e K ⟨rfl,p⟩))
       go_ret;refine⟨?_,Bt r (Bt f p)⟩;exact Xu (X:=(N:ByteArray)++v) (u.o.2.1 (by first|rfl|trivial) (by first|rfl|trivial))
   . go_enter func53,ntmps53
     go_upto_region 1 with fail
     rw[y.o];go_wp2_with(first
      |(go_at_call 16;refine j.o.mono ?_;clear j;rintro e A ⟨rfl,n⟩)
      |(go_at_call 96;refine(g.o _).mono ?_;clear g;rintro e D ⟨rfl,o⟩;have f:=Bt n o)
      |(go_at_call 97;refine(m.o _ f).mono ?_;clear m;rintro e K ⟨rfl,p⟩))
     go_ret;refine⟨?_,Bt r (Bt f p)⟩;exact Xu (X:=(⟨#[45]⟩:ByteArray)++N++v) (u.o.1 (by first|rfl|trivial))
def MZ(B b:Nat)(l:List UInt8)(w:F)(h:Lib.IsBuilder 89 5 B b (Lib.byteCells l) w):Calls H 54 #[G (some ⟨b,0,none⟩)] w λe a=>e=.returned (.int .i64 (l.length:Int))/\Bl w a:=by
 refine(Tryz.Builder_Len B b _ w h).mono ?_;rintro e a ⟨rfl,rfl⟩;grind[Bs,BB]
def Ma(w:F)(b:Nat)(a:Tb)(len cap:Nat)(qs:Z)(k:Nat)(W:F):Prop:=
 (Boxed W (b+1) 23 (B a len cap)/\Bl w W)/\Lib.IsBuilder 89 5 b b (Lib.byteCells (J0 (qs.drop (len-k)) (len-k))) W
def Rp(w:F)(b:Nat)(a:Tb)(len cap:Nat)(qs:Z)(d:w.heap.size<=b):OwnFrom (b+1+1) (Ma w b a len cap qs):=
 BL (BL (Bd (boxed_own _ _ λ_=>B a len cap) _) (Bj (Aa _) Y)) λ_ _ _ _ h hg c=>It h hg c
def EZ(w W:F)(c b:Nat)(a:Tb)(len cap:Nat)(x y z u:Value)(T:List UInt8)(V:F):Prop:=
 ((Boxed V (c+1) 23 (B a len cap)/\Bl w V)/\Lib.IsBuilder 89 5 c c (Lib.byteCells T) V)/\KeepsOthers W V/\JC V b 38 x y z u/\c+1<V.heap.size
def EZ.below{w W:F}{d b:Nat}{a:Tb}{len cap:Nat}{x y z u:Value}{T:List UInt8}{V V':F}(h:EZ w W d b a len cap x y z u T V)(c:Bl V V'):EZ w W d b a len cap x y z u T V':=
 ⟨⟨⟨Jk h.1.1.1 c,Bt h.1.1.2 c⟩,YJ h.1.2 c⟩,h.2.1.trans (J4 c),h.2.2.1.below c,Ak h.2.2.2 c.size⟩
def EZ.write{w W:F}{c b:Nat}{a:Tb}{len cap:Nat}{x y z u:Value}{T n:List UInt8}{V V':F}(h:EZ w W c b a len cap x y z u T V)(s:w.heap.size<=c)(q:b≠c){bs:List Value}
(r:Lib.BuilderAt 89 5 c c (G (some ⟨c,0,none⟩)) bs V')(l:Below c V V')(m:∀k o,V.heap[k]?=some o->k≠c->(∀f z,o≠E f 5 z)->V'.heap[k]?=some o)(e:bs=Lib.byteCells n):EZ w W c b a len cap x y z u n V':=by
 refine⟨⟨⟨m _ _ h.1.1.1 Y (λf z e=>by cases e),h.1.1.2.trans (l.mono s)⟩,Ax (by rw[<-e];exact r)⟩,h.2.1.trans ⟨l.size,λk o d g=>?_⟩,m _ _ h.2.2.1 q (λf z e=>by cases e),Ak h.2.2.2 l.size⟩;by_cases p:k=c
 . subst p;rcases h.1.2 with i|i
   . obtain⟨_,v,j,_⟩:=i;rw[j]at d;cases d;cases g
   . obtain⟨_,v,j,_⟩:=i;rw[j]at d;cases d;cases g
 . exact m k o d p (λf z e=>by rw[e]at g;cases g)
def Fb(w W:F)(c b:Nat)(a:Tb)(len cap:Nat)(x y z u:Value)(T:List UInt8)(q:Rat)(V:F):Prop:=EZ w W c b a len cap x y z u T V/\Jn V (.agg #[x,y,z,u]) q
def Fb.below{w W:F}{c b:Nat}{a:Tb}{len cap:Nat}{x y z u:Value}{T:List UInt8}{q:Rat}{V V':F}(h:Fb w W c b a len cap x y z u T q V)(d:Bl V V'):Fb w W c b a len cap x y z u T q V':=⟨h.1.below d,h.2.below d⟩
def KH(v:Value)(qs:Z)(w:F)(hp:Yp w v qs)(hs:Sqs qs)(hT:∀m,(J0 (qs.drop m) m).length<=140737488355328)(bu:Fa w):
 Calls H 13 #[v] w λe w'=>e=.returned (I ⟨(Yx qs).toArray⟩)/\Bl w w':=by
 obtain⟨u0,rfl,h⟩:=hp;obtain⟨a,len,cap,rfl⟩:=h.form;obtain⟨hl,de,dh,cy,s,t,aa,bb,ll,cc,kk,dd,hc⟩:=h.forms;obtain⟨HL,L,HS,Ub,Qp⟩:=Ei hl hc hs hT bu;clear hc hl hs h hT bu;obtain⟨W0,ah⟩:=ex (((w.alloc (E #[B a len cap] 25)).alloc (E #[G none,B none 0 0] 89)).alloc (E #[B a len cap] 23));obtain⟨d,aj⟩:=ex (w.heap.size+1);have hN:W0.heap.size=d+1+1:=by rw[<-ah,<-aj];simp
 have x2:Boxed W0 (d+1) 23 (B a len cap):=by
  have Q:=BJ ((w.alloc (E #[B a len cap] 25)).alloc (E #[G none,B none 0 0] 89)) 23 (B a len cap);rw[ah]at Q;simpa[aj]using Q
 have x3:Bl w W0:=by rw[<-ah];exact((Ba w _).alloc B5 _).alloc si _
 have x5:Lib.IsBuilder 89 5 d d (Lib.byteCells (J0 (qs.drop (len-0)) (len-0))) W0:=by
  refine Ao ⟨Aa _,B none 0 0,?_,?_,by simp[Value.ownBlock]⟩
  . rw[<-ah,<-aj];have Q:=BC (w.alloc (E #[B a len cap] 25)) (E #[G none,B none 0 0] 89);rw[A1]at Q;exact(Bh _ _ _ B5).trans Q
  . rw[AA (by have:=HL.o;omega)];exact⟨J,Ao ⟨J,J⟩⟩
 have Qr:=Ja ah;have Qk:=Ja aj;have Qj:w.heap.size<=d:=Y
 clear ah;refine(BK (n:=3)).1 ?_;refine BT func13 J trivial ?_ J;simp only[ntmps13,An,Ag,AN,Nat.reduceAdd,Nat.reduceSub,Au,Aw,AK,Ay,Ah,Az];gi_wp2_with(refine⟨trivial,?_⟩;gi_at_call 50;refine(MH Fence.wide _ trivial J _ _ _ _).mono ?_;rintro e w' ⟨rfl,rfl⟩)
 rw[Qr.o];try simp only[Qk.o]
 clear aj;refine Ky J Y (gf:=94) (lb:=#[G (some ⟨d+1,0,none⟩)]) J trivial (B0 func94 Tc J)
  (MG Fence.wide _ trivial J Y (d+1) a len cap (λj=>C (s j)) (λj=>B (aa j) (ll j) (cc j)) (λj=>C (t j)) (λj=>B (bb j) (kk j) (dd j)) cy) (λ_=>rfl)
  (Ma w d a len cap qs) (λ_ _ _=>False) (by rw[hN];exact Rp w d a len cap qs Qj) (λc s W W' row h=>h.elim) ⟨⟨x2,x3⟩,x5⟩ ?rd
  (λk b=>{ tmps:=#[.agg #[B a len cap],G (some ⟨w.heap.size,0,none⟩),I ⟨#[]⟩,G (some ⟨d,0,none⟩),.int .i64 ((len:Int)-1-k),G (some ⟨b,0,none⟩),G (some ⟨w.heap.size,0,none⟩),B a len cap,.func (.func 94) #[] #[G (some ⟨d+1,0,none⟩)],.int .i64 ((len:Int)-1-k),.agg #[C (s (len-1-k)),B (aa (len-1-k)) (ll (len-1-k)) (cc (len-1-k)),C (t (len-1-k)),B (bb (len-1-k)) (kk (len-1-k)) (dd (len-1-k))],undef,undef,undef,undef,undef,undef,undef,undef,undef,undef,undef,undef],defers:=[] })
  (λk=>E #[C (s (len-1-k)),B (aa (len-1-k)) (ll (len-1-k)) (cc (len-1-k)),C (t (len-1-k)),B (bb (len-1-k)) (kk (len-1-k)) (dd (len-1-k))] 38 (0,0)) ?assign ?body ?done ?stop
 case stop=>intro D c k W _ _ h;exact h.elim
 case rd=>
  intro k W az;have hB:=az.1.2;refine⟨az.1.1.cell,λhk=>?_⟩;obtain⟨_,b,ea,hb,Q,M,h3,h4⟩:=L.o (len-1-k) Y;exact⟨b,ea,(hB.cell (p:=⟨b,_,none⟩) hb).trans Q,(hB.cell (p:=⟨b,_,none⟩) hb).trans M,(hB.cell (p:=⟨b,_,none⟩) hb).trans h3,(hB.cell (p:=⟨b,_,none⟩) hb).trans h4⟩
 case assign=>
  intro l k W K R;unfold Gm;gi_wp2;exact R
 case done=>
  rintro D W hD ⟨⟨y1,y2⟩,A⟩ R;rw[show qs.drop (len-len)=qs from by rw[AZ];rfl,AZ]at A;have Qf:d<=W.heap.size:=by have:=y1.lt;omega
  have HY:=Ja A;have Qd:=Ja (MZ d d _ W A);clear A;by_cases am:J0 qs 0=[]
  . have Qe:=Ja (show Yx qs=[48]by unfold Yx;rw[BH am]);rw[am]at Qd;gi_wp2_with(refine⟨trivial,?_⟩;gi_at_call 54;refine((BK (n:=_)).2 Qd.o).mono ?_;rintro e w6 ⟨rfl,ai⟩)
    have Qh:w6.heap[D]?=some (.deferred (some [])):=(J4 ai).same D _ R J;refine⟨B5,.inl ⟨_,_,J,Bb Qh,?_⟩⟩;refine⟨I ⟨#[48]⟩,by simp[results,results13,go_sem],by rw[Qe.o],?_⟩;exact below_grown (Bt y2 ai) (BU _ D (.deferred none)) Y
  . have Qe:=Ja (show Yx qs=J0 qs 0 by unfold Yx;rw[BE am]);have Qn:((J0 qs 0).length:Int)≠0:=by
     have:0<(J0 qs 0).length:=Cf.2 am
     omega
    have Qz:(((J0 qs 0).length:Int)==0)=false:=by rw[BI];exact Qn
    have Ql:=Ja λ(V:F) (h:Bl W V)=>Tryz.Builder_String_any_k d d (J0 qs 0) V (Lib.IsBuilderF.of (YJ HY.o h)) (AB Qf h.size);obtain⟨n,hn⟩:=ex ((J0 qs 0).length);rw[hn]at Qd Qz Qn;obtain⟨ST,aq⟩:∃S:ByteArray,⟨(J0 qs 0).toArray⟩=S:=⟨_,J⟩;rw[aq]at Ql;have Qt:=Ja (show⟨(Yx qs).toArray⟩=ST by rw[Qe.o];exact aq);clear am hn aq HY;gi_wp2_with(first
     |(refine⟨trivial,?_⟩;gi_at_call 54;refine((BK (n:=_)).2 Qd.o).mono ?_;clear Qd;rintro e w6 ⟨rfl,ai⟩)
     |(refine⟨trivial,?_⟩;gi_at_call 55;refine((BK (n:=_)).2 (Ql.o _ ai)).mono ?_;clear Ql;rintro e w7 ⟨rfl,_,cg,co⟩))
    have Qh:w6.heap[D]?=some (.deferred (some [])):=(J4 ai).same D _ R J;have Qs:=co D _ Qh (λe=>by cases e;omega) (λc fz e=>by cases e);refine⟨B5,.inl ⟨_,_,J,Bb Qs,?_⟩⟩;refine⟨I ST,by simp[results,results13,go_sem],by rw[Qt.o],?_⟩;exact below_grown ((Bt y2 ai).trans (cg.mono Qj)) (BU _ D (.deferred none)) Y
 case body=>
  rintro l k b W ⟨⟨y1,y2⟩,A⟩ hk cz ck ay;have hm:len-1-k<len:=Y
  obtain⟨hi,_⟩:=L.o (len-1-k) hm;have X:=Ja (Jn.below hi y2);have e1:((len:Int)-1-k)=((len-1-k:Nat):Int):=Y
  have ek:len-k=len-1-k+1:=Y
  rw[e1];rw[ek]at A;have Qi:=Ja (show len-(k+1)=len-1-k by omega);clear e1 hi ek;obtain⟨m,bk⟩:=ex (len-1-k);rw[bk]at ay X hm A Qi ⊢;have HM:=Ja (show m<qs.length by have:=HL.o;omega);obtain⟨Qc,Qw,Qg⟩:=DO (Gs qs HM.o) (Ub.o m) (HS.o.at m);have Qu:m<=1099511627776:=Y
  clear bk;have q0:JC W b 38 (C (s m)) (B (aa m) (ll m) (cc m)) (C (t m)) (B (bb m) (kk m) (dd m)):=ay;obtain⟨s1,bn⟩:=ex (s m);obtain⟨t1,bt⟩:=ex (t m);obtain⟨a1,bd⟩:=ex (aa m);obtain⟨b1,bf⟩:=ex (bb m);obtain⟨l1,bj⟩:=ex (ll m);obtain⟨c1,bg⟩:=ex (cc m);obtain⟨m1,bm⟩:=ex (kk m);obtain⟨d1,bi⟩:=ex (dd m);rw[bn,bt,bd,bf,bj,bg,bm,bi]at q0 X ⊢;obtain⟨T,bc⟩:=ex (J0 (qs.drop (m+1)) (m+1));rw[bc]at A Qc;obtain⟨q,bh⟩:∃y,cf qs m=y:=⟨_,J⟩;rw[bh]at X Qc Qg;have hS:EZ w W d b a len cap (C s1) (B a1 l1 c1) (C t1) (B b1 m1 d1) T W:=⟨⟨⟨y1,y2⟩,A⟩,KeepsOthers.refl W,q0,by have:=y1.lt;omega⟩;have Qy:b≠d:=Y
  clear bn bt bd bf bj bg bm bi bc bh y1 y2 A ay cz ck;obtain⟨k0,k1,k2,k3⟩:=q0.cq;have HZ:=Ja λ(U:Nat)=>BZ l ((BK (n:=U)).2 (MF _ q W X.o Qg.o));by_cases hx:q=0
  . rw[show decide (q=0)=true from BG hx]at HZ;have HX:=Ja hx;clear hx;gi_wp2_with(refine⟨trivial,?_⟩;gi_at_call 51;refine(HZ.o _).mono ?_;rintro e w' ⟨rfl,an⟩)
    have ae:=hS.below an;refine⟨ae.2.1.from _,ae.1.1,?_⟩;rw[Qi.o,Qc.o,BH HX.o];exact ae.1.2
  . rw[show decide (q=0)=false from BD hx]at HZ;have HX:=Ja hx;clear hx;gi_wp2_with(refine⟨trivial,?_⟩;gi_at_call 51;refine(HZ.o _).mono ?_;clear HZ;rintro e w' ⟨rfl,an⟩)
    have ae:=hS.below an;have bz:=Ja (X.o.below an);clear hS k0 k1 k2 k3 q0 X;obtain⟨n,hn⟩:=ex (T.length);obtain⟨f,hf⟩:=ex (T.isEmpty);have dj:((n:Int)==0)=f:=by
     rw[<-hf,<-hn,Cc,Bo,List.isEmpty_iff_length_eq_zero];omega
    rw[BE HX.o,hf]at Qc;have HN:=Ja hn;have Qm:=Ja (show T.length+(Yj q m f).length<=140737488355328 by
     have:=Qw.o;rw[Qc.o,As]at this;exact this)
    have Qq:Fb w W d b a len cap (C s1) (B a1 l1 c1) (C t1) (B b1 m1 d1) T q w'.drew:=Fb.below ⟨ae,bz.o⟩ ((BB _ w').drew);have Qv:=Ja λ(V:F) (h:Bl w V)=>J6 Qp.o h;obtain⟨TX,ak⟩:∃S:ByteArray,⟨(Yj q m f).toArray⟩=S:=⟨_,J⟩;obtain⟨Qe,Ua,Qx,Qo⟩:=Df ak (show T.length+TX.size<=140737488355328 by rw[<-ak];show _+(Yj q m f).toArray.size<=_;rw[An];exact Qm.o) (show Lib.byteCells T++Lib.strCells TX=Lib.byteCells (T++Yj q m f)by rw[<-ak];simp[Lib.byteCells,Lib.strCells]) λ(V:F) (u:Value) (hu:Jn V u q) (h:Bl w V)=>Ro u q m f V hu Qg.o Qu (Qv.o V h);rw[ak]at Qo;clear ae hn hf ak;refine Xo Dc [[],[],[],[2],[0,1,3,2],[4,4]] Tc DB
     (λD ap V=>∃(ta tb tc td te tf:Value),ap={ tmps:=#[.agg #[B a len cap],G (some ⟨w.heap.size,0,none⟩),I { data:=#[] },G (some ⟨d,0,none⟩),.int .i64 ↑m,G (some ⟨b,0,none⟩),G (some ⟨w.heap.size,0,none⟩),B a len cap,.func (.func 94) #[] #[G (some ⟨d+1,0,none⟩)],.int .i64 ↑m,.agg #[C s1,B a1 l1 c1,C t1,B b1 m1 d1],.agg #[C s1,B a1 l1 c1,C t1,B b1 m1 d1],C false,C true,ta,tb,tc,td,te,tf,undef,undef,undef],defers:=[] }/\Hid ((D 0=true->D 5=false->Jn V ta q)/\(D 1=true->tb=.int .i64 (m:Int))/\(D 2=true->tc=.int .i64 (n:Int))/\(D 3=true->td=C f)/\(D 4=true->te=I TX)/\(D 5=true->True))/\Hid ((D 5=false->Fb w W d b a len cap (C s1) (B a1 l1 c1) (C t1) (B b1 m1 d1) (T) q V)/\(D 5=true->EZ w W d b a len cap (C s1) (B a1 l1 c1) (C t1) (B b1 m1 d1) (T++Yj q m f) V)))
     ⟨_,_,_,_,_,_,J,Ja B5,Ja ⟨λ_=>Qq,B5⟩⟩ ?step1 ?fin1
    case step1=>
     rintro D ap V i ds P hi x ad ⟨ta,tb,tc,td,te,tf,rfl,g,o⟩;have di:i<6:=(Ar.1 hi).1;obtain rfl|rfl|rfl|rfl|rfl|rfl:=Kb i Y
     all_goals
      simp only[AW,AP,A0]at hi;subst hi
     . have z:D 5=false:=DG P (DG (a:=4) P ad);have r:=o.o.1 z;obtain⟨e0,e1,e2,e3⟩:=r.1.2.2.1.cq;clear x;refine Dr ?_;exact⟨(IC (Ew g λ_ _=>r.2) λ_=>trivial),o⟩
     . have z:D 5=false:=DG P (DG (a:=4) P ad);have r:=o.o.1 z;clear x;refine Dr ?_;exact⟨(IC (FR g) λ_=>trivial),o⟩
     . have z:D 5=false:=DG P (DG (a:=4) P ad);have r:=o.o.1 z;clear x;have L:=Ja λ(U:Nat)=>BZ l ((BK (n:=U)).2 (MZ d d T V r.1.1.2));rw[HN.o]at L;refine BX J λK R=>?_;go_simp;gi_wp2_with(refine⟨trivial,?_⟩;gi_at_call 54;refine(L.o _).mono ?_;rintro e w5 ⟨rfl,N⟩)
       exact⟨_,_,_,_,_,_,J,Ja ⟨λh M=>(g.o.1 h M).below N,g.o.2.1,λ_=>rfl,g.o.2.2.2.1,g.o.2.2.2.2.1,λ_=>trivial⟩,Ja ⟨λh=>(o.o.1 h).below N,λh=>(o.o.2 h).below N⟩⟩
     . have z:D 5=false:=DG P (DG (a:=4) P ad);have r:=o.o.1 z;obtain rfl:=g.o.2.2.1 (x 2 B5);clear x;refine Dr ?_;exact⟨Ja ⟨g.o.1,g.o.2.1,λ_=>rfl,λ_=>rfl,g.o.2.2.2.2.1,λ_=>trivial⟩,o⟩
     . have z:D 5=false:=DG P ad;have r:=o.o.1 z;have h0:=g.o.1 (x 0 B5) z;obtain rfl:=g.o.2.1 (x 1 B5);obtain rfl:=g.o.2.2.2.1 (x 3 B5);clear x;have L:=Ja λ(U:Nat)=>BZ l ((BK (n:=U)).2 (Qo.o V _ h0 r.1.1.1.2));clear h0;refine BX J λK R=>?_;go_simp;gi_wp2_with(refine⟨trivial,?_⟩;gi_at_call 53;refine(L.o _).mono ?_;rintro e w5 ⟨rfl,N⟩)
       exact⟨_,_,_,_,_,_,J,Ja ⟨λh M=>(g.o.1 h M).below N,λ_=>rfl,g.o.2.2.1,λ_=>rfl,λ_=>rfl,λ_=>trivial⟩,Ja ⟨λh=>(o.o.1 h).below N,λh=>(o.o.2 h).below N⟩⟩
     . have r:=o.o.1 ad;obtain rfl:=g.o.2.2.2.2.1 (x 4 B5);clear x;have L:=Ja λ(U:Nat)=>BZ l ((BK (n:=U)).2 (Xk d d _ TX V r.1.1.2 (by rw[Bs];exact Ua.o) (by have:=r.1.2.2.2;omega)));refine BX J λK R=>?_;go_simp;gi_wp2_with(refine⟨trivial,?_⟩;gi_at_call 52;refine(L.o _).mono ?_;rintro e w5 ⟨⟨v5,rfl⟩,⟨cj,N⟩,cn⟩)
       exact⟨_,_,_,_,_,_,J,Ja ⟨λ_ h=>by simp at h,g.o.2.1,g.o.2.2.1,g.o.2.2.2.1,λ_=>rfl,λ_=>trivial⟩,Ja ⟨λh=>by simp at h,λ_=>r.1.write Qj Qy cj N cn Qx.o⟩⟩
    case fin1=>
     rintro D ap V ce ⟨ta,tb,tc,td,te,tf,rfl,g,o⟩;have M:=o.o.2 (ce 5 DB);refine⟨M.2.1.from _,M.1.1,?_⟩;rw[Qi.o,Qc.o];exact M.1.2
open M3

