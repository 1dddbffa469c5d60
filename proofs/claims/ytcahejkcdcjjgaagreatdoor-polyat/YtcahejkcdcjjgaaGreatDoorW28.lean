import Derived.Test.YtcahejkcdcjjgaaGreatDoorW27
import Derived.Lib.AppendZeros
set_option linter.all false
open Go.Value renaming slice->C
set_option maxRecDepth 99999
set_option maxHeartbeats 0
namespace Go.Proofs.YtcahejkcdcjjgaaGreatDoor
open List renaming replicate->Zw
open Go.RowKit Go.Shelf
attribute [local go_sem] Oper.semAt_some
def Bk:=@Lib.wpList_append_run
variable{Q ds:Ja}{d n r:Nat}
def VA(ds:Ja)(k:Nat)(h:k<ds.length):val 10000 (ds.drop k)=ds[k]?.getD 0+10000*val 10000 (ds.drop (k+1)):=by
 rw[AD h,JT,Aq h];rfl
def FE(ds:Ja)(n k r:Nat)(Q:Ja):Prop:=
 Q.length=ds.length/\DK 10000 Q/\r=val 10000 (ds.drop k)%n/\val 10000 Q=10000^k*(val 10000 (ds.drop k)/n)/\∀j,j<k->Q[j]?.getD 0=0
def FE.start(ds:Ja)(n:Nat):FE ds n ds.length 0 (Zw ds.length 0):=by
 refine⟨AM,λx b=>by rw[CP b];omega,?_,?_,λj _=>?_⟩
 . rw[List.drop_length,Gx,Nat.zero_mod]
 . rw[List.drop_length,Gx,Nat.zero_div,Cb,ON]
 . by_cases a:j<ds.length
   . rw[List.getElem?_replicate_of_lt a];rfl
   . rw[AU (by rw[AM];omega)];rfl
theorem FE.step{k:Nat}(h:FE ds n (k+1) r Q)(s:k<ds.length)(q:d=ds[k]?.getD 0)(b:0<n)(v:d<10000):
 d+10000*r<n*10000/\FE ds n k ((d+10000*r)%n) (Q.set k ((d+10000*r)/n)):=by
 obtain⟨m,o,e,p,f⟩:=h;have g:=VA ds k s;rw[<-q]at g;have x:r<n:=by rw[e];exact AV _ b
 have c:d+10000*r<n*10000:=O
 have a:=Mu (t:=val 10000 (ds.drop (k+1))) (k:=10000) (un0:=d) b;have i:val 10000 (ds.drop (k+1))*10000+d=val 10000 (ds.drop k):=by rw[g,AO,CW]
 have l:val 10000 (ds.drop (k+1))%n*10000+d=d+10000*r:=by rw[<-e,AO,CW]
 rw[i,l]at a;have u:(d+10000*r)/n<10000:=by rw[AC b,AO 10000 n];exact c
 refine⟨c,by rw[CM];exact m,o.set k u,a.2,?_,λj w=>?_⟩
 . have hs:=Lq 10000 Q k ((d+10000*r)/n) O;rw[f k O,Cb,A6]at hs;rw[hs,p,<-a.1,Cc];generalize val 10000 (ds.drop (k+1))/n=A;grind
 . rw[CA O];exact f j O
def FE.fin{m:Nat}(h:FE ds n 0 r Q)(d:ds=Jb 10000 m):Js Q=Jb 10000 (m/n)/\r=m%n:=by
 obtain⟨e,c,b,a,f⟩:=h;rw[AB,d,Jn O]at b a;rw[Nat.pow_zero,Fa]at a;exact⟨by rw[<-JQ O c,a],b⟩
def VB(a:d<10000):Js (d::Jb 10000 r)=Jb 10000 (d+10000*r):=by
 have h:=JQ (B:=10000) O (ds:=d::Jb 10000 r) (DK.cons a (Jm O r));rw[JT,Jn O]at h;exact h.symm
def Ou(a:Zu)(la ca:Nat)(b:Zu)(lb E m n:Nat)(w:World)(ra:RN w (C a la ca) m)(rb:RN w (C b lb E) n)(hn:n≠0)(bz:la<=100000000000)(ce:lb<=100000000000):
 Calls Tryz.prog 157 #[C a la ca,C b lb E] w λe w'=>∃u v,e=.returned (.tuple #[u,v])/\RN w' u (m/n)/\RN w' v (m%n)/\Bl w w':=by
 obtain⟨ad,Ul,cj,bt,ay⟩:=Jq ra;have X:=(Jq rb).1;have Uc:=OM la O w;obtain⟨D,H⟩:∃D,D=w.alloc (.cells (cellsOf .i64 (Zw la 0)).toArray 3):=⟨_,J⟩;have Qv:Bl w D:=by rw[H];exact Ba w _
 have Qw:Dg D w.heap.size (Zw la 0):=by rw[H];exact Dg.made (BC w _)
 rw[<-H]at Uc;have R:=Z (FE.start (Jb 10000 m) n);rw[<-ad]at R;have HF:=Z λQ r (h:FE (Jb 10000 m) n 0 r Q)=>h.fin (m:=m) J;have xa:=Jm (B:=10000) O m;have Uk:=Z (show Dr (n:Int)<=400000000000 by unfold Dr;rw[Ca,<-X];omega);generalize Jb 10000 m=ds at *;obtain⟨Qq,H1,Ql,Qy⟩:=Dn ad ay rb X;clear ad ay H ra rb X;go_enter Tryz.func157,Tryz.ntmps157
 go_wp2_with fail
 go_loopw [7,8] (λrv iv wr=>∃(k r:Nat) (Q:Ja) (o:Zu) (lr q:Nat),iv=.int .i64 ((k:Int)-1)/\k<=la/\rv=C o lr q/\Hid (RN wr (C o lr q) r)/\r<n/\Dg wr w.heap.size Q/\Hid (FE ds n k r Q)/\Bl w wr) (λ_ iv _=>(intOf iv+1).toNat)
 case atStart=>exact⟨la,0,Zw la 0,none,0,0,J,Aa _,J,Z (by unfold RN;rw[Jv];exact Row.nil _ _),O,Qw,R,Qv⟩
 case round=>
  clear R Qw Qv Uc;obtain⟨k,r,Q,o,lr,q,rfl,hk,rfl,y,cn,hA,l,hB⟩:=hrel;cases k with
  |zero=>
   obtain⟨f1,f2⟩:=HF.o Q r l.o;have Uj:=Z f2;have Ui:Q.length=la:=by rw[l.o.1,Qq.o]
   have Qe:Row .i64 wr (C (some ⟨w.heap.size,0,none⟩) la la) Q:=by
    have F:=hA.row 0 la la O (Aa _) O O;rwa[AB,Ac O]at F
   have g:=Z (GS _ Q wr Qe);rw[f1]at g;clear f1 f2 Qe;go_wp2_with(go_at_call 140;refine g.o.mono ?_;rintro e w2 ⟨u,rfl,L,e2⟩;obtain⟨ua,uc,rfl⟩:=RN.form L;have e3:=e2.symm;subst e3;clear e2)
   exact BA (v:=.tuple #[C ua (Jb 10000 (m/n)).length uc,C o lr q]) (by simp[results,Tryz.results157,go_sem]) J ⟨_,_,J,L,by rw[<-Uj.o];exact y.o,hB⟩
  |succ k=>
   obtain⟨ab,ao,rfl,bg,aq⟩:=H1.o k O;have e0:(((k+1:Nat):Int)-1)=(k:Int):=O
   rw[e0];have bk:wr.cell? ⟨ab,ao+k,none⟩=some (.int .i64 (ds[k]?.getD 0:Nat)):=(hB.cell (p:=⟨ab,ao+k,none⟩) bg).trans aq;have hd:=xa.getD O k;obtain⟨hT,bd⟩:=l.o.step (by rw[<-Qq.o];omega) J O hd;have A:=Z bd;have Qp:=Z (VB (r:=r) hd);have cg:lr<=100000000001:=by
    have F:=(Jq y.o).1;have h2:(Jb 10000 r).length<=(Jb 10000 n).length:=by
     rcases AF (Jb 10000 n).length (Jb 10000 r).length with h|h
     . have:=Ys O h;omega
     . exact h
    have:=Qy.o;omega
   clear bd aq e0;generalize ds[k]?.getD 0=d at *;obtain⟨g',l',c',w2,ak,az,bm,an⟩:=U9 d 45 wr o lr q _ y.o O;have g:=Z (U8 _ _ _ _ _ az);rw[Qp.o]at g;go_upto_region 8 with(at_builtin;refine Bk _ J _ _ 45 45 J _ _ J J _ _ ak ?_)
   obtain⟨T,aj⟩:=ex (d+10000*r);rw[aj]at hT A g Qp;clear aj ak az;have S:Bl w w2:=Bt hB an;have Ua:=hA.below an;have bn:w.heap.size<wr.heap.size:=hA.lt;have Ui:Q.length=la:=by rw[l.o.1,Qq.o]
   have W:Q[k]?.getD 0=0:=l.o.2.2.2.2 k O;go_upto_region 9 with(go_at_call 140;refine g.o.mono ?_;rintro e cy ⟨l2,rfl,ae,rfl⟩)
   clear g y Qp;obtain⟨cm,x⟩:=ex (YG T n:Int);have z:=Z (K4 10000 O _ _ (Jb 10000 T) (Jb 10000 n) _ ae (RN.below Ql.o S) (Jm O _) (Jm O _) (J8 O _) (J8 O _));rw[Jn O,Jn O,x]at z;by_cases G:T<n
   . rw[XF G]at x;subst x;have HQ:=Z (show Q.set k (T/n)=Q by
      rw[A3 G];apply List.ext_getElem?;intro j;rw[List.getElem?_set];split
      . rename_i e;subst e;rw[BL O,Aq O];rw[Aq (show k<Q.length by omega)]at W;simp only[CT]at W;rw[W]
      . rfl)
     have HM:=Z (Cf G);have bu:(k:Int)-1=((k:Int)-1):=rfl;have wk:IntKind.i64.wrap ((k:Int)-1)=(k:Int)-1:=IntWalk.i64_in _ O;go_wp2_with(go_at_call 143;refine z.o.mono ?_;rintro e w3 ⟨rfl,i⟩)
     have h3:=A.o;rw[HQ.o,HM.o]at h3;exact⟨⟨k,T,Q,_,l2,c',J,O,J,Z (RN.below ae i),O,Ua.below i,Z h3,Bt S i⟩,by simp[intOf]⟩
   . have bj:¬(cm<0):=by rw[<-x];unfold YG;rw[BH G];split<;>omega
     have Ul:(0:Int)<=cm:=O
     clear x;go_upto_region 10 with(go_at_call 143;refine z.o.mono ?_;rintro e w3 ⟨rfl,i⟩)
     have Qs:Bl w w3:=Bt S i;have Qt:=RN.below (n:=T) ae i;have Qn:=Ua.below i;have Qr:=Z (Ts _ l2 c' b lb E T n w3 Qt (RN.below Ql.o Qs) hT O);obtain⟨c,K⟩:=ex (T/n);rw[K]at Qr A;have ck:c<10000:=by rw[<-K,AC O,AO];exact hT
     have Qu:=Z K;clear K;have ki:(k:Int)<(la:Int):=O
     have kn:k<la:=O
     go_upto_region 11 with(go_at_call 183;refine Qr.o.mono ?_;rintro e w4 ⟨rfl,t⟩;have kc:=(Qn.below t).cell (j:=k) O;have kf:=(Qn.below t).frozen k)
     obtain⟨f,s⟩:=ex (w4.setCell ⟨w.heap.size,k,none⟩ (.int .i64 (c:Nat)));have Qx:Dg f w.heap.size (Q.set k c):=by rw[<-s];exact(Qn.below t).set k c
     have Uh:Bl w w4:=Bt Qs t;have Qo:Bl w f:=by rw[<-s];exact Uh.setCell (p:=⟨w.heap.size,k,none⟩) (Aa _) _
     have U:RN f (C (some ⟨g',0,none⟩) l2 c') T:=by
      rw[<-s];exact Row.grown (RN.below Qt t) (Jy w4 w.heap.size k _) (λp e _=>by cases e;simp only;omega)
     rw[s];have co:f.cell? ⟨w.heap.size,k,none⟩=some (.int .i64 (c:Nat)):=by
      have h:=Qx.cell (j:=k) (by rw[CM];omega);rw[h,CV O];rfl
     clear s kc kf Qr z;have Ub:=Z (FB (c:Nat) O O f);have Qz:=Z λ(V:World) (u:Value) (h:Bl f V) (L:Jr V u (c:Nat))=>GB (.agg #[C b lb E,.bool false]) u (n:Nat) (c:Nat) V (Gf (RN.below (RN.below Ql.o Qo) h)) L Uk.o (KA O O);go_upto_region 12 with(first
      |(go_at_call 93;refine Ub.o.mono ?_;rintro e w6 ⟨u6,rfl,M,ap⟩;obtain⟨a6,l6,c6,rfl⟩:=M.form;obtain⟨s6,ah⟩:=ex (decide (((c:Nat):Int)<0));rw[ah]at M;rw[ah];clear ah)
      |(go_at_call 109;refine(Qz.o _ _ ap M).mono ?_;rintro e P ⟨u7,rfl,N,bh⟩;obtain⟨a7,l7,c7,rfl⟩:=N.form;obtain⟨s7,ai⟩:=ex (decide (((n:Nat):Int)*((c:Nat):Int)<0));rw[ai]at N;rw[ai];clear ai))
     obtain⟨bc,rfl⟩:=OO (n:=n*c) N (by rw[C6]);have bx:=Ji.new P 47 (C a7 l7 c7) (.bool false);obtain⟨W8,I⟩:=ex (P.alloc (.cells #[C a7 l7 c7,.bool false] 47));have Qf:Bl f P:=Bt ap bh;have Qa:Bl f W8:=by rw[<-I];exact Qf.alloc Qf.size _
     have Ug:RN W8 (C a7 l7 c7) (n*c):=by rw[<-I];exact RN.below bc (Ba P _)
     rw[I]at bx ⊢;obtain⟨k0,k1⟩:=bx.cp;have Ue:n*c<=T:=by rw[<-Qu.o];exact Nat.mul_div_le T n
     have Ud:=Z (Ie _ _ T (n*c) W8 (RN.below U Qa) Ug Ue (by
      have F:=(Jq U).1;rw[<-F];have h2:=(Jq U).2.2.2.1;have h3:=JE (B:=10000) O (n:=T) (k:=(Jb 10000 n).length+1) (by
       have h4:=J7 (Jm (B:=10000) O n);rw[Jn O]at h4;rw[Cc];exact Ao hT (Ae _ (Nat.le_of_lt h4)))
      have h5:=Qy.o;omega))
     have Uf:=Z (show T-n*c=T%n by rw[<-Qu.o];have:=AZ T n;omega);rw[Uf.o]at Ud;have Qm:=AV T (show n>0 by omega);have wk:IntKind.i64.wrap ((k:Int)-1)=(k:Int)-1:=IntWalk.i64_in _ O;clear I Ub Qz M N bc Ue;go_wp2_with(go_at_call 144;refine Ud.o.mono ?_;rintro e w9 ⟨u9,rfl,bf,bi⟩;obtain⟨a9,c9,rfl⟩:=RN.form bf)
     have Qc:Bl f w9:=Bt Qa bi;exact⟨⟨k,T%n,Q.set k c,a9,_,c9,J,O,J,Z bf,Qm,Qx.below Qc,A,Bt Qo Qc⟩,by simp[intOf]⟩
