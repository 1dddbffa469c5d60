import Derived.Test.YtcahejkcdcjjgaaGreatDoorQ27
import Derived.Lib.AppendZeros
set_option linter.all false
open Go.Value renaming slice->C
set_option maxRecDepth 99999
set_option maxHeartbeats 0
namespace Go.Proofs.YtcahejkcdcjjgaaGreatDoor
open List renaming replicate->TT
open Go.RowKit Go.Shelf
attribute [local go_sem] Oper.semAt_some
variable{Q ds:Ja}{d n r:Nat}
def Rj(ds:Ja)(k:Nat)(h:k<ds.length):val 10000 (ds.drop k)=ds[k]?.getD 0+10000*val 10000 (ds.drop (k+1)):=by
 rw[AD h,JO,Ak h];rfl
def EL(ds:Ja)(n k r:Nat)(Q:Ja):Prop:=
 Q.length=ds.length/\DE 10000 Q/\r=val 10000 (ds.drop k)%n/\val 10000 Q=10000^k*(val 10000 (ds.drop k)/n)/\∀j,j<k->Q[j]?.getD 0=0
def EL.start(ds:Ja)(n:Nat):EL ds n ds.length 0 (TT ds.length 0):=by
 refine⟨AZ,λx b=>by rw[CI b];omega,?_,?_,λj _=>?_⟩
 . rw[List.drop_length,FV,Nat.zero_mod]
 . rw[List.drop_length,FV,Nat.zero_div,A8,Lo]
 . by_cases a:j<ds.length
   . rw[List.getElem?_replicate_of_lt a];rfl
   . rw[AJ (by rw[AZ];omega)];rfl
theorem EL.step{k:Nat}(h:EL ds n (k+1) r Q)(s:k<ds.length)(q:d=ds[k]?.getD 0)(b:0<n)(v:d<10000):
 d+10000*r<n*10000/\EL ds n k ((d+10000*r)%n) (Q.set k ((d+10000*r)/n)):=by
 obtain⟨m,o,e,p,f⟩:=h;have g:=Rj ds k s;rw[<-q]at g;have x:r<n:=by rw[e];exact AK _ b
 have c:d+10000*r<n*10000:=O
 have a:=KR (t:=val 10000 (ds.drop (k+1))) (k:=10000) (un0:=d) b;have i:val 10000 (ds.drop (k+1))*10000+d=val 10000 (ds.drop k):=by rw[g,AC,CO]
 have l:val 10000 (ds.drop (k+1))%n*10000+d=d+10000*r:=by rw[<-e,AC,CO]
 rw[i,l]at a;have u:(d+10000*r)/n<10000:=by rw[Aq b,AC 10000 n];exact c
 refine⟨c,by rw[CS];exact m,o.set k u,a.2,?_,λj w=>?_⟩
 . have hs:=Ij 10000 Q k ((d+10000*r)/n) O;rw[f k O,A8,AX]at hs;rw[hs,p,<-a.1,A9];generalize val 10000 (ds.drop (k+1))/n=A;grind
 . rw[Cv O];exact f j O
def EL.fin{m:Nat}(h:EL ds n 0 r Q)(d:ds=Jb 10000 m):Jp Q=Jb 10000 (m/n)/\r=m%n:=by
 obtain⟨e,c,b,a,f⟩:=h;rw[AB,d,Ji O]at b a;rw[Nat.pow_zero,C4]at a;exact⟨by rw[<-JN O c,a],b⟩
def Rk(a:d<10000):Jp (d::Jb 10000 r)=Jb 10000 (d+10000*r):=by
 have h:=JN (B:=10000) O (ds:=d::Jb 10000 r) (DE.cons a (Jh O r));rw[JO,Ji O]at h;exact h.symm
def MO(a:TR)(c ca:Nat)(b:TR)(lb F m n:Nat)(w:World)(ra:RN w (C a c ca) m)(rb:RN w (C b lb F) n)(hn:n≠0)(bz:c<=100000000000)(ce:lb<=100000000000):
 Calls Tryz.prog 157 #[C a c ca,C b lb F] w λe w'=>∃u v,e=.returned (.tuple #[u,v])/\RN w' u (m/n)/\RN w' v (m%n)/\Bl w w':=by
 obtain⟨ad,Ul,cj,bt,ay⟩:=Jm ra;have Qk:=(Jm rb).1;have Uc:=Ln c O w;obtain⟨E,K⟩:∃E,E=w.alloc (.cells (cellsOf .i64 (TT c 0)).toArray 3):=⟨_,J⟩;have Qv:Bl w E:=by rw[K];exact Ba w _
 have Qw:DX E w.heap.size (TT c 0):=by rw[K];exact DX.made (BD w _)
 rw[<-K]at Uc;have U:=Z (EL.start (Jb 10000 m) n);rw[<-ad]at U;have HF:=Z λQ r (h:EL (Jb 10000 m) n 0 r Q)=>h.fin (m:=m) J;have xa:=Jh (B:=10000) O m;have Uk:=Z (show De (n:Int)<=400000000000 by unfold De;rw[A6,<-Qk];omega);generalize Jb 10000 m=ds at *;obtain⟨Qq,H1,Ql,Qy⟩:=Dl ad ay rb Qk;clear ad ay K ra rb Qk;go_enter Tryz.func157,Tryz.ntmps157
 go_wp2_with fail
 go_loopw [7,8] (λrv iv wr=>∃(k r:Nat) (Q:Ja) (q:TR) (lr s:Nat),iv=.int .i64 ((k:Int)-1)/\k<=c/\rv=C q lr s/\Hid (RN wr (C q lr s) r)/\r<n/\DX wr w.heap.size Q/\Hid (EL ds n k r Q)/\Bl w wr) (λ_ iv _=>(intOf iv+1).toNat)
 case atStart=>exact⟨c,0,TT c 0,none,0,0,J,Aa _,J,Z (by unfold RN;rw[Js];exact Row.nil _ _),O,Qw,U,Qv⟩
 case round=>
  clear U Qw Qv Uc;obtain⟨k,r,Q,q,lr,s,rfl,hk,rfl,z,cn,hA,o,hB⟩:=hrel;cases k with
  |zero=>
   obtain⟨f1,f2⟩:=HF.o Q r o.o;have Uj:=Z f2;have Ui:Q.length=c:=by rw[o.o.1,Qq.o]
   have Qe:Row .i64 wr (C (some ⟨w.heap.size,0,none⟩) c c) Q:=by
    have G:=hA.row 0 c c O (Aa _) O O;rwa[AB,Ac O]at G
   have i:=Z (E5 _ Q wr Qe);rw[f1]at i;clear f1 f2 Qe;go_wp2_with(go_at_call 140;refine i.o.mono ?_;rintro e w2 ⟨u,rfl,N,e2⟩;obtain⟨ua,uc,rfl⟩:=RN.form N;have e3:=e2.symm;subst e3;clear e2)
   exact BA (v:=.tuple #[C ua (Jb 10000 (m/n)).length uc,C q lr s]) (by simp[results,Tryz.results157,go_sem]) J ⟨_,_,J,N,by rw[<-Uj.o];exact z.o,hB⟩
  |succ k=>
   obtain⟨ab,ao,rfl,bg,aq⟩:=H1.o k O;have e0:(((k+1:Nat):Int)-1)=(k:Int):=O
   rw[e0];have bk:wr.cell? ⟨ab,ao+k,none⟩=some (.int .i64 (ds[k]?.getD 0:Nat)):=(hB.cell (p:=⟨ab,ao+k,none⟩) bg).trans aq;have hd:=xa.getD O k;obtain⟨H,bd⟩:=o.o.step (by rw[<-Qq.o];omega) J O hd;have D:=Z bd;have Qp:=Z (Rk (r:=r) hd);have cg:lr<=100000000001:=by
    have G:=(Jm z.o).1;have h2:(Jb 10000 r).length<=(Jb 10000 n).length:=by
     rcases Az (Jb 10000 n).length (Jb 10000 r).length with h|h
     . have:=Ya O h;omega
     . exact h
    have:=Qy.o;omega
   clear bd aq e0;generalize ds[k]?.getD 0=d at *;obtain⟨g',l',c',w2,ak,az,bm,am⟩:=Ri d 45 wr q lr s _ z.o O;have i:=Z (Rh _ _ _ _ _ az);rw[Qp.o]at i;go_upto_region 8 with(at_builtin;refine Lib.wpList_append_run _ J _ _ 45 45 J _ _ J J _ _ ak ?_)
   obtain⟨T,aj⟩:=ex (d+10000*r);rw[aj]at H D i Qp;clear aj ak az;have W:Bl w w2:=Bt hB am;have Ua:=hA.below am;have bn:w.heap.size<wr.heap.size:=hA.lt;have Ui:Q.length=c:=by rw[o.o.1,Qq.o]
   have Qj:Q[k]?.getD 0=0:=o.o.2.2.2.2 k O;go_upto_region 9 with(go_at_call 140;refine i.o.mono ?_;rintro e cy ⟨l2,rfl,ae,rfl⟩)
   clear i z Qp;obtain⟨cm,y⟩:=ex (Ym T n:Int);have A:=Z (Hj 10000 O _ _ (Jb 10000 T) (Jb 10000 n) _ ae (RN.below Ql.o W) (Jh O _) (Jh O _) (JT O _) (JT O _));rw[Ji O,Ji O,y]at A;by_cases I:T<n
   . rw[Xe I]at y;subst y;have HQ:=Z (show Q.set k (T/n)=Q by
      rw[AV I];apply List.ext_getElem?;intro j;rw[List.getElem?_set];split
      . rename_i e;subst e;rw[BM O,Ak O];rw[Ak (show k<Q.length by omega)]at Qj;simp only[CZ]at Qj;rw[Qj]
      . rfl)
     have HM:=Z (Cb I);have bu:(k:Int)-1=((k:Int)-1):=rfl;have wk:IntKind.i64.wrap ((k:Int)-1)=(k:Int)-1:=IntWalk.i64_in _ O;go_wp2_with(go_at_call 143;refine A.o.mono ?_;rintro e w3 ⟨rfl,l⟩)
     have h3:=D.o;rw[HQ.o,HM.o]at h3;exact⟨⟨k,T,Q,_,l2,c',J,O,J,Z (RN.below ae l),O,Ua.below l,Z h3,Bt W l⟩,by simp[intOf]⟩
   . have bj:¬(cm<0):=by rw[<-y];unfold Ym;rw[BJ I];split<;>omega
     have Ul:(0:Int)<=cm:=O
     clear y;go_upto_region 10 with(go_at_call 143;refine A.o.mono ?_;rintro e w3 ⟨rfl,l⟩)
     have Qs:Bl w w3:=Bt W l;have Qt:=RN.below (n:=T) ae l;have Qn:=Ua.below l;have Qr:=Z (QS _ l2 c' b lb F T n w3 Qt (RN.below Ql.o Qs) H O);obtain⟨f,M⟩:=ex (T/n);rw[M]at Qr D;have ck:f<10000:=by rw[<-M,Aq O,AC];exact H
     have Qu:=Z M;clear M;have ki:(k:Int)<(c:Int):=O
     have kn:k<c:=O
     go_upto_region 11 with(go_at_call 183;refine Qr.o.mono ?_;rintro e w4 ⟨rfl,x⟩;have kc:=(Qn.below x).cell (j:=k) O;have kf:=(Qn.below x).frozen k)
     obtain⟨g,t⟩:=ex (w4.setCell ⟨w.heap.size,k,none⟩ (.int .i64 (f:Nat)));have Qx:DX g w.heap.size (Q.set k f):=by rw[<-t];exact(Qn.below x).set k f
     have Uh:Bl w w4:=Bt Qs x;have Qo:Bl w g:=by rw[<-t];exact Uh.setCell (p:=⟨w.heap.size,k,none⟩) (Aa _) _
     have X:RN g (C (some ⟨g',0,none⟩) l2 c') T:=by
      rw[<-t];exact Row.grown (RN.below Qt x) (JB w4 w.heap.size k _) (λp e _=>by cases e;simp only;omega)
     rw[t];have co:g.cell? ⟨w.heap.size,k,none⟩=some (.int .i64 (f:Nat)):=by
      have h:=Qx.cell (j:=k) (by rw[CS];omega);rw[h,CN O];rfl
     clear t kc kf Qr A;have Ub:=Z (FA (f:Nat) O O g);have Qz:=Z λ(V:World) (u:Value) (h:Bl g V) (N:Jn V u (f:Nat))=>Lp (.agg #[C b lb F,.bool false]) u (n:Nat) (f:Nat) V (FH (RN.below (RN.below Ql.o Qo) h)) N Uk.o (GX O O);go_upto_region 12 with(first
      |(go_at_call 93;refine Ub.o.mono ?_;rintro e w6 ⟨u6,rfl,P,an⟩;obtain⟨a6,l6,c6,rfl⟩:=P.form;obtain⟨s6,ah⟩:=ex (decide (((f:Nat):Int)<0));rw[ah]at P;rw[ah];clear ah)
      |(go_at_call 109;refine(Qz.o _ _ an P).mono ?_;rintro e S ⟨u7,rfl,R,bh⟩;obtain⟨a7,l7,c7,rfl⟩:=R.form;obtain⟨s7,ai⟩:=ex (decide (((n:Nat):Int)*((f:Nat):Int)<0));rw[ai]at R;rw[ai];clear ai))
     obtain⟨bc,rfl⟩:=Lq (n:=n*f) R (by rw[C0]);have bx:=Jf.new S 47 (C a7 l7 c7) (.bool false);obtain⟨W8,L⟩:=ex (S.alloc (.cells #[C a7 l7 c7,.bool false] 47));have Qf:Bl g S:=Bt an bh;have Qa:Bl g W8:=by rw[<-L];exact Qf.alloc Qf.size _
     have Ug:RN W8 (C a7 l7 c7) (n*f):=by rw[<-L];exact RN.below bc (Ba S _)
     rw[L]at bx ⊢;obtain⟨k0,k1⟩:=bx.cp;have Ue:n*f<=T:=by rw[<-Qu.o];exact Nat.mul_div_le T n
     have Ud:=Z (F7 _ _ T (n*f) W8 (RN.below X Qa) Ug Ue (by
      have G:=(Jm X).1;rw[<-G];have h2:=(Jm X).2.2.2.1;have h3:=Jw (B:=10000) O (n:=T) (k:=(Jb 10000 n).length+1) (by
       have h4:=JS (Jh (B:=10000) O n);rw[Ji O]at h4;rw[A9];exact Ao H (Af _ (Nat.le_of_lt h4)))
      have h5:=Qy.o;omega))
     have Uf:=Z (show T-n*f=T%n by rw[<-Qu.o];have:=AO T n;omega);rw[Uf.o]at Ud;have Qm:=AK T (show n>0 by omega);have wk:IntKind.i64.wrap ((k:Int)-1)=(k:Int)-1:=IntWalk.i64_in _ O;clear L Ub Qz P R bc Ue;go_wp2_with(go_at_call 144;refine Ud.o.mono ?_;rintro e w9 ⟨u9,rfl,bf,bi⟩;obtain⟨a9,c9,rfl⟩:=RN.form bf)
     have Qc:Bl g w9:=Bt Qa bi;exact⟨⟨k,T%n,Q.set k f,a9,_,c9,J,O,J,Z bf,Qm,Qx.below Qc,D,Bt Qo Qc⟩,by simp[intOf]⟩
