import Derived.Test.YtcahodpphikgnaaGreatDoorU29
import Derived.Lib.AppendZeros
set_option linter.all false
open Go.Value renaming slice->C
set_option maxRecDepth 99999
set_option maxHeartbeats 0
namespace Go.Proofs.YtcahodpphikgnaaGreatDoor
open List renaming replicate->MF
open Go.RowKit Go.Shelf
attribute [local go_sem] Oper.semAt_some
variable{Q ds:Ja}{d n r:Nat}
def Lt(ds:Ja)(k:Nat)(h:k<ds.length):val 10000 (ds.drop k)=ds[k]?.getD 0+10000*val 10000 (ds.drop (k+1)):=by
 rw[Ay h,JC,Ag h];rfl
def XW(ds:Ja)(n k r:Nat)(Q:Ja):Prop:=
 Q.length=ds.length/\Br 10000 Q/\r=val 10000 (ds.drop k)%n/\val 10000 Q=10000^k*(val 10000 (ds.drop k)/n)/\∀j,j<k->Q[j]?.getD 0=0
def XW.start(ds:Ja)(n:Nat):XW ds n ds.length 0 (MF ds.length 0):=by
 refine⟨A0,λx b=>by rw[Cx b];omega,?_,?_,λj _=>?_⟩
 . rw[List.drop_length,X6,Nat.zero_mod]
 . rw[List.drop_length,X6,Nat.zero_div,AQ,GC]
 . by_cases a:j<ds.length
   . rw[List.getElem?_replicate_of_lt a];rfl
   . rw[Az (by rw[A0];omega)];rfl
theorem XW.step{k:Nat}(h:XW ds n (k+1) r Q)(s:k<ds.length)(q:d=ds[k]?.getD 0)(b:0<n)(w:d<10000):
 d+10000*r<n*10000/\XW ds n k ((d+10000*r)%n) (Q.set k ((d+10000*r)/n)):=by
 obtain⟨m,o,e,p,f⟩:=h;have g:=Lt ds k s;rw[<-q]at g;have y:r<n:=by rw[e];exact Ar _ b
 have c:d+10000*r<n*10000:=Y
 have a:=FH (t:=val 10000 (ds.drop (k+1))) (k:=10000) (un0:=d) b;have i:val 10000 (ds.drop (k+1))*10000+d=val 10000 (ds.drop k):=by rw[g,Al,CH]
 have l:val 10000 (ds.drop (k+1))%n*10000+d=d+10000*r:=by rw[<-e,Al,CH]
 rw[i,l]at a;have u:(d+10000*r)/n<10000:=by rw[Ah b,Al 10000 n];exact c
 refine⟨c,by rw[List.length_set];exact m,o.set k u,a.2,?_,λj x=>?_⟩
 . have hs:=Es 10000 Q k ((d+10000*r)/n) Y;rw[f k Y,AQ,AJ]at hs;rw[hs,p,<-a.1,AR];generalize val 10000 (ds.drop (k+1))/n=v;grind
 . rw[Cv Y];exact f j Y
def XW.fin{m:Nat}(h:XW ds n 0 r Q)(d:ds=Jb 10000 m):Ji Q=Jb 10000 (m/n)/\r=m%n:=by
 obtain⟨e,c,b,a,f⟩:=h;rw[Ap,d,Je Y]at b a;rw[Nat.pow_zero,CN]at a;exact⟨by rw[<-JA Y c,a],b⟩
def Lu(a:d<10000):Ji (d::Jb 10000 r)=Jb 10000 (d+10000*r):=by
 have h:=JA (B:=10000) Y (ds:=d::Jb 10000 r) (Br.cons a (Jf Y r));rw[JC,Je Y]at h;exact h.symm
def Gi(a:MD)(c ca:Nat)(b:MD)(lb F m n:Nat)(w:World)(ra:RN w (C a c ca) m)(rb:RN w (C b lb F) n)(hn:n≠0)(bk:c<=100000000000)(bm:lb<=100000000000):
 Calls Tryz.prog 92 #[C a c ca,C b lb F] w λe w'=>∃u v,e=.returned (.tuple #[u,v])/\RN w' u (m/n)/\RN w' v (m%n)/\Bl w w':=by
 obtain⟨aa,Ul,bp,bj,an⟩:=Jj ra;have Qk:=(Jj rb).1;have Uc:=GB c Y w;obtain⟨E,K⟩:∃E,E=w.alloc (.cells (cellsOf .i64 (MF c 0)).toArray 3):=⟨_,J⟩;have Qv:Bl w E:=by rw[K];exact Ba w _
 have Qw:CW E w.heap.size (MF c 0):=by rw[K];exact CW.made (BD w _)
 rw[<-K]at Uc;have U:=Z (XW.start (Jb 10000 m) n);rw[<-aa]at U;have HF:=Z λQ r (h:XW (Jb 10000 m) n 0 r Q)=>h.fin (m:=m) J;have xa:=Jf (B:=10000) Y m;have Uk:=Z (show CZ (n:Int)<=400000000000 by unfold CZ;rw[A9,<-Qk];omega);generalize Jb 10000 m=ds at *;obtain⟨Qq,H1,Ql,Qy⟩:=DS aa an rb Qk;clear aa an K ra rb Qk;go_enter Tryz.func92,Tryz.ntmps92
 go_wp2_with fail
 go_loopw [7,8] (λrv iv wr=>∃(k r:Nat) (Q:Ja) (q:MD) (lr s:Nat),iv=.int .i64 ((k:Int)-1)/\k<=c/\rv=C q lr s/\Hid (RN wr (C q lr s) r)/\r<n/\CW wr w.heap.size Q/\Hid (XW ds n k r Q)/\Bl w wr) (λ_ iv _=>(intOf iv+1).toNat)
 case atStart=>exact⟨c,0,MF c 0,none,0,0,J,Aa _,J,Z (by unfold RN;rw[Jn];exact Row.nil _ _),Y,Qw,U,Qv⟩
 case round=>
  clear U Qw Qv Uc;obtain⟨k,r,Q,q,lr,s,rfl,hk,rfl,z,bu,hA,o,hB⟩:=hrel;cases k with
  |zero=>
   obtain⟨f1,f2⟩:=HF.o Q r o.o;have Uj:=Z f2;have Ui:Q.length=c:=by rw[o.o.1,Qq.o]
   have Qe:Row .i64 wr (C (some ⟨w.heap.size,0,none⟩) c c) Q:=by
    have G:=hA.row 0 c c Y (Aa _) Y Y;rwa[Ap,Ab Y]at G
   have i:=Z (DR _ Q wr Qe);rw[f1]at i;clear f1 f2 Qe;go_wp2_with(go_at_call 56;refine i.o.mono ?_;rintro e w2 ⟨u,rfl,N,e2⟩;obtain⟨ua,uc,rfl⟩:=RN.form N;have e3:=e2.symm;subst e3;clear e2)
   exact BB (v:=.tuple #[C ua (Jb 10000 (m/n)).length uc,C q lr s]) (by simp[results,Tryz.results92,go_sem]) J ⟨_,_,J,N,by rw[<-Uj.o];exact z.o,hB⟩
  |succ k=>
   obtain⟨ab,ao,rfl,az,am⟩:=H1.o k Y;have e0:(((k+1:Nat):Int)-1)=(k:Int):=Y
   rw[e0];have bg:wr.cell? ⟨ab,ao+k,none⟩=some (.int .i64 (ds[k]?.getD 0:Nat)):=(hB.cell (p:=⟨ab,ao+k,none⟩) az).trans am;have hd:=xa.getD Y k;obtain⟨H,aw⟩:=o.o.step (by rw[<-Qq.o];omega) J Y hd;have D:=Z aw;have Qp:=Z (Lu (r:=r) hd);have bn:lr<=100000000001:=by
    have G:=(Jj z.o).1;have h2:(Jb 10000 r).length<=(Jb 10000 n).length:=by
     rcases AG (Jb 10000 n).length (Jb 10000 r).length with h|h
     . have:=JW Y h;omega
     . exact h
    have:=Qy.o;omega
   clear aw am e0;generalize ds[k]?.getD 0=d at *;obtain⟨g',l',c',w2,ai,ap,bh,aj⟩:=Ls d 30 wr q lr s _ z.o Y;have i:=Z (Lr _ _ _ _ _ ap);rw[Qp.o]at i;go_upto_region 8 with(at_builtin;refine Lib.wpList_append_run _ J _ _ 30 30 J _ _ J J _ _ ai ?_)
   obtain⟨T,ah⟩:=ex (d+10000*r);rw[ah]at H D i Qp;clear ah ai ap;have W:Bl w w2:=Bt hB aj;have Ua:=hA.below aj;have bi:w.heap.size<wr.heap.size:=hA.lt;have Ui:Q.length=c:=by rw[o.o.1,Qq.o]
   have Qj:Q[k]?.getD 0=0:=o.o.2.2.2.2 k Y;go_upto_region 9 with(go_at_call 56;refine i.o.mono ?_;rintro e ce ⟨l2,rfl,ad,rfl⟩)
   clear i z Qp;obtain⟨cm,y⟩:=ex (J3 T n:Int);have A:=Z (EP 10000 Y _ _ (Jb 10000 T) (Jb 10000 n) _ ad (RN.below Ql.o W) (Jf Y _) (Jf Y _) (JJ Y _) (JJ Y _));rw[Je Y,Je Y,y]at A;by_cases I:T<n
   . rw[YB I]at y;subst y;have HQ:=Z (show Q.set k (T/n)=Q by
      rw[AC I];apply List.ext_getElem?;intro j;rw[List.getElem?_set];split
      . rename_i e;subst e;rw[Be Y,Ag Y];rw[Ag (show k<Q.length by omega)]at Qj;simp only[Option.getD_some]at Qj;rw[Qj]
      . rfl)
     have HM:=Z (AX I);have wk:IntKind.i64.wrap ((k:Int)-1)=(k:Int)-1:=IntWalk.i64_in _ Y;go_wp2_with(go_at_call 99;refine A.o.mono ?_;rintro e w3 ⟨rfl,l⟩)
     have h3:=D.o;rw[HQ.o,HM.o]at h3;exact⟨⟨k,T,Q,_,l2,c',J,Y,J,Z (RN.below ad l),Y,Ua.below l,Z h3,Bt W l⟩,by simp[intOf]⟩
   . have bf:¬(cm<0):=by rw[<-y];unfold J3;rw[Bd I];split<;>omega
     have Ul:(0:Int)<=cm:=Y
     clear y;go_upto_region 10 with(go_at_call 99;refine A.o.mono ?_;rintro e w3 ⟨rfl,l⟩)
     have Qs:Bl w w3:=Bt W l;have Qt:=RN.below (n:=T) ad l;have Qn:=Ua.below l;have Qr:=Z (Ku _ l2 c' b lb F T n w3 Qt (RN.below Ql.o Qs) H Y);obtain⟨f,M⟩:=ex (T/n);rw[M]at Qr D;have bt:f<10000:=by rw[<-M,Ah Y,Al];exact H
     have Qu:=Z M;clear M;have ki:(k:Int)<(c:Int):=Y
     have kn:k<c:=Y
     go_upto_region 11 with(go_at_call 121;refine Qr.o.mono ?_;rintro e w4 ⟨rfl,x⟩;have kc:=(Qn.below x).cell (j:=k) Y;have kf:=(Qn.below x).frozen k)
     obtain⟨g,t⟩:=ex (w4.setCell ⟨w.heap.size,k,none⟩ (.int .i64 (f:Nat)));have Qx:CW g w.heap.size (Q.set k f):=by rw[<-t];exact(Qn.below x).set k f
     have Uh:Bl w w4:=Bt Qs x;have Qo:Bl w g:=by rw[<-t];exact Uh.setCell (p:=⟨w.heap.size,k,none⟩) (Aa _) _
     have X:RN g (C (some ⟨g',0,none⟩) l2 c') T:=by
      rw[<-t];exact Row.grown (RN.below Qt x) (JB w4 w.heap.size k _) (λp e _=>by cases e;simp only;omega)
     rw[t];have bz:g.cell? ⟨w.heap.size,k,none⟩=some (.int .i64 (f:Nat)):=by
      have h:=Qx.cell (j:=k) (by rw[List.length_set];omega);rw[h,List.getElem?_set_self Y];rfl
     clear t kc kf Qr A;have Ub:=Z (ER (f:Nat) Y Y g);have Qz:=Z λ(V:World) (u:Value) (h:Bl g V) (N:Jl V u (f:Nat))=>GD (.agg #[C b lb F,.bool false]) u (n:Nat) (f:Nat) V (DU (RN.below (RN.below Ql.o Qo) h)) N Uk.o (D6 Y Y);go_upto_region 12 with(first
      |(go_at_call 46;refine Ub.o.mono ?_;rintro e w6 ⟨u6,rfl,P,ak⟩;obtain⟨a6,l6,c6,rfl⟩:=P.form;obtain⟨s6,ae⟩:=ex (decide (((f:Nat):Int)<0));rw[ae]at P;rw[ae];clear ae)
      |(go_at_call 67;refine(Qz.o _ _ ak P).mono ?_;rintro e S ⟨u7,rfl,R,bc⟩;obtain⟨a7,l7,c7,rfl⟩:=R.form;obtain⟨s7,ag⟩:=ex (decide (((n:Nat):Int)*((f:Nat):Int)<0));rw[ag]at R;rw[ag];clear ag))
     obtain⟨aq,rfl⟩:=GE (n:=n*f) R (by rw[CJ]);have bx:=Jd.new S 32 (C a7 l7 c7) (.bool false);obtain⟨W8,L⟩:=ex (S.alloc (.cells #[C a7 l7 c7,.bool false] 32));have Qf:Bl g S:=Bt ak bc;have Qa:Bl g W8:=by rw[<-L];exact Qf.alloc Qf.size _
     have Ug:RN W8 (C a7 l7 c7) (n*f):=by rw[<-L];exact RN.below aq (Ba S _)
     rw[L]at bx ⊢;have k0:=bx.c0;have Ue:n*f<=T:=by rw[<-Qu.o];exact Nat.mul_div_le T n
     have Ud:=Z (Dl _ _ T (n*f) W8 (RN.below X Qa) Ug Ue (by
      have G:=(Jj X).1;rw[<-G];have h2:=(Jj X).2.2.2.1;have h3:=JD (B:=10000) Y (n:=T) (k:=(Jb 10000 n).length+1) (by
       have h4:=JI (Jf (B:=10000) Y n);rw[Je Y]at h4;rw[AR];exact An H (Ae _ (Nat.le_of_lt h4)))
      have h5:=Qy.o;omega))
     have Uf:=Z (show T-n*f=T%n by rw[<-Qu.o];have:=Ax T n;omega);rw[Uf.o]at Ud;have Qm:=Ar T (show n>0 by omega);have wk:IntKind.i64.wrap ((k:Int)-1)=(k:Int)-1:=IntWalk.i64_in _ Y;clear L Ub Qz P R aq Ue;go_wp2_with(go_at_call 94;refine Ud.o.mono ?_;rintro e w9 ⟨u9,rfl,ay,bd⟩;obtain⟨a9,c9,rfl⟩:=RN.form ay)
     have Qc:Bl g w9:=Bt Qa bd;exact⟨⟨k,T%n,Q.set k f,a9,_,c9,J,Y,J,Z ay,Qm,Qx.below Qc,D,Bt Qo Qc⟩,by simp[intOf]⟩
