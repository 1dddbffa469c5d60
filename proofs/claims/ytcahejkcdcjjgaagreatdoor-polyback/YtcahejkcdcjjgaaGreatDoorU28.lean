import Derived.Test.YtcahejkcdcjjgaaGreatDoorU27
import Derived.Lib.AppendZeros
set_option linter.all false
open Go.Value renaming slice->C
set_option maxRecDepth 99999
set_option maxHeartbeats 0
namespace Go.Proofs.YtcahejkcdcjjgaaGreatDoor
open List renaming replicate->Td
open Go.RowKit Go.Shelf
attribute [local go_sem] Oper.semAt_some
def Bi:=@Lib.wpList_append_run
variable{Q ds:Ta}{d n r:Nat}
def Rs(ds:Ta)(k:Nat)(h:k<ds.length):val 10000 (ds.drop k)=ds[k]?.getD 0+10000*val 10000 (ds.drop (k+1)):=by
 rw[AD h,JQ,Aj h];rfl
def EK(ds:Ta)(n k r:Nat)(Q:Ta):Prop:=
 Q.length=ds.length/\B7 10000 Q/\r=val 10000 (ds.drop k)%n/\val 10000 Q=10000^k*(val 10000 (ds.drop k)/n)/\∀j,j<k->Q[j]?.getD 0=0
def EK.start(ds:Ta)(n:Nat):EK ds n ds.length 0 (Td ds.length 0):=by
 refine⟨A3,λx b=>by rw[CJ b];omega,?_,?_,λj _=>?_⟩
 . rw[List.drop_length,Fl,Nat.zero_mod]
 . rw[List.drop_length,Fl,Nat.zero_div,A8,L6]
 . by_cases a:j<ds.length
   . rw[List.getElem?_replicate_of_lt a];rfl
   . rw[AG (by rw[A3];omega)];rfl
theorem EK.step{k:Nat}(h:EK ds n (k+1) r Q)(s:k<ds.length)(q:d=ds[k]?.getD 0)(b:0<n)(v:d<10000):
 d+10000*r<n*10000/\EK ds n k ((d+10000*r)%n) (Q.set k ((d+10000*r)/n)):=by
 obtain⟨m,o,e,p,f⟩:=h;have g:=Rs ds k s;rw[<-q]at g;have x:r<n:=by rw[e];exact AJ _ b
 have c:d+10000*r<n*10000:=Y
 have a:=Kr (t:=val 10000 (ds.drop (k+1))) (k:=10000) (un0:=d) b;have i:val 10000 (ds.drop (k+1))*10000+d=val 10000 (ds.drop k):=by rw[g,AC,CP]
 have l:val 10000 (ds.drop (k+1))%n*10000+d=d+10000*r:=by rw[<-e,AC,CP]
 rw[i,l]at a;have u:(d+10000*r)/n<10000:=by rw[Ap b,AC 10000 n];exact c
 refine⟨c,by rw[CT];exact m,o.set k u,a.2,?_,λj w=>?_⟩
 . have hs:=I7 10000 Q k ((d+10000*r)/n) Y;rw[f k Y,A8,AV]at hs;rw[hs,p,<-a.1,A9];generalize val 10000 (ds.drop (k+1))/n=A;grind
 . rw[Cx Y];exact f j Y
def EK.fin{m:Nat}(h:EK ds n 0 r Q)(d:ds=Jb 10000 m):Jq Q=Jb 10000 (m/n)/\r=m%n:=by
 obtain⟨e,c,b,a,f⟩:=h;rw[At,d,Jj Y]at b a;rw[Nat.pow_zero,C2]at a;exact⟨by rw[<-JM Y c,a],b⟩
def Rt(a:d<10000):Jq (d::Jb 10000 r)=Jb 10000 (d+10000*r):=by
 have h:=JM (B:=10000) Y (ds:=d::Jb 10000 r) (B7.cons a (Ji Y r));rw[JQ,Jj Y]at h;exact h.symm
def Mb(a:Tb)(c ca:Nat)(b:Tb)(lb F m n:Nat)(w:World)(ra:RN w (C a c ca) m)(rb:RN w (C b lb F) n)(hn:n≠0)(bu:c<=100000000000)(bz:lb<=100000000000):
 Calls Tryz.prog 157 #[C a c ca,C b lb F] w λe w'=>∃u v,e=.returned (.tuple #[u,v])/\RN w' u (m/n)/\RN w' v (m%n)/\Bl w w':=by
 obtain⟨ad,Ul,cg,bn,aq⟩:=Jm ra;have Qk:=(Jm rb).1;have Uc:=L5 c Y w;obtain⟨E,K⟩:∃E,E=w.alloc (.cells (cellsOf .i64 (Td c 0)).toArray 3):=⟨_,J⟩;have Qv:Bl w E:=by rw[K];exact Ba w _
 have Qw:DQ E w.heap.size (Td c 0):=by rw[K];exact DQ.made (BC w _)
 rw[<-K]at Uc;have U:=Ja (EK.start (Jb 10000 m) n);rw[<-ad]at U;have HF:=Ja λQ r (h:EK (Jb 10000 m) n 0 r Q)=>h.fin (m:=m) J;have xa:=Ji (B:=10000) Y m;have Uk:=Ja (show DY (n:Int)<=400000000000 by unfold DY;rw[Ci,<-Qk];omega);generalize Jb 10000 m=ds at *;obtain⟨Qq,H1,Ql,Qy⟩:=Df ad aq rb Qk;clear ad aq K ra rb Qk;go_enter Tryz.func157,Tryz.ntmps157
 go_wp2_with fail
 go_loopw [7,8] (λrv iv wr=>∃(k r:Nat) (Q:Ta) (q:Tb) (lr s:Nat),iv=.int .i64 ((k:Int)-1)/\k<=c/\rv=C q lr s/\Hid (RN wr (C q lr s) r)/\r<n/\DQ wr w.heap.size Q/\Hid (EK ds n k r Q)/\Bl w wr) (λ_ iv _=>(intOf iv+1).toNat)
 case atStart=>exact⟨c,0,Td c 0,none,0,0,J,Aa _,J,Ja (by unfold RN;rw[Jy];exact Row.nil _ _),Y,Qw,U,Qv⟩
 case round=>
  clear U Qw Qv Uc;obtain⟨k,r,Q,q,lr,s,rfl,hk,rfl,z,ck,hA,o,hB⟩:=hrel;cases k with
  |zero=>
   obtain⟨f1,f2⟩:=HF.o Q r o.o;have Uj:=Ja f2;have Ui:Q.length=c:=by rw[o.o.1,Qq.o]
   have Qe:Row .i64 wr (C (some ⟨w.heap.size,0,none⟩) c c) Q:=by
    have G:=hA.row 0 c c Y (Aa _) Y Y;rwa[At,Ac Y]at G
   have i:=Ja (Ho _ Q wr Qe);rw[f1]at i;clear f1 f2 Qe;go_wp2_with(go_at_call 140;refine i.o.mono ?_;rintro e w2 ⟨u,rfl,N,e2⟩;obtain⟨ua,uc,rfl⟩:=RN.form N;have e3:=e2.symm;subst e3;clear e2)
   exact BA (v:=.tuple #[C ua (Jb 10000 (m/n)).length uc,C q lr s]) (by simp[results,Tryz.results157,go_sem]) J ⟨_,_,J,N,by rw[<-Uj.o];exact z.o,hB⟩
  |succ k=>
   obtain⟨ab,ao,rfl,bf,ap⟩:=H1.o k Y;have e0:(((k+1:Nat):Int)-1)=(k:Int):=Y
   rw[e0];have bj:wr.cell? ⟨ab,ao+k,none⟩=some (.int .i64 (ds[k]?.getD 0:Nat)):=(hB.cell (p:=⟨ab,ao+k,none⟩) bf).trans ap;have hd:=xa.getD Y k;obtain⟨H,bc⟩:=o.o.step (by rw[<-Qq.o];omega) J Y hd;have D:=Ja bc;have Qp:=Ja (Rt (r:=r) hd);have ce:lr<=100000000001:=by
    have G:=(Jm z.o).1;have h2:(Jb 10000 r).length<=(Jb 10000 n).length:=by
     rcases AH (Jb 10000 n).length (Jb 10000 r).length with h|h
     . have:=Ye Y h;omega
     . exact h
    have:=Qy.o;omega
   clear bc ap e0;generalize ds[k]?.getD 0=d at *;obtain⟨g',l',c',w2,ak,ay,bk,am⟩:=Rr d 45 wr q lr s _ z.o Y;have i:=Ja (Rq _ _ _ _ _ ay);rw[Qp.o]at i;go_upto_region 8 with(at_builtin;refine Bi _ J _ _ 45 45 J _ _ J J _ _ ak ?_)
   obtain⟨T,aj⟩:=ex (d+10000*r);rw[aj]at H D i Qp;clear aj ak ay;have W:Bl w w2:=Bt hB am;have Ua:=hA.below am;have bm:w.heap.size<wr.heap.size:=hA.lt;have Ui:Q.length=c:=by rw[o.o.1,Qq.o]
   have Qj:Q[k]?.getD 0=0:=o.o.2.2.2.2 k Y;go_upto_region 9 with(go_at_call 140;refine i.o.mono ?_;rintro e co ⟨l2,rfl,ae,rfl⟩)
   clear i z Qp;obtain⟨cm,y⟩:=ex (Yt T n:Int);have A:=Ja (Hp 10000 Y _ _ (Jb 10000 T) (Jb 10000 n) _ ae (RN.below Ql.o W) (Ji Y _) (Ji Y _) (JY Y _) (JY Y _));rw[Jj Y,Jj Y,y]at A;by_cases I:T<n
   . rw[Xg I]at y;subst y;have HQ:=Ja (show Q.set k (T/n)=Q by
      rw[AY I];apply List.ext_getElem?;intro j;rw[List.getElem?_set];split
      . rename_i e;subst e;rw[BH Y,Aj Y];rw[Aj (show k<Q.length by omega)]at Qj;simp only[Option.getD_some]at Qj;rw[Qj]
      . rfl)
     have HM:=Ja (Ca I);have bt:(k:Int)-1=((k:Int)-1):=rfl;have wk:IntKind.i64.wrap ((k:Int)-1)=(k:Int)-1:=IntWalk.i64_in _ Y;go_wp2_with(go_at_call 143;refine A.o.mono ?_;rintro e w3 ⟨rfl,l⟩)
     have h3:=D.o;rw[HQ.o,HM.o]at h3;exact⟨⟨k,T,Q,_,l2,c',J,Y,J,Ja (RN.below ae l),Y,Ua.below l,Ja h3,Bt W l⟩,by simp[intOf]⟩
   . have bi:¬(cm<0):=by rw[<-y];unfold Yt;rw[BE I];split<;>omega
     have Ul:(0:Int)<=cm:=Y
     clear y;go_upto_region 10 with(go_at_call 143;refine A.o.mono ?_;rintro e w3 ⟨rfl,l⟩)
     have Qs:Bl w w3:=Bt W l;have Qt:=RN.below (n:=T) ae l;have Qn:=Ua.below l;have Qr:=Ja (Q7 _ l2 c' b lb F T n w3 Qt (RN.below Ql.o Qs) H Y);obtain⟨f,M⟩:=ex (T/n);rw[M]at Qr D;have cj:f<10000:=by rw[<-M,Ap Y,AC];exact H
     have Qu:=Ja M;clear M;have ki:(k:Int)<(c:Int):=Y
     have kn:k<c:=Y
     go_upto_region 11 with(go_at_call 183;refine Qr.o.mono ?_;rintro e w4 ⟨rfl,x⟩;have kc:=(Qn.below x).cell (j:=k) Y;have kf:=(Qn.below x).frozen k)
     obtain⟨g,t⟩:=ex (w4.setCell ⟨w.heap.size,k,none⟩ (.int .i64 (f:Nat)));have Qx:DQ g w.heap.size (Q.set k f):=by rw[<-t];exact(Qn.below x).set k f
     have Uh:Bl w w4:=Bt Qs x;have Qo:Bl w g:=by rw[<-t];exact Uh.setCell (p:=⟨w.heap.size,k,none⟩) (Aa _) _
     have X:RN g (C (some ⟨g',0,none⟩) l2 c') T:=by
      rw[<-t];exact Row.grown (RN.below Qt x) (Jt w4 w.heap.size k _) (λp e _=>by cases e;simp only;omega)
     rw[t];have cn:g.cell? ⟨w.heap.size,k,none⟩=some (.int .i64 (f:Nat)):=by
      have h:=Qx.cell (j:=k) (by rw[CT];omega);rw[h,CO Y];rfl
     clear t kc kf Qr A;have Ub:=Ja (EQ (f:Nat) Y Y g);have Qz:=Ja λ(V:World) (u:Value) (h:Bl g V) (N:Jo V u (f:Nat))=>XC (.agg #[C b lb F,.bool false]) u (n:Nat) (f:Nat) V (FX (RN.below (RN.below Ql.o Qo) h)) N Uk.o (Gi Y Y);go_upto_region 12 with(first
      |(go_at_call 93;refine Ub.o.mono ?_;rintro e w6 ⟨u6,rfl,P,an⟩;obtain⟨a6,l6,c6,rfl⟩:=P.form;obtain⟨s6,ah⟩:=ex (decide (((f:Nat):Int)<0));rw[ah]at P;rw[ah];clear ah)
      |(go_at_call 109;refine(Qz.o _ _ an P).mono ?_;rintro e S ⟨u7,rfl,R,bg⟩;obtain⟨a7,l7,c7,rfl⟩:=R.form;obtain⟨s7,ai⟩:=ex (decide (((n:Nat):Int)*((f:Nat):Int)<0));rw[ai]at R;rw[ai];clear ai))
     obtain⟨az,rfl⟩:=L7 (n:=n*f) R (by rw[CZ]);have bx:=Jg.new S 47 (C a7 l7 c7) (.bool false);obtain⟨W8,L⟩:=ex (S.alloc (.cells #[C a7 l7 c7,.bool false] 47));have Qf:Bl g S:=Bt an bg;have Qa:Bl g W8:=by rw[<-L];exact Qf.alloc Qf.size _
     have Ug:RN W8 (C a7 l7 c7) (n*f):=by rw[<-L];exact RN.below az (Ba S _)
     rw[L]at bx ⊢;obtain⟨k0,k1⟩:=bx.cp;have Ue:n*f<=T:=by rw[<-Qu.o];exact Nat.mul_div_le T n
     have Ud:=Ja (GP _ _ T (n*f) W8 (RN.below X Qa) Ug Ue (by
      have G:=(Jm X).1;rw[<-G];have h2:=(Jm X).2.2.2.1;have h3:=JE (B:=10000) Y (n:=T) (k:=(Jb 10000 n).length+1) (by
       have h4:=JV (Ji (B:=10000) Y n);rw[Jj Y]at h4;rw[A9];exact Ak H (Af _ (Nat.le_of_lt h4)))
      have h5:=Qy.o;omega))
     have Uf:=Ja (show T-n*f=T%n by rw[<-Qu.o];have:=AO T n;omega);rw[Uf.o]at Ud;have Qm:=AJ T (show n>0 by omega);have wk:IntKind.i64.wrap ((k:Int)-1)=(k:Int)-1:=IntWalk.i64_in _ Y;clear L Ub Qz P R az Ue;go_wp2_with(go_at_call 144;refine Ud.o.mono ?_;rintro e w9 ⟨u9,rfl,bd,bh⟩;obtain⟨a9,c9,rfl⟩:=RN.form bd)
     have Qc:Bl g w9:=Bt Qa bh;exact⟨⟨k,T%n,Q.set k f,a9,_,c9,J,Y,J,Ja bd,Qm,Qx.below Qc,D,Bt Qo Qc⟩,by simp[intOf]⟩
