import Derived.Test.YteldjhhjnchdeaaGreatDoorU30
import Derived.Lib.AppendZeros
open Go.Value renaming slice->C
set_option maxRecDepth 100000
set_option maxHeartbeats 16000000
namespace Go.Proofs.YteldjhhjnchdeaaGreatDoor
open Go.RowKit Go.Shelf
attribute [local go_sem] Oper.semAt_some
theorem Bi:type_of% @Lib.wpList_append_run:=@Lib.wpList_append_run
variable{Q ds:List Nat}{d n r:Nat}
theorem aR(ds:List Nat)(k:Nat)(h:k<ds.length):val 10000 (ds.drop k)=ds[k]?.getD 0+10000*val 10000 (ds.drop (k+1)):=by
 rw[A0 h,J5,Ag h];rfl
def Hd(ds:List Nat)(n k r:Nat)(Q:List Nat):Prop:=
 Q.length=ds.length/\DS 10000 Q/\r=val 10000 (ds.drop k)%n/\val 10000 Q=10000^k*(val 10000 (ds.drop k)/n)/\∀j,j<k->Q[j]?.getD 0=0
theorem Hd.start(ds:List Nat)(n:Nat):Hd ds n ds.length 0 (List.replicate ds.length 0):=by
 refine⟨Au,λx b=>by rw[CH b];omega,?_,?_,λj _=>?_⟩
 . rw[List.drop_length,Kh,Nat.zero_mod]
 . rw[List.drop_length,Kh,Nat.zero_div,Cv,QT]
 . by_cases a:j<ds.length
   . rw[List.getElem?_replicate_of_lt a];rfl
   . rw[At (by rw[Au];omega)];rfl
theorem Hd.step{k:Nat}(h:Hd ds n (k+1) r Q)(s:k<ds.length)(q:d=ds[k]?.getD 0)(b:0<n)(u:d<10000):
 d+10000*r<n*10000/\Hd ds n k ((d+10000*r)%n) (Q.set k ((d+10000*r)/n)):=by
 obtain⟨m,o,e,p,f⟩:=h;have g:=aR ds k s;rw[<-q]at g;have w:r<n:=by rw[e];exact A7 _ b
 have c:d+10000*r<n*10000:=J
 have a:=PD (t:=val 10000 (ds.drop (k+1))) (k:=10000) (un0:=d) b;have i:val 10000 (ds.drop (k+1))*10000+d=val 10000 (ds.drop k):=by rw[g,As,C1]
 have l:val 10000 (ds.drop (k+1))%n*10000+d=d+10000*r:=by rw[<-e,As,C1]
 rw[i,l]at a;have hq:(d+10000*r)/n<10000:=by rw[AX b,As 10000 n];exact c
 refine⟨c,by rw[Cs];exact m,o.set k hq,a.2,?_,λj v=>?_⟩
 . have hs:=N1 10000 Q k ((d+10000*r)/n) J;rw[f k J,Cv,Ch]at hs;rw[hs,p,<-a.1,AQ];generalize val 10000 (ds.drop (k+1))/n=A;grind
 . rw[AW J];exact f j J
theorem Hd.fin{m:Nat}(h:Hd ds n 0 r Q)(d:ds=Jc 10000 m):Jy Q=Jc 10000 (m/n)/\r=m%n:=by
 obtain⟨e,c,b,a,f⟩:=h;rw[AE,d,Jp J]at b a;rw[Nat.pow_zero,Cw]at a;exact⟨by rw[<-J9 J c,a],b⟩
theorem aS(a:d<10000):Jy (d::Jc 10000 r)=Jc 10000 (d+10000*r):=by
 have h:=J9 (B:=10000) J (ds:=d::Jc 10000 r) (DS.cons a (Jq J r));rw[J5,Jp J]at h;exact h.symm
theorem RR(a:Option Addr)(la ca:Nat)(b:Option Addr)(lb cb m n:Nat)(w:World)(ra:RN w (C a la ca) m)(rb:RN w (C b lb cb) n)(hn:n≠0)(bn:la<=100000000000)(bt:lb<=100000000000):
 Calls Tryz.prog 139 #[C a la ca,C b lb cb] w λe w'=>∃u v,e=.returned (.tuple #[u,v])/\RN w' u (m/n)/\RN w' v (m%n)/\Bl w w':=by
 obtain⟨ad,Ul,ce,bm,ap⟩:=Jw ra;have X:=(Jw rb).1;have Uc:=QS la J w;obtain⟨D,H⟩:∃D,D=w.alloc (.cells (cellsOf .i64 (List.replicate la 0)).toArray 3):=⟨_,rfl⟩;have Qv:Bl w D:=by rw[H];exact Ba w _
 have Qw:EC D w.heap.size (List.replicate la 0):=by rw[H];exact EC.made (BD w _)
 rw[<-H]at Uc;have R:=O (Hd.start (Jc 10000 m) n);rw[<-ad]at R;have HF:=O λQ r (h:Hd (Jc 10000 m) n 0 r Q)=>h.fin (m:=m) rfl;have xa:=Jq (B:=10000) J m;have Uk:=O (show EM (n:Int)<=400000000000 by unfold EM;rw[AP,<-X];omega);generalize Jc 10000 m=ds at *;obtain⟨Qq,H1,Ql,Qy⟩:=D0 ad ap rb X;clear ad ap H ra rb X;go_enter Tryz.func139,Tryz.ntmps139
 go_wp2_with fail
 go_loopw [7,8] (λrv iv wr=>∃(k r:Nat) (Q:List Nat) (o:Option Addr) (lr q:Nat),iv=.int .i64 ((k:Int)-1)/\k<=la/\rv=C o lr q/\Hid (RN wr (C o lr q) r)/\r<n/\EC wr w.heap.size Q/\Hid (Hd ds n k r Q)/\Bl w wr)
  (λ_ iv _=>(intOf iv+1).toNat)
 case atStart=>exact⟨la,0,List.replicate la 0,none,0,0,rfl,Aa _,rfl,O (by unfold RN;rw[Jz];exact Row.nil _ _),J,Qw,R,Qv⟩
 case round=>
  clear R Qw Qv Uc;obtain⟨k,r,Q,o,lr,q,rfl,hk,rfl,y,ci,hA,l,hB⟩:=hrel;cases k with
  |zero=>
   obtain⟨f1,f2⟩:=HF.o Q r l.o;have Uj:=O f2;have Ui:Q.length=la:=by rw[l.o.1,Qq.o]
   have Qe:Row .i64 wr (C (some ⟨w.heap.size,0,none⟩) la la) Q:=by
    have E:=hA.row 0 la la J (Aa _) J J;rwa[AE,Ac J]at E
   have g:=O (NL _ Q wr Qe);rw[f1]at g;clear f1 f2 Qe;go_wp2_with(go_at_call 116;refine g.o.mono ?_;rintro e w2 ⟨u,rfl,L,e2⟩;obtain⟨ua,uc,rfl⟩:=RN.form L;have e3:=e2.symm;subst e3;clear e2)
   exact BA (v:=.tuple #[C ua (Jc 10000 (m/n)).length uc,C o lr q]) (by simp[results,Tryz.results139,go_sem]) rfl ⟨_,_,rfl,L,by rw[<-Uj.o];exact y.o,hB⟩
  |succ k=>
   obtain⟨ab,ao,rfl,bc,an⟩:=H1.o k J;have e0:(((k+1:Nat):Int)-1)=(k:Int):=J
   rw[e0];have bi:wr.cell? ⟨ab,ao+k,none⟩=some (.int .i64 (ds[k]?.getD 0:Nat)):=(hB.cell (p:=⟨ab,ao+k,none⟩) bc).trans an;have hd:=xa.getD J k;obtain⟨F,ay⟩:=l.o.step (by rw[<-Qq.o];omega) rfl J hd;have A:=O ay;have Qp:=O (aS (r:=r) hd);have bu:lr<=100000000001:=by
    have E:=(Jw y.o).1;have h2:(Jc 10000 r).length<=(Jc 10000 n).length:=by
     rcases AO (Jc 10000 n).length (Jc 10000 r).length with h|h
     . have:=YR J h;omega
     . exact h
    have:=Qy.o;omega
   clear ay an e0;generalize ds[k]?.getD 0=d at *;obtain⟨g',l',c',w2,aj,aq,bj,ak⟩:=aQ d 81 wr o lr q _ y.o J;have g:=O (aO _ _ _ _ _ aq);rw[Qp.o]at g;go_upto_region 8 with(at_builtin;refine Bi _ rfl _ _ 81 81 rfl _ _ rfl rfl _ _ aj ?_)
   obtain⟨T,ai⟩:=ex (d+10000*r);rw[ai]at F A g Qp;clear ai aj aq;have S:Bl w w2:=Bt hB ak;have Ua:=hA.below ak;have bk:w.heap.size<wr.heap.size:=hA.lt;have Ui:Q.length=la:=by rw[l.o.1,Qq.o]
   have W:Q[k]?.getD 0=0:=l.o.2.2.2.2 k J;go_upto_region 9 with(go_at_call 116;refine g.o.mono ?_;rintro e ck ⟨l2,rfl,ae,rfl⟩)
   clear g y Qp;obtain⟨cm,x⟩:=ex (Xf T n:Int);have z:=O (NM 10000 J _ _ (Jc 10000 T) (Jc 10000 n) _ ae (RN.below Ql.o S) (Jq J _) (Jq J _) (Ym J _) (Ym J _));rw[Jp J,Jp J,x]at z;by_cases G:T<n
   . rw[XZ G]at x;subst x;have HQ:=O (show Q.set k (T/n)=Q by
      rw[Ca G];apply List.ext_getElem?;intro j;rw[List.getElem?_set];split
      . rename_i e;subst e;rw[BG J,Ag J];rw[Ag (show k<Q.length by omega)]at W;simp only[Fo]at W;rw[W]
      . rfl)
     have HM:=O (Cm G);have wk:IntKind.i64.wrap ((k:Int)-1)=(k:Int)-1:=IntWalk.i64_in _ J;go_wp2_with(go_at_call 114;refine z.o.mono ?_;rintro e w3 ⟨rfl,i⟩)
     have h3:=A.o;rw[HQ.o,HM.o]at h3;exact⟨⟨k,T,Q,_,l2,c',rfl,J,rfl,O (RN.below ae i),J,Ua.below i,O h3,Bt S i⟩,by simp[intOf]⟩
   . have bh:¬(cm<0):=by rw[<-x];unfold Xf;rw[BE G];split<;>omega
     have Ul:(0:Int)<=cm:=J
     clear x;go_upto_region 10 with(go_at_call 114;refine z.o.mono ?_;rintro e w3 ⟨rfl,i⟩)
     have Qs:Bl w w3:=Bt S i;have Qt:=RN.below (n:=T) ae i;have Qn:=Ua.below i;have Qr:=O (Zf _ l2 c' b lb cb T n w3 Qt (RN.below Ql.o Qs) F J);obtain⟨c,K⟩:=ex (T/n);rw[K]at Qr A;have cg:c<10000:=by rw[<-K,AX J,As];exact F
     have Qu:=O K;clear K;have ki:(k:Int)<(la:Int):=J
     have kn:k<la:=J
     go_upto_region 11 with(go_at_call 162;refine Qr.o.mono ?_;rintro e w4 ⟨rfl,t⟩;have kc:=(Qn.below t).cell (j:=k) J;have kf:=(Qn.below t).frozen k)
     obtain⟨f,s⟩:=ex (w4.setCell ⟨w.heap.size,k,none⟩ (.int .i64 (c:Nat)));have Qx:EC f w.heap.size (Q.set k c):=by rw[<-s];exact(Qn.below t).set k c
     have Uh:Bl w w4:=Bt Qs t;have Qo:Bl w f:=by rw[<-s];exact Uh.setCell (p:=⟨w.heap.size,k,none⟩) (Aa _) _
     have U:RN f (C (some ⟨g',0,none⟩) l2 c') T:=by
      rw[<-s];exact Row.grown (RN.below Qt t) (JE w4 w.heap.size k _) (λp e _=>by cases e;simp only;omega)
     rw[s];have cj:f.cell? ⟨w.heap.size,k,none⟩=some (.int .i64 (c:Nat)):=by
      have h:=Qx.cell (j:=k) (by rw[Cs];omega);rw[h,A6 J];rfl
     clear s kc kf Qr z;have Ub:=O (Hl (c:Nat) J J f);have Qz:=O λ(V:World) (u:Value) (h:Bl f V) (L:Jt V u (c:Nat))=>X7 (.agg #[C b lb cb,.bool false]) u (n:Nat) (c:Nat) V (KD (RN.below (RN.below Ql.o Qo) h)) L Uk.o (L0 J J);go_upto_region 12 with(first
      |(go_at_call 79;refine Ub.o.mono ?_;rintro e w6 ⟨u6,rfl,M,am⟩;obtain⟨a6,l6,c6,rfl⟩:=M.form;obtain⟨s6,af⟩:=ex (decide (((c:Nat):Int)<0));rw[af]at M;rw[af];clear af)
      |(go_at_call 82;refine(Qz.o _ _ am M).mono ?_;rintro e P ⟨u7,rfl,N,bf⟩;obtain⟨a7,l7,c7,rfl⟩:=N.form;obtain⟨s7,ah⟩:=ex (decide (((n:Nat):Int)*((c:Nat):Int)<0));rw[ah]at N;rw[ah];clear ah))
     obtain⟨aw,rfl⟩:=QU (n:=n*c) N (by rw[Fb]);have bx:=Jm.new P 83 (C a7 l7 c7) (.bool false);obtain⟨W8,I⟩:=ex (P.alloc (.cells #[C a7 l7 c7,.bool false] 83));have Qf:Bl f P:=Bt am bf;have Qa:Bl f W8:=by rw[<-I];exact Qf.alloc Qf.size _
     have Ug:RN W8 (C a7 l7 c7) (n*c):=by rw[<-I];exact RN.below aw (Ba P _)
     rw[I]at bx ⊢;have k0:=bx.c0;have Ue:n*c<=T:=by rw[<-Qu.o];exact Nat.mul_div_le T n
     have Ud:=O (LY _ _ T (n*c) W8 (RN.below U Qa) Ug Ue (by
      have E:=(Jw U).1;rw[<-E];have h2:=(Jw U).2.2.2.1;have h3:=JK (B:=10000) J (n:=T) (k:=(Jc 10000 n).length+1) (by
       have h4:=Yl (Jq (B:=10000) J n);rw[Jp J]at h4;rw[AQ];exact AB F (Ak _ (FU h4)))
      have h5:=Qy.o;omega))
     have Uf:=O (show T-n*c=T%n by rw[<-Qu.o];have:=Cb T n;omega);rw[Uf.o]at Ud;have Qm:=A7 T (show n>0 by omega);have wk:IntKind.i64.wrap ((k:Int)-1)=(k:Int)-1:=IntWalk.i64_in _ J;clear I Ub Qz M N aw Ue;go_wp2_with(go_at_call 115;refine Ud.o.mono ?_;rintro e w9 ⟨u9,rfl,az,bg⟩;obtain⟨a9,c9,rfl⟩:=RN.form az)
     have Qc:Bl f w9:=Bt Qa bg;exact⟨⟨k,T%n,Q.set k c,a9,_,c9,rfl,J,rfl,O az,Qm,Qx.below Qc,A,Bt Qo Qc⟩,by simp[intOf]⟩
