import Derived.Test.YteldjhhjnchdeaaGreatDoorT30
import Derived.Lib.AppendZeros
open Go.Value renaming slice->C
set_option maxRecDepth 100000
set_option maxHeartbeats 16000000
namespace Go.Proofs.YteldjhhjnchdeaaGreatDoor
open Go.RowKit Go.Shelf
attribute [local go_sem] Oper.semAt_some
theorem Bi:type_of% @Lib.wpList_append_run:=@Lib.wpList_append_run
variable{Q ds:List Nat}{d n r:Nat}
theorem aH(ds:List Nat)(k:Nat)(h:k<ds.length):val 10000 (ds.drop k)=ds[k]?.getD 0+10000*val 10000 (ds.drop (k+1)):=by
 rw[A0 h,J5,Ah h];rfl
def Hc(ds:List Nat)(n k r:Nat)(Q:List Nat):Prop:=
 Q.length=ds.length/\DT 10000 Q/\r=val 10000 (ds.drop k)%n/\val 10000 Q=10000^k*(val 10000 (ds.drop k)/n)/\∀j,j<k->Q[j]?.getD 0=0
theorem Hc.start(ds:List Nat)(n:Nat):Hc ds n ds.length 0 (List.replicate ds.length 0):=by
 refine⟨Au,λx a=>by rw[CF a];omega,?_,?_,λj _=>?_⟩
 . rw[List.drop_length,Ke,Nat.zero_mod]
 . rw[List.drop_length,Ke,Nat.zero_div,Cv,QW]
 . by_cases b:j<ds.length
   . rw[List.getElem?_replicate_of_lt b];rfl
   . rw[At (by rw[Au];omega)];rfl
theorem Hc.step{k:Nat}(h:Hc ds n (k+1) r Q)(p:k<ds.length)(i:d=ds[k]?.getD 0)(b:0<n)(v:d<10000):
 d+10000*r<n*10000/\Hc ds n k ((d+10000*r)%n) (Q.set k ((d+10000*r)/n)):=by
 obtain⟨l,q,g,o,e⟩:=h;have f:=aH ds k p;rw[<-i]at f;have w:r<n:=by rw[g];exact A7 _ b
 have c:d+10000*r<n*10000:=om
 have a:=PG (t:=val 10000 (ds.drop (k+1))) (k:=10000) (un0:=d) b;have m:val 10000 (ds.drop (k+1))*10000+d=val 10000 (ds.drop k):=by rw[f,Ar,CZ]
 have s:val 10000 (ds.drop (k+1))%n*10000+d=d+10000*r:=by rw[<-g,Ar,CZ]
 rw[m,s]at a;have hq:(d+10000*r)/n<10000:=by rw[AX b,Ar 10000 n];exact c
 refine⟨c,by rw[Cq];exact l,q.set k hq,a.2,?_,λj u=>?_⟩
 . have hs:=OE 10000 Q k ((d+10000*r)/n) om;rw[e k om,Cv,Ci]at hs;rw[hs,o,<-a.1,AP];generalize val 10000 (ds.drop (k+1))/n=A;grind
 . rw[AW om];exact e j om
theorem Hc.fin{m:Nat}(h:Hc ds n 0 r Q)(d:ds=Jc 10000 m):Jw Q=Jc 10000 (m/n)/\r=m%n:=by
 obtain⟨e,c,b,a,f⟩:=h;rw[AE,d,Jo om]at b a;rw[Nat.pow_zero,Cw]at a;exact⟨by rw[<-J9 om c,a],b⟩
theorem aI(a:d<10000):Jw (d::Jc 10000 r)=Jc 10000 (d+10000*r):=by
 have h:=J9 (B:=10000) om (ds:=d::Jc 10000 r) (DT.cons a (Jp om r));rw[J5,Jo om]at h;exact h.symm
theorem RU(a:Option Addr)(la ca:Nat)(b:Option Addr)(lb cb m n:Nat)(w:World)(ra:RN w (C a la ca) m)(rb:RN w (C b lb cb) n)(hn:n≠0)(ci:la<=100000000)(bh:lb<=100000000):
 Calls Tryz.prog 139 #[C a la ca,C b lb cb] w λe R=>∃u v,e=.returned (.tuple #[u,v])/\RN R u (m/n)/\RN R v (m%n)/\Bl w R:=by
 obtain⟨ad,Ul,bm,cj,ap⟩:=Ju ra;have Z:=(Ju rb).1;have Ud:=QV la om w;obtain⟨G,J⟩:∃G,G=w.alloc (.cells (cellsOf .i64 (List.replicate la 0)).toArray 3):=⟨_,rfl⟩;have Qx:Bl w G:=by rw[J];exact Ba w _
 have Ue:EG G w.heap.size (List.replicate la 0):=by rw[J];exact EG.made (BE w _)
 rw[<-J]at Ud;have W:=Ja (Hc.start (Jc 10000 m) n);rw[<-ad]at W;have HF:=Ja (λQ r (h:Hc (Jc 10000 m) n 0 r Q)=>h.fin (m:=m) rfl);have xa:=Jp (B:=10000) om m;have Uh:=Ja (show ET (n:Int)<=1000000000 by unfold ET;rw[AR,<-Z];omega);generalize Jc 10000 m=ds at *;obtain⟨S,H1,Qk,Qy⟩:=EC ad ap rb Z;clear ad ap J ra rb Z;go_enter Tryz.func139,Tryz.ntmps139
 go_wp2_with fail
 go_loopw [7,8] (λrv iv wr=>∃(k r:Nat) (Q:List Nat) (t:Option Addr) (lr q:Nat),iv=.int .i64 ((k:Int)-1)/\k<=la/\rv=C t lr q/\Hid (RN wr (C t lr q) r)/\r<n/\EG wr w.heap.size Q/\Hid (Hc ds n k r Q)/\Bl w wr)
  (λ_ iv _=>(intOf iv+1).toNat)
 case atStart=>exact⟨la,0,List.replicate la 0,none,0,0,rfl,Aa _,rfl,Ja (by unfold RN;rw[Jy];exact Row.nil _ _),om,Ue,W,Qx⟩
 case round=>
  clear W Ue Qx Ud;obtain⟨k,r,Q,t,lr,q,rfl,hk,rfl,A,ck,X,l,O⟩:=hrel;cases k with
  |zero=>
   obtain⟨f1,f2⟩:=HF.o Q r l.o;have Uf:=Ja f2;have Uj:Q.length=la:=by rw[l.o.1,S.o]
   have Qc:Row .i64 wr (C (some ⟨w.heap.size,0,none⟩) la la) Q:=by
    have z:=X.row 0 la la om (Aa _) om om;rwa[AE,Ad om]at z
   have i:=Ja (NP _ Q wr Qc);rw[f1]at i;clear f1 f2 Qc;go_wp2_with(go_at_call 116;refine i.o.mono ?_;rintro e w2 ⟨u,rfl,H,e2⟩;obtain⟨ua,uc,rfl⟩:=RN.form H;have e3:=e2.symm;subst e3;clear e2)
   exact BA (v:=.tuple #[C ua (Jc 10000 (m/n)).length uc,C t lr q]) (by simp[results,Tryz.results139,go_sem]) rfl ⟨_,_,rfl,H,by rw[<-Uf.o];exact A.o,O⟩
  |succ k=>
   obtain⟨ab,ao,rfl,bg,ai⟩:=H1.o k om;have e0:(((k+1:Nat):Int)-1)=(k:Int):=om
   rw[e0];have bj:wr.cell? ⟨ab,ao+k,none⟩=some (.int .i64 (ds[k]?.getD 0:Nat)):=(O.cell (p:=⟨ab,ao+k,none⟩) bg).trans ai;have hd:=xa.getD om k;obtain⟨E,am⟩:=l.o.step (by rw[<-S.o];omega) rfl om hd;have L:=Ja am;have Qp:=Ja (aI (r:=r) hd);have bk:lr<=100000001:=by
    have z:=(Ju A.o).1;have h2:(Jc 10000 r).length<=(Jc 10000 n).length:=by
     rcases AO (Jc 10000 n).length (Jc 10000 r).length with h|h
     . have:=YL om h;omega
     . exact h
    have:=Qy.o;omega
   clear am ai e0;generalize ds[k]?.getD 0=d at *;obtain⟨g',l',c',w2,aw,an,bn,ak⟩:=aG d 81 wr t lr q _ A.o om;have i:=Ja (aF _ _ _ _ _ an);rw[Qp.o]at i;go_upto_region 8 with(at_builtin;refine Bi _ rfl _ _ 81 81 rfl _ _ rfl rfl _ _ aw ?_)
   obtain⟨T,aq⟩:=ex (d+10000*r);rw[aq]at E L i Qp;clear aq aw an;have Y:Bl w w2:=Bt O ak;have Qv:=X.below ak;have ce:w.heap.size<wr.heap.size:=X.lt;have Uj:Q.length=la:=by rw[l.o.1,S.o]
   have Qo:Q[k]?.getD 0=0:=l.o.2.2.2.2 k om;go_upto_region 9 with(go_at_call 116;refine i.o.mono ?_;rintro e bu ⟨l2,rfl,ae,rfl⟩)
   clear i A Qp;obtain⟨cm,s⟩:=ex (Y9 T n:Int);have M:=Ja (NQ 10000 om _ _ (Jc 10000 T) (Jc 10000 n) _ ae (RN.below Qk.o Y) (Jp om _) (Jp om _) (Yk om _) (Yk om _));rw[Jo om,Jo om,s]at M;by_cases y:T<n
   . rw[XT y]at s;subst s;have HQ:=Ja (show Q.set k (T/n)=Q by
      rw[Cb y];apply List.ext_getElem?;intro j;rw[List.getElem?_set];split
      . rename_i e;subst e;rw[BG om,Ah om];rw[Ah (show k<Q.length by omega)]at Qo;simp only[Fm]at Qo;rw[Qo]
      . rfl)
     have HM:=Ja (Cm y);have wk:IntKind.i64.wrap ((k:Int)-1)=(k:Int)-1:=IntWalk.i64_in _ om;go_wp2_with(go_at_call 114;refine M.o.mono ?_;rintro e P ⟨rfl,g⟩)
     have h3:=L.o;rw[HQ.o,HM.o]at h3;exact⟨⟨k,T,Q,_,l2,c',rfl,om,rfl,Ja (RN.below ae g),om,Qv.below g,Ja h3,Bt Y g⟩,by simp[intOf]⟩
   . have cg:¬(cm<0):=by rw[<-s];unfold Y9;rw[BC y];split<;>omega
     have Ul:(0:Int)<=cm:=om
     clear s;go_upto_region 10 with(go_at_call 114;refine M.o.mono ?_;rintro e P ⟨rfl,g⟩)
     have Qn:Bl w P:=Bt Y g;have Qz:=RN.below (n:=T) ae g;have Qj:=Qv.below g;have Ql:=Ja (ZT _ l2 c' b lb cb T n P Qz (RN.below Qk.o Qn) E om);obtain⟨c,D⟩:=ex (T/n);rw[D]at Ql L;have bi:c<10000:=by rw[<-D,AX om,Ar];exact E
     have Ua:=Ja D;clear D;have ki:(k:Int)<(la:Int):=om
     have kn:k<la:=om
     go_upto_region 11 with(go_at_call 162;refine Ql.o.mono ?_;rintro e w4 ⟨rfl,o⟩;have kc:=(Qj.below o).cell (j:=k) om;have kf:=(Qj.below o).frozen k)
     obtain⟨f,x⟩:=ex (w4.setCell ⟨w.heap.size,k,none⟩ (.int .i64 (c:Nat)));have Qu:EG f w.heap.size (Q.set k c):=by rw[<-x];exact(Qj.below o).set k c
     have Ui:Bl w w4:=Bt Qn o;have Qs:Bl w f:=by rw[<-x];exact Ui.setCell (p:=⟨w.heap.size,k,none⟩) (Aa _) _
     have Qq:RN f (C (some ⟨g',0,none⟩) l2 c') T:=by
      rw[<-x];exact Row.grown (RN.below Qz o) (JC w4 w.heap.size k _) (λp e _=>by cases e;simp only;omega)
     rw[x];have bt:f.cell? ⟨w.heap.size,k,none⟩=some (.int .i64 (c:Nat)):=by
      have h:=Qu.cell (j:=k) (by rw[Cq];omega);rw[h,A6 om];rfl
     clear x kc kf Ql M;have Qt:=Ja (Hl (c:Nat) om om f);have Ub:=Ja (λ(V:World) (u:Value) (h:Bl f V) (H:Jr V u (c:Nat))=>X0 (.agg #[C b lb cb,.bool false]) u (n:Nat) (c:Nat) V (I8 (RN.below (RN.below Qk.o Qs) h)) H Uh.o (L6 om om));go_upto_region 12 with(first
      |(go_at_call 79;refine Qt.o.mono ?_;rintro e w6 ⟨u6,rfl,N,aj⟩;obtain⟨a6,l6,c6,rfl⟩:=N.form;obtain⟨s6,ah⟩:=ex (decide (((c:Nat):Int)<0));rw[ah]at N;rw[ah];clear ah)
      |(go_at_call 82;refine(Ub.o _ _ aj N).mono ?_;rintro e F ⟨u7,rfl,I,bc⟩;obtain⟨a7,l7,c7,rfl⟩:=I.form;obtain⟨s7,af⟩:=ex (decide (((n:Nat):Int)*((c:Nat):Int)<0));rw[af]at I;rw[af];clear af))
     obtain⟨az,rfl⟩:=QX (n:=n*c) I (by rw[Fa]);have bx:=Jn.new F 83 (C a7 l7 c7) (.bool false);obtain⟨U,K⟩:=ex (F.alloc (.cells #[C a7 l7 c7,.bool false] 83));have Qf:Bl f F:=Bt aj bc;have Qb:Bl f U:=by rw[<-K];exact Qf.alloc Qf.size _
     have Uk:RN U (C a7 l7 c7) (n*c):=by rw[<-K];exact RN.below az (Ba F _)
     rw[K]at bx ⊢;have k0:=bx.c0;have Qw:n*c<=T:=by rw[<-Ua.o];exact Nat.mul_div_le T n
     have Uc:=Ja (Le _ _ T (n*c) U (RN.below Qq Qb) Uk Qw (by
      have z:=(Ju Qq).1;rw[<-z];have h2:=(Ju Qq).2.2.2.1;have h3:=JJ (B:=10000) om (n:=T) (k:=(Jc 10000 n).length+1) (by
       have h4:=Yi (Jp (B:=10000) om n);rw[Jo om]at h4;rw[AP];exact AC E (Ak _ (FT h4)))
      have h5:=Qy.o;omega))
     have Ug:=Ja (show T-n*c=T%n by rw[<-Ua.o];have:=Cc T n;omega);rw[Ug.o]at Uc;have Qm:=A7 T (show n>0 by omega);have wk:IntKind.i64.wrap ((k:Int)-1)=(k:Int)-1:=IntWalk.i64_in _ om;clear K Qt Ub N I az Qw;go_wp2_with(go_at_call 115;refine Uc.o.mono ?_;rintro e w9 ⟨u9,rfl,ay,bf⟩;obtain⟨a9,c9,rfl⟩:=RN.form ay)
     have Qe:Bl f w9:=Bt Qb bf;exact⟨⟨k,T%n,Q.set k c,a9,_,c9,rfl,om,rfl,Ja ay,Qm,Qu.below Qe,L,Bt Qs Qe⟩,by simp[intOf]⟩
