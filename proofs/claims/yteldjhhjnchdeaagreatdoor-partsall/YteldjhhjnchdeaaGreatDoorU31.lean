import Derived.Test.YteldjhhjnchdeaaGreatDoorU30
import Derived.Lib.AppendZeros
open Go.Value renaming slice->C
set_option maxRecDepth 100000
set_option maxHeartbeats 16000000
namespace Go.Proofs.YteldjhhjnchdeaaGreatDoor
open Go.RowKit Go.Shelf
attribute [local go_sem] Oper.semAt_some
theorem Bh:type_of% @Lib.wpList_append_run:=@Lib.wpList_append_run
variable{Q ds:List Nat}{d n r:Nat}
theorem cX(ds:List Nat)(k:Nat)(h:k<ds.length):val 10000 (ds.drop k)=ds[k]?.getD 0+10000*val 10000 (ds.drop (k+1)):=by
 rw[A4 h,Yc,Ai h];rfl
def H7(ds:List Nat)(n k r:Nat)(Q:List Nat):Prop:=
 Q.length=ds.length/\DR 10000 Q/\r=val 10000 (ds.drop k)%n/\val 10000 Q=10000^k*(val 10000 (ds.drop k)/n)/\∀j,j<k->Q[j]?.getD 0=0
theorem H7.start(ds:List Nat)(n:Nat):H7 ds n ds.length 0 (List.replicate ds.length 0):=by
 refine⟨Av,λx b=>by rw[CL b];omega,?_,?_,λj _=>?_⟩
 . rw[List.drop_length,LF,Nat.zero_mod]
 . rw[List.drop_length,LF,Nat.zero_div,CA,Rr]
 . by_cases a:j<ds.length
   . rw[List.getElem?_replicate_of_lt a];rfl
   . rw[At (by rw[Av];omega)];rfl
theorem H7.step{k:Nat}(h:H7 ds n (k+1) r Q)(s:k<ds.length)(q:d=ds[k]?.getD 0)(b:0<n)(u:d<10000):
 d+10000*r<n*10000/\H7 ds n k ((d+10000*r)%n) (Q.set k ((d+10000*r)/n)):=by
 obtain⟨m,o,e,p,f⟩:=h;have g:=cX ds k s;rw[<-q]at g;have w:r<n:=by rw[e];exact Ca _ b
 have c:d+10000*r<n*10000:=O
 have a:=P7 (t:=val 10000 (ds.drop (k+1))) (k:=10000) (un0:=d) b;have i:val 10000 (ds.drop (k+1))*10000+d=val 10000 (ds.drop k):=by rw[g,Au,C9]
 have l:val 10000 (ds.drop (k+1))%n*10000+d=d+10000*r:=by rw[<-e,Au,C9]
 rw[i,l]at a;have hq:(d+10000*r)/n<10000:=by rw[AZ b,Au 10000 n];exact c
 refine⟨c,by rw[Cx];exact m,o.set k hq,a.2,?_,λj v=>?_⟩
 . have hs:=Op 10000 Q k ((d+10000*r)/n) O;rw[f k O,CA,Cq]at hs;rw[hs,p,<-a.1,AO];generalize val 10000 (ds.drop (k+1))/n=A;grind
 . rw[AY O];exact f j O
theorem H7.fin{m:Nat}(h:H7 ds n 0 r Q)(d:ds=Jd 10000 m):JA Q=Jd 10000 (m/n)/\r=m%n:=by
 obtain⟨e,c,b,a,f⟩:=h;rw[AJ,d,Jp O]at b a;rw[Nat.pow_zero,CB]at a;exact⟨by rw[<-Yh O c,a],b⟩
theorem cY(a:d<10000):JA (d::Jd 10000 r)=Jd 10000 (d+10000*r):=by
 have h:=Yh (B:=10000) O (ds:=d::Jd 10000 r) (DR.cons a (Jq O r));rw[Yc,Jp O]at h;exact h.symm
theorem SP(a:Option Addr)(la ca:Nat)(b:Option Addr)(lb cb m n:Nat)(w:World)(ra:RN w (C a la ca) m)(rb:RN w (C b lb cb) n)(hn:n≠0)(bn:la<=100000000)(bt:lb<=100000000):
 Calls Tryz.prog 139 #[C a la ca,C b lb cb] w λe w'=>∃u v,e=.returned (.tuple #[u,v])/\RN w' u (m/n)/\RN w' v (m%n)/\Bl w w':=by
 obtain⟨ad,Ul,ce,bm,ap⟩:=Jy ra;have W:=(Jy rb).1;have Uc:=Rq la O w;obtain⟨A,G⟩:∃A,A=w.alloc (.cells (cellsOf .i64 (List.replicate la 0)).toArray 3):=⟨_,rfl⟩;have Qv:Bl w A:=by rw[G];exact Ba w _
 have Qw:EJ A w.heap.size (List.replicate la 0):=by rw[G];exact EJ.made (BE w _)
 rw[<-G]at Uc;have P:=J (H7.start (Jd 10000 m) n);rw[<-ad]at P;have HF:=J λQ r (h:H7 (Jd 10000 m) n 0 r Q)=>h.fin (m:=m) rfl;have xa:=Jq (B:=10000) O m;have Uk:=J (show EW (n:Int)<=1000000000 by unfold EW;rw[Aw,<-W];omega);generalize Jd 10000 m=ds at *;obtain⟨Qq,H1,X,Qy⟩:=D9 ad ap rb W;clear ad ap G ra rb W;go_enter Tryz.func139,Tryz.ntmps139
 go_wp2_with fail
 go_loopw [7,8] (λrv iv wr=>∃(k r:Nat) (Q:List Nat) (o:Option Addr) (lr cr:Nat),iv=.int .i64 ((k:Int)-1)/\k<=la/\rv=C o lr cr/\Hid (RN wr (C o lr cr) r)/\r<n/\EJ wr w.heap.size Q/\Hid (H7 ds n k r Q)/\Bl w wr)
  (λ_ iv _=>(intOf iv+1).toNat)
 case atStart=>exact⟨la,0,List.replicate la 0,none,0,0,rfl,Aa _,rfl,J (by unfold RN;rw[JD];exact Row.nil _ _),O,Qw,P,Qv⟩
 case round=>
  clear P Qw Qv Uc;obtain⟨k,r,Q,o,lr,cr,rfl,hk,rfl,x,cj,hA,l,hB⟩:=hrel;cases k with
  |zero=>
   obtain⟨f1,f2⟩:=HF.o Q r l.o;have Uj:=J f2;have Ui:Q.length=la:=by rw[l.o.1,Qq.o]
   have Qe:Row .i64 wr (C (some ⟨w.heap.size,0,none⟩) la la) Q:=by
    have D:=hA.row 0 la la O (Aa _) O O;rwa[AJ,Ad O]at D
   have g:=J (N2 _ Q wr Qe);rw[f1]at g;clear f1 f2 Qe;go_wp2_with(go_at_call 116;refine g.o.mono ?_;rintro e w2 ⟨u,rfl,K,e2⟩;obtain⟨ua,uc,rfl⟩:=RN.form K;have e3:=e2.symm;subst e3;clear e2)
   exact BA (v:=.tuple #[C ua (Jd 10000 (m/n)).length uc,C o lr cr]) (by simp[results,Tryz.results139,go_sem]) rfl ⟨_,_,rfl,K,by rw[<-Uj.o];exact x.o,hB⟩
  |succ k=>
   obtain⟨ab,ao,rfl,bc,an⟩:=H1.o k O;have e0:(((k+1:Nat):Int)-1)=(k:Int):=O
   rw[e0];have bi:wr.cell? ⟨ab,ao+k,none⟩=some (.int .i64 (ds[k]?.getD 0:Nat)):=(hB.cell (p:=⟨ab,ao+k,none⟩) bc).trans an;have hd:=xa.getD O k;obtain⟨E,ay⟩:=l.o.step (by rw[<-Qq.o];omega) rfl O hd;have z:=J ay;have Qp:=J (cY (r:=r) hd);have bu:lr<=100000001:=by
    have D:=(Jy x.o).1;have h2:(Jd 10000 r).length<=(Jd 10000 n).length:=by
     rcases AR (Jd 10000 n).length (Jd 10000 r).length with h|h
     . have:=Y3 O h;omega
     . exact h
    have:=Qy.o;omega
   clear ay an e0;generalize ds[k]?.getD 0=d at *;obtain⟨g',l',c',w2,aj,aq,bj,ak⟩:=cV d 81 wr o lr cr _ x.o O;have g:=J (cU _ _ _ _ _ aq);rw[Qp.o]at g;go_upto_region 8 with(at_builtin;refine Bh _ rfl _ _ 81 81 rfl _ _ rfl rfl _ _ aj ?_)
   obtain⟨T,ai⟩:=ex (d+10000*r);rw[ai]at E z g Qp;clear ai aj aq;have R:Bl w w2:=Bt hB ak;have Ua:=hA.below ak;have bk:w.heap.size<wr.heap.size:=hA.lt;have Ui:Q.length=la:=by rw[l.o.1,Qq.o]
   have U:Q[k]?.getD 0=0:=l.o.2.2.2.2 k O;go_upto_region 9 with(go_at_call 116;refine g.o.mono ?_;rintro e cl ⟨l2,rfl,ae,rfl⟩)
   clear g x Qp;obtain⟨cm,t⟩:=ex (Xt T n:Int);have y:=J (N3 10000 O _ _ (Jd 10000 T) (Jd 10000 n) _ ae (RN.below X.o R) (Jq O _) (Jq O _) (Yx O _) (Yx O _));rw[Jp O,Jp O,t]at y;by_cases F:T<n
   . rw[Gz F]at t;subst t;have HQ:=J (show Q.set k (T/n)=Q by
      rw[Cg F];apply List.ext_getElem?;intro j;rw[List.getElem?_set];split
      . rename_i e;subst e;rw[BG O,Ai O];rw[Ai (show k<Q.length by omega)]at U;simp only[Fq]at U;rw[U]
      . rfl)
     have HM:=J (Ct F);have wk:IntKind.i64.wrap ((k:Int)-1)=(k:Int)-1:=IntWalk.i64_in _ O;go_wp2_with(go_at_call 114;refine y.o.mono ?_;rintro e w3 ⟨rfl,i⟩)
     have h3:=z.o;rw[HQ.o,HM.o]at h3;exact⟨⟨k,T,Q,_,l2,c',rfl,O,rfl,J (RN.below ae i),O,Ua.below i,J h3,Bt R i⟩,by simp[intOf]⟩
   . have bh:¬(cm<0):=by rw[<-t];unfold Xt;rw[BC F];split<;>omega
     have Ul:(0:Int)<=cm:=O
     clear t;go_upto_region 10 with(go_at_call 114;refine y.o.mono ?_;rintro e w3 ⟨rfl,i⟩)
     have Qs:Bl w w3:=Bt R i;have Qt:=RN.below (n:=T) ae i;have Qn:=Ua.below i;have Qr:=J (bB _ l2 c' b lb cb T n w3 Qt (RN.below X.o Qs) E O);obtain⟨c,I⟩:=ex (T/n);rw[I]at Qr z;have ci:c<10000:=by rw[<-I,AZ O,Au];exact E
     have Qu:=J I;clear I;have ki:(k:Int)<(la:Int):=O
     have kn:k<la:=O
     go_upto_region 11 with(go_at_call 162;refine Qr.o.mono ?_;rintro e w4 ⟨rfl,s⟩;have kc:=(Qn.below s).cell (j:=k) O;have kf:=(Qn.below s).frozen k)
     obtain⟨f,q⟩:=ex (w4.setCell ⟨w.heap.size,k,none⟩ (.int .i64 (c:Nat)));have Qx:EJ f w.heap.size (Q.set k c):=by rw[<-q];exact(Qn.below s).set k c
     have Uh:Bl w w4:=Bt Qs s;have Qo:Bl w f:=by rw[<-q];exact Uh.setCell (p:=⟨w.heap.size,k,none⟩) (Aa _) _
     have S:RN f (C (some ⟨g',0,none⟩) l2 c') T:=by
      rw[<-q];exact Row.grown (RN.below Qt s) (JI w4 w.heap.size k _) (λp e _=>by cases e;simp only;omega)
     rw[q];have ck:f.cell? ⟨w.heap.size,k,none⟩=some (.int .i64 (c:Nat)):=by
      have h:=Qx.cell (j:=k) (by rw[Cx];omega);rw[h,A8 O];rfl
     clear q kc kf Qr y;have Ub:=J (IF (c:Nat) O O f);have Qz:=J λ(V:World) (u:Value) (h:Bl f V) (K:Ju V u (c:Nat))=>IM (.agg #[C b lb cb,.bool false]) u (n:Nat) (c:Nat) V (Kh (RN.below (RN.below X.o Qo) h)) K Uk.o (Mk O O);go_upto_region 12 with(first
      |(go_at_call 79;refine Ub.o.mono ?_;rintro e w6 ⟨u6,rfl,L,am⟩;obtain⟨a6,l6,c6,rfl⟩:=L.form;obtain⟨s6,af⟩:=ex (decide (((c:Nat):Int)<0));rw[af]at L;rw[af];clear af)
      |(go_at_call 82;refine(Qz.o _ _ am L).mono ?_;rintro e N ⟨u7,rfl,M,bf⟩;obtain⟨a7,l7,c7,rfl⟩:=M.form;obtain⟨s7,ah⟩:=ex (decide (((n:Nat):Int)*((c:Nat):Int)<0));rw[ah]at M;rw[ah];clear ah))
     obtain⟨aw,rfl⟩:=Rs (n:=n*c) M (by rw[Fe]);have bx:=Jo.new N 83 (C a7 l7 c7) (.bool false);obtain⟨W8,H⟩:=ex (N.alloc (.cells #[C a7 l7 c7,.bool false] 83));have Qf:Bl f N:=Bt am bf;have Qa:Bl f W8:=by rw[<-H];exact Qf.alloc Qf.size _
     have Ug:RN W8 (C a7 l7 c7) (n*c):=by rw[<-H];exact RN.below aw (Ba N _)
     rw[H]at bx ⊢;have k0:=bx.c0;have Ue:n*c<=T:=by rw[<-Qu.o];exact Nat.mul_div_le T n
     have Ud:=J (MG _ _ T (n*c) W8 (RN.below S Qa) Ug Ue (by
      have D:=(Jy S).1;rw[<-D];have h2:=(Jy S).2.2.2.1;have h3:=JR (B:=10000) O (n:=T) (k:=(Jd 10000 n).length+1) (by
       have h4:=Yu (Jq (B:=10000) O n);rw[Jp O]at h4;rw[AO];exact AH E (Ak _ (F0 h4)))
      have h5:=Qy.o;omega))
     have Uf:=J (show T-n*c=T%n by rw[<-Qu.o];have:=Ch T n;omega);rw[Uf.o]at Ud;have Qm:=Ca T (show n>0 by omega);have wk:IntKind.i64.wrap ((k:Int)-1)=(k:Int)-1:=IntWalk.i64_in _ O;clear H Ub Qz L M aw Ue;go_wp2_with(go_at_call 115;refine Ud.o.mono ?_;rintro e w9 ⟨u9,rfl,az,bg⟩;obtain⟨a9,c9,rfl⟩:=RN.form az)
     have Qc:Bl f w9:=Bt Qa bg;exact⟨⟨k,T%n,Q.set k c,a9,_,c9,rfl,O,rfl,J az,Qm,Qx.below Qc,z,Bt Qo Qc⟩,by simp[intOf]⟩
