import Derived.Test.YtcahejkcdcjjgaaGreatDoorT30
import Derived.Lib.AppendZeros
open Go.Value renaming slice->C
set_option maxRecDepth 100000
set_option maxHeartbeats 16000000
namespace Go.Proofs.YtcahejkcdcjjgaaGreatDoor
open Go.RowKit Go.Shelf
attribute [local go_sem] Oper.semAt_some
theorem Bk:type_of% @Lib.wpList_append_run:=@Lib.wpList_append_run
variable{Q ds:List Nat}{d n r:Nat}
theorem VN(ds:List Nat)(k:Nat)(h:k<ds.length):val 10000 (ds.drop k)=ds[k]?.getD 0+10000*val 10000 (ds.drop (k+1)):=by
 rw[AM h,JX,Af h];rfl
def FV(ds:List Nat)(n k r:Nat)(Q:List Nat):Prop:=
 Q.length=ds.length/\DP 10000 Q/\r=val 10000 (ds.drop k)%n/\val 10000 Q=10000^k*(val 10000 (ds.drop k)/n)/\∀j,j<k->Q[j]?.getD 0=0
theorem FV.start(ds:List Nat)(n:Nat):FV ds n ds.length 0 (List.replicate ds.length 0):=by
 refine⟨Ar,λx b=>by rw[Cy b];omega,?_,?_,λj _=>?_⟩
 . rw[List.drop_length,IH,Nat.zero_mod]
 . rw[List.drop_length,IH,Nat.zero_div,Cq,Oe]
 . by_cases a:j<ds.length
   . rw[List.getElem?_replicate_of_lt a];rfl
   . rw[Aq (by rw[Ar];omega)];rfl
theorem FV.step{k:Nat}(h:FV ds n (k+1) r Q)(q:k<ds.length)(s:d=ds[k]?.getD 0)(b:0<n)(x:d<10000):
 d+10000*r<n*10000/\FV ds n k ((d+10000*r)%n) (Q.set k ((d+10000*r)/n)):=by
 obtain⟨p,u,c,m,g⟩:=h;have e:=VN ds k q;rw[<-s]at e;have w:r<n:=by rw[c];exact A9 _ b
 have f:d+10000*r<n*10000:=om
 have a:=NM (t:=val 10000 (ds.drop (k+1))) (k:=10000) (un0:=d) b;have i:val 10000 (ds.drop (k+1))*10000+d=val 10000 (ds.drop k):=by rw[e,As,CW]
 have o:val 10000 (ds.drop (k+1))%n*10000+d=d+10000*r:=by rw[<-c,As,CW]
 rw[i,o]at a;have l:(d+10000*r)/n<10000:=by rw[AO b,As 10000 n];exact f
 refine⟨f,by rw[Ct];exact p,u.set k l,a.2,?_,λj v=>?_⟩
 . have hs:=ME 10000 Q k ((d+10000*r)/n) om;rw[g k om,Cq,Cd]at hs;rw[hs,m,<-a.1,AR];generalize val 10000 (ds.drop (k+1))/n=A;grind
 . rw[AN om];exact g j om
theorem FV.fin{m:Nat}(h:FV ds n 0 r Q)(c:ds=Jc 10000 m):Jt Q=Jc 10000 (m/n)/\r=m%n:=by
 obtain⟨e,d,b,a,f⟩:=h;rw[Au,c,Jm om]at b a;rw[Nat.pow_zero,CN]at a;exact⟨by rw[<-JU om d,a],b⟩
theorem VO(a:d<10000):Jt (d::Jc 10000 r)=Jc 10000 (d+10000*r):=by
 have h:=JU (B:=10000) om (ds:=d::Jc 10000 r) (DP.cons a (Jo om r));rw[JX,Jm om]at h;exact h.symm
theorem PB(a:Option Addr)(c ca:Nat)(b:Option Addr)(lb O m n:Nat)(w:World)(ra:RN w (C a c ca) m)(rb:RN w (C b lb O) n)(hn:n≠0)(cg:c<=100000000)(bt:lb<=100000000):
 Calls Tryz.prog 157 #[C a c ca,C b lb O] w λe w'=>∃u v,e=.returned (.tuple #[u,v])/\RN w' u (m/n)/\RN w' v (m%n)/\Bl w w':=by
 obtain⟨af,Ui,bh,bm,ap⟩:=Js ra;have Qp:=(Js rb).1;have Qv:=Od c om w;obtain⟨H,F⟩:∃H,H=w.alloc (.cells (cellsOf .i64 (List.replicate c 0)).toArray 3):=⟨_,rfl⟩;have Qw:Bl w H:=by rw[F];exact Ba w _
 have Qx:Dr H w.heap.size (List.replicate c 0):=by rw[F];exact Dr.made (BC w _)
 rw[<-F]at Qv;have HS:=Ja (FV.start (Jc 10000 m) n);rw[<-af]at HS;have HF:=Ja (λQ r (h:FV (Jc 10000 m) n 0 r Q)=>h.fin (m:=m) rfl);have xa:=Jo (B:=10000) om m;have Uh:=Ja (show EA (n:Int)<=1000000000 by unfold EA;rw[Ci,<-Qp];omega);generalize Jc 10000 m=ds at *;obtain⟨Qq,H1,R,Qz⟩:=D3 af ap rb Qp;clear af ap F ra rb Qp;go_enter Tryz.func157,Tryz.ntmps157
 go_wp2_with fail
 go_loopw [7,8] (λrv iv wr=>∃(k r:Nat) (Q:List Nat) (o:Option Addr) (lr s:Nat),iv=.int .i64 ((k:Int)-1)/\k<=c/\rv=C o lr s/\Hid (RN wr (C o lr s) r)/\r<n/\Dr wr w.heap.size Q/\Hid (FV ds n k r Q)/\Bl w wr)
  (λ_ iv _=>(intOf iv+1).toNat)
 case atStart=>exact⟨c,0,List.replicate c 0,none,0,0,rfl,Aa _,rfl,Ja (by unfold RN;rw[Jy];exact Row.nil _ _),om,Qx,HS,Qw⟩
 case round=>
  clear HS Qx Qw Qv;obtain⟨k,r,Q,o,lr,s,rfl,hk,rfl,E,bg,hA,x,W⟩:=hrel;cases k with
  |zero=>
   obtain⟨f1,f2⟩:=HF.o Q r x.o;have Uk:=Ja f2;have Ug:Q.length=c:=by rw[x.o.1,Qq.o]
   have Qf:Row .i64 wr (C (some ⟨w.heap.size,0,none⟩) c c) Q:=by
    have P:=hA.row 0 c c om (Aa _) om om;rwa[Au,Ab om]at P
   have l:=Ja (Hc _ Q wr Qf);rw[f1]at l;clear f1 f2 Qf;go_wp2_with(go_at_call 140;refine l.o.mono ?_;rintro e w2 ⟨u,rfl,K,e2⟩;obtain⟨ua,uc,rfl⟩:=RN.form K;have e3:=e2.symm;subst e3;clear e2)
   exact BA (v:=.tuple #[C ua (Jc 10000 (m/n)).length uc,C o lr s]) (by simp[results,Tryz.results157,go_sem]) rfl ⟨_,_,rfl,K,by rw[<-Uk.o];exact E.o,W⟩
  |succ k=>
   obtain⟨ab,ao,rfl,az,ay⟩:=H1.o k om;have e0:(((k+1:Nat):Int)-1)=(k:Int):=om
   rw[e0];have bz:wr.cell? ⟨ab,ao+k,none⟩=some (.int .i64 (ds[k]?.getD 0:Nat)):=(W.cell (p:=⟨ab,ao+k,none⟩) az).trans ay;have hd:=xa.getD om k;obtain⟨D,ai⟩:=x.o.step (by rw[<-Qq.o];omega) rfl om hd;have G:=Ja ai;have Qo:=Ja (VO (r:=r) hd);have bn:lr<=100000001:=by
    have P:=(Js E.o).1;have h2:(Jc 10000 r).length<=(Jc 10000 n).length:=by
     rcases AB (Jc 10000 n).length (Jc 10000 r).length with h|h
     . have:=YC om h;omega
     . exact h
    have:=Qz.o;omega
   clear ai ay e0;generalize ds[k]?.getD 0=d at *;obtain⟨g',l',c',w2,aj,aw,ce,ah⟩:=VM d 45 wr o lr s _ E.o om;have l:=Ja (VL _ _ _ _ _ aw);rw[Qo.o]at l;go_upto_region 8 with(at_builtin;refine Bk _ rfl _ _ 45 45 rfl _ _ rfl rfl _ _ aj ?_)
   obtain⟨T,ak⟩:=ex (d+10000*r);rw[ak]at D G l Qo;clear ak aj aw;have Qd:Bl w w2:=Bt W ah;have Ua:=hA.below ah;have bf:w.heap.size<wr.heap.size:=hA.lt;have Ug:Q.length=c:=by rw[x.o.1,Qq.o]
   have Qj:Q[k]?.getD 0=0:=x.o.2.2.2.2 k om;go_upto_region 9 with(go_at_call 140;refine l.o.mono ?_;rintro e ci ⟨l2,rfl,X,rfl⟩)
   clear l E Qo;obtain⟨cm,t⟩:=ex (YT T n:Int);have N:=Ja (LX 10000 om _ _ (Jc 10000 T) (Jc 10000 n) _ X (RN.below R.o Qd) (Jo om _) (Jo om _) (Yf om _) (Yf om _));rw[Jm om,Jm om,t]at N;by_cases A:T<n
   . rw[Xu A]at t;subst t;have HQ:=Ja (show Q.set k (T/n)=Q by
      rw[Cj A];apply List.ext_getElem?;intro j;rw[List.getElem?_set];split
      . rename_i e;subst e;rw[BI om,Af om];rw[Af (show k<Q.length by omega)]at Qj;simp only[CO]at Qj;rw[Qj]
      . rfl)
     have HM:=Ja (Cp A);have bk:(k:Int)-1=((k:Int)-1):=rfl;have wk:IntKind.i64.wrap ((k:Int)-1)=(k:Int)-1:=IntWalk.i64_in _ om;go_wp2_with(go_at_call 143;refine N.o.mono ?_;rintro e Z ⟨rfl,i⟩)
     have h3:=G.o;rw[HQ.o,HM.o]at h3;exact⟨⟨k,T,Q,_,l2,c',rfl,om,rfl,Ja (RN.below X i),om,Ua.below i,Ja h3,Bt Qd i⟩,by simp[intOf]⟩
   . have bu:¬(cm<0):=by rw[<-t];unfold YT;rw[BE A];split<;>omega
     have Ui:(0:Int)<=cm:=om
     clear t;go_upto_region 10 with(go_at_call 143;refine N.o.mono ?_;rintro e Z ⟨rfl,i⟩)
     have Ql:Bl w Z:=Bt Qd i;have Ue:=RN.below (n:=T) X i;have Qk:=Ua.below i;have S:=Ja (UF _ l2 c' b lb O T n Z Ue (RN.below R.o Ql) D om);obtain⟨f,L⟩:=ex (T/n);rw[L]at S G;have bj:f<10000:=by rw[<-L,AO om,As];exact D
     have Ub:=Ja L;clear L;have ki:(k:Int)<(c:Int):=om
     have kn:k<c:=om
     go_upto_region 11 with(go_at_call 183;refine S.o.mono ?_;rintro e Y ⟨rfl,y⟩;have kc:=(Qk.below y).cell (j:=k) om;have kf:=(Qk.below y).frozen k)
     obtain⟨g,q⟩:=ex (Y.setCell ⟨w.heap.size,k,none⟩ (.int .i64 (f:Nat)));have Uc:Dr g w.heap.size (Q.set k f):=by rw[<-q];exact(Qk.below y).set k f
     have Uf:Bl w Y:=Bt Ql y;have Qr:Bl w g:=by rw[<-q];exact Uf.setCell (p:=⟨w.heap.size,k,none⟩) (Aa _) _
     have Qs:RN g (C (some ⟨g',0,none⟩) l2 c') T:=by
      rw[<-q];exact Row.grown (RN.below Ue y) (JD Y w.heap.size k _) (λp e _=>by cases e;simp only;omega)
     rw[q];have bi:g.cell? ⟨w.heap.size,k,none⟩=some (.int .i64 (f:Nat)):=by
      have h:=Uc.cell (j:=k) (by rw[Ct];omega);rw[h,A4 om];rfl
     clear q kc kf S N;have Qy:=Ja (FS (f:Nat) om om g);have Ud:=Ja (λ(V:World) (u:Value) (h:Bl g V) (K:Jr V u (f:Nat))=>Gi (.agg #[C b lb O,.bool false]) u (n:Nat) (f:Nat) V (Hi (RN.below (RN.below R.o Qr) h)) K Uh.o (Ke om om));go_upto_region 12 with(first
      |(go_at_call 93;refine Qy.o.mono ?_;rintro e w6 ⟨u6,rfl,z,aq⟩;obtain⟨a6,l6,c6,rfl⟩:=z.form;obtain⟨s6,ad⟩:=ex (decide (((f:Nat):Int)<0));rw[ad]at z;rw[ad];clear ad)
      |(go_at_call 109;refine(Ud.o _ _ aq z).mono ?_;rintro e I ⟨u7,rfl,M,bc⟩;obtain⟨a7,l7,c7,rfl⟩:=M.form;obtain⟨s7,ae⟩:=ex (decide (((n:Nat):Int)*((f:Nat):Int)<0));rw[ae]at M;rw[ae];clear ae))
     obtain⟨an,rfl⟩:=Of (n:=n*f) M (by rw[C0]);have bx:=Jj.new I 47 (C a7 l7 c7) (.bool false);obtain⟨U,J⟩:=ex (I.alloc (.cells #[C a7 l7 c7,.bool false] 47));have Qc:Bl g I:=Bt aq bc;have Qb:Bl g U:=by rw[<-J];exact Qc.alloc Qc.size _
     have Ul:RN U (C a7 l7 c7) (n*f):=by rw[<-J];exact RN.below an (Ba I _)
     rw[J]at bx ⊢;obtain⟨k0,k1⟩:=bx.cp;have Qu:n*f<=T:=by rw[<-Ub.o];exact Nat.mul_div_le T n
     have Qt:=Ja (KG _ _ T (n*f) U (RN.below Qs Qb) Ul Qu (by
      have P:=(Js Qs).1;rw[<-P];have h2:=(Js Qs).2.2.2.1;have h3:=JI (B:=10000) om (n:=T) (k:=(Jc 10000 n).length+1) (by
       have h4:=Yd (Jo (B:=10000) om n);rw[Jm om]at h4;rw[AR];exact AC D (Ao _ (Fw h4)))
      have h5:=Qz.o;omega))
     have Uj:=Ja (show T-n*f=T%n by rw[<-Ub.o];have:=Cb T n;omega);rw[Uj.o]at Qt;have Qi:=A9 T (show n>0 by omega);have wk:IntKind.i64.wrap ((k:Int)-1)=(k:Int)-1:=IntWalk.i64_in _ om;clear J Qy Ud z M an Qu;go_wp2_with(go_at_call 144;refine Qt.o.mono ?_;rintro e w9 ⟨u9,rfl,av,bd⟩;obtain⟨a9,c9,rfl⟩:=RN.form av)
     have Qe:Bl g w9:=Bt Qb bd;exact⟨⟨k,T%n,Q.set k f,a9,_,c9,rfl,om,rfl,Ja av,Qi,Uc.below Qe,G,Bt Qr Qe⟩,by simp[intOf]⟩
