import Derived.Test.YteldjhhjnchdeaaGreatDoorT27
import Derived.Lib.AppendZeros
set_option linter.all false
open Go.Value renaming slice->C
set_option maxRecDepth 99999
set_option maxHeartbeats 0
namespace Go.Proofs.YteldjhhjnchdeaaGreatDoor
open List renaming replicate->kT
open Go.RowKit Go.Shelf
attribute [local go_sem] Oper.semAt_some
def Bg:=@Lib.wpList_append_run
variable{Q ds:kQ}{d n r:Nat}
def cK(ds:kQ)(k:Nat)(h:k<ds.length):val 10000 (ds.drop k)=ds[k]?.getD 0+10000*val 10000 (ds.drop (k+1)):=by
 rw[AV h,Yc,Aq h];rfl
def Gi(ds:kQ)(n k r:Nat)(Q:kQ):Prop:=
 Q.length=ds.length/\DM 10000 Q/\r=val 10000 (ds.drop k)%n/\val 10000 Q=10000^k*(val 10000 (ds.drop k)/n)/\∀j,j<k->Q[j]?.getD 0=0
def Gi.start(ds:kQ)(n:Nat):Gi ds n ds.length 0 (kT ds.length 0):=by
 refine⟨AE,λx b=>by rw[Fd b];omega,?_,?_,λj _=>?_⟩
 . rw[List.drop_length,KX,Nat.zero_mod]
 . rw[List.drop_length,KX,Nat.zero_div,Cr,Ri]
 . by_cases a:j<ds.length
   . rw[List.getElem?_replicate_of_lt a];rfl
   . rw[AY (by rw[AE];omega)];rfl
theorem Gi.step{k:Nat}(h:Gi ds n (k+1) r Q)(s:k<ds.length)(q:d=ds[k]?.getD 0)(b:0<n)(u:d<10000):
 d+10000*r<n*10000/\Gi ds n k ((d+10000*r)%n) (Q.set k ((d+10000*r)/n)):=by
 obtain⟨m,o,e,p,f⟩:=h;have g:=cK ds k s;rw[<-q]at g;have w:r<n:=by rw[e];exact AZ _ b
 have c:d+10000*r<n*10000:=O
 have a:=Pm (t:=val 10000 (ds.drop (k+1))) (k:=10000) (un0:=d) b;have i:val 10000 (ds.drop (k+1))*10000+d=val 10000 (ds.drop k):=by rw[g,AB,Fi]
 have l:val 10000 (ds.drop (k+1))%n*10000+d=d+10000*r:=by rw[<-e,AB,Fi]
 rw[i,l]at a;have hq:(d+10000*r)/n<10000:=by rw[AF b,AB 10000 n];exact c
 refine⟨c,by rw[C0];exact m,o.set k hq,a.2,?_,λj v=>?_⟩
 . have hs:=ON 10000 Q k ((d+10000*r)/n) O;rw[f k O,Cr,Cb]at hs;rw[hs,p,<-a.1,Cc];generalize val 10000 (ds.drop (k+1))/n=A;grind
 . rw[CY O];exact f j O
def Gi.fin{m:Nat}(h:Gi ds n 0 r Q)(d:ds=Jc 10000 m):Jz Q=Jc 10000 (m/n)/\r=m%n:=by
 obtain⟨e,c,b,a,f⟩:=h;rw[AQ,d,Jp O]at b a;rw[Nat.pow_zero,Fg]at a;exact⟨by rw[<-J6 O c,a],b⟩
def cL(a:d<10000):Jz (d::Jc 10000 r)=Jc 10000 (d+10000*r):=by
 have h:=J6 (B:=10000) O (ds:=d::Jc 10000 r) (DM.cons a (Jo O r));rw[Yc,Jp O]at h;exact h.symm
def SH(a:kR)(la ca:Nat)(b:kR)(lb cb m n:Nat)(w:World)(ra:RN w (C a la ca) m)(rb:RN w (C b lb cb) n)(hn:n≠0)(ce:la<=100000000000)(cj:lb<=100000000000):
 Calls Tryz.prog 139 #[C a la ca,C b lb cb] w λe w'=>∃u v,e=.returned (.tuple #[u,v])/\RN w' u (m/n)/\RN w' v (m%n)/\Bl w w':=by
 obtain⟨ad,Ul,cn,bt,aq⟩:=Js ra;have U:=(Js rb).1;have Uc:=Rh la O w;obtain⟨A,F⟩:∃A,A=w.alloc (.cells (cellsOf .i64 (kT la 0)).toArray 3):=⟨_,J⟩;have Qv:Bl w A:=by rw[F];exact Ba w _
 have Qw:Dn A w.heap.size (kT la 0):=by rw[F];exact Dn.made (BC w _)
 rw[<-F]at Uc;have N:=Y (Gi.start (Jc 10000 m) n);rw[<-ad]at N;have HF:=Y λQ r (h:Gi (Jc 10000 m) n 0 r Q)=>h.fin (m:=m) J;have xa:=Jo (B:=10000) O m;have Uk:=Y (show D5 (n:Int)<=400000000000 by unfold D5;rw[Aw,<-U];omega);generalize Jc 10000 m=ds at *;obtain⟨Qq,H1,W,Qy⟩:=Do ad aq rb U;clear ad aq F ra rb U;go_enter Tryz.func139,Tryz.ntmps139
 go_wp2_with fail
 go_loopw [7,8] (λrv iv wr=>∃(k r:Nat) (Q:kQ) (o:kR) (lr cr:Nat),iv=.int .i64 ((k:Int)-1)/\k<=la/\rv=C o lr cr/\Hid (RN wr (C o lr cr) r)/\r<n/\Dn wr w.heap.size Q/\Hid (Gi ds n k r Q)/\Bl w wr) (λ_ iv _=>(intOf iv+1).toNat)
 case atStart=>exact⟨la,0,kT la 0,none,0,0,J,Aa _,J,Y (by unfold RN;rw[JD];exact Row.nil _ _),O,Qw,N,Qv⟩
 case round=>
  clear N Qw Qv Uc;obtain⟨k,r,Q,o,lr,cr,rfl,hk,rfl,x,de,hA,l,hB⟩:=hrel;cases k with
  |zero=>
   obtain⟨f1,f2⟩:=HF.o Q r l.o;have Uj:=Y f2;have Ui:Q.length=la:=by rw[l.o.1,Qq.o]
   have Qe:Row .i64 wr (C (some ⟨w.heap.size,0,none⟩) la la) Q:=by
    have D:=hA.row 0 la la O (Aa _) O O;rwa[AQ,Ad O]at D
   have g:=Y (NT _ Q wr Qe);rw[f1]at g;clear f1 f2 Qe;go_wp2_with(go_at_call 116;refine g.o.mono ?_;rintro e w2 ⟨u,rfl,I,e2⟩;obtain⟨ua,uc,rfl⟩:=RN.form I;have e3:=e2.symm;subst e3;clear e2)
   exact BA (v:=.tuple #[C ua (Jc 10000 (m/n)).length uc,C o lr cr]) (by simp[results,Tryz.results139,go_sem]) J ⟨_,_,J,I,by rw[<-Uj.o];exact x.o,hB⟩
  |succ k=>
   obtain⟨ab,ao,rfl,bg,ap⟩:=H1.o k O;have e0:(((k+1:Nat):Int)-1)=(k:Int):=O
   rw[e0];have bk:wr.cell? ⟨ab,ao+k,none⟩=some (.int .i64 (ds[k]?.getD 0:Nat)):=(hB.cell (p:=⟨ab,ao+k,none⟩) bg).trans ap;have hd:=xa.getD O k;obtain⟨hT,bc⟩:=l.o.step (by rw[<-Qq.o];omega) J O hd;have z:=Y bc;have Qp:=Y (cL (r:=r) hd);have ck:lr<=100000000001:=by
    have D:=(Js x.o).1;have h2:(Jc 10000 r).length<=(Jc 10000 n).length:=by
     rcases AP (Jc 10000 n).length (Jc 10000 r).length with h|h
     . have:=YS O h;omega
     . exact h
    have:=Qy.o;omega
   clear bc ap e0;generalize ds[k]?.getD 0=d at *;obtain⟨g',l',c',w2,ak,ay,bm,am⟩:=cJ d 81 wr o lr cr _ x.o O;have g:=Y (cI _ _ _ _ _ ay);rw[Qp.o]at g;go_upto_region 8 with(at_builtin;refine Bg _ J _ _ 81 81 J _ _ J J _ _ ak ?_)
   obtain⟨T,aj⟩:=ex (d+10000*r);rw[aj]at hT z g Qp;clear aj ak ay;have P:Bl w w2:=Bt hB am;have Ua:=hA.below am;have bn:w.heap.size<wr.heap.size:=hA.lt;have Ui:Q.length=la:=by rw[l.o.1,Qq.o]
   have S:Q[k]?.getD 0=0:=l.o.2.2.2.2 k O;go_upto_region 9 with(go_at_call 116;refine g.o.mono ?_;rintro e di ⟨l2,rfl,ae,rfl⟩)
   clear g x Qp;obtain⟨cm,t⟩:=ex (Xf T n:Int);have y:=Y (NU 10000 O _ _ (Jc 10000 T) (Jc 10000 n) _ ae (RN.below W.o P) (Jo O _) (Jo O _) (Yr O _) (Yr O _));rw[Jp O,Jp O,t]at y;by_cases E:T<n
   . rw[Gc E]at t;subst t;have HQ:=Y (show Q.set k (T/n)=Q by
      rw[A3 E];apply List.ext_getElem?;intro j;rw[List.getElem?_set];split
      . rename_i e;subst e;rw[BL O,Aq O];rw[Aq (show k<Q.length by omega)]at S;simp only[Option.getD_some]at S;rw[S]
      . rfl)
     have HM:=Y (Ci E);have bu:(k:Int)-1=((k:Int)-1):=rfl;have wk:IntKind.i64.wrap ((k:Int)-1)=(k:Int)-1:=IntWalk.i64_in _ O;go_wp2_with(go_at_call 114;refine y.o.mono ?_;rintro e w3 ⟨rfl,i⟩)
     have h3:=z.o;rw[HQ.o,HM.o]at h3;exact⟨⟨k,T,Q,_,l2,c',J,O,J,Y (RN.below ae i),O,Ua.below i,Y h3,Bt P i⟩,by simp[intOf]⟩
   . have bj:¬(cm<0):=by rw[<-t];unfold Xf;rw[BH E];split<;>omega
     have Ul:(0:Int)<=cm:=O
     clear t;go_upto_region 10 with(go_at_call 114;refine y.o.mono ?_;rintro e w3 ⟨rfl,i⟩)
     have Qs:Bl w w3:=Bt P i;have Qt:=RN.below (n:=T) ae i;have X:=Ua.below i;have Qr:=Y (aT _ l2 c' b lb cb T n w3 Qt (RN.below W.o Qs) hT O);obtain⟨c,H⟩:=ex (T/n);rw[H]at Qr z;have co:c<10000:=by rw[<-H,AF O,AB];exact hT
     have Qu:=Y H;clear H;have ki:(k:Int)<(la:Int):=O
     have kn:k<la:=O
     go_upto_region 11 with(go_at_call 162;refine Qr.o.mono ?_;rintro e w4 ⟨rfl,s⟩;have kc:=(X.below s).cell (j:=k) O;have kf:=(X.below s).frozen k)
     obtain⟨f,q⟩:=ex (w4.setCell ⟨w.heap.size,k,none⟩ (.int .i64 (c:Nat)));have Qx:Dn f w.heap.size (Q.set k c):=by rw[<-q];exact(X.below s).set k c
     have Uh:Bl w w4:=Bt Qs s;have Qo:Bl w f:=by rw[<-q];exact Uh.setCell (p:=⟨w.heap.size,k,none⟩) (Aa _) _
     have R:RN f (C (some ⟨g',0,none⟩) l2 c') T:=by
      rw[<-q];exact Row.grown (RN.below Qt s) (JE w4 w.heap.size k _) (λp e _=>by cases e;simp only;omega)
     rw[q];have dh:f.cell? ⟨w.heap.size,k,none⟩=some (.int .i64 (c:Nat)):=by
      have h:=Qx.cell (j:=k) (by rw[C0];omega);rw[h,Fh O];rfl
     clear q kc kf Qr y;have Ub:=Y (Gq (c:Nat) O O f);have Qz:=Y λ(V:World) (u:Value) (h:Bl f V) (I:Ju V u (c:Nat))=>X9 (.agg #[C b lb cb,.bool false]) u (n:Nat) (c:Nat) V (KD (RN.below (RN.below W.o Qo) h)) I Uk.o (MC O O);go_upto_region 12 with(first
      |(go_at_call 79;refine Ub.o.mono ?_;rintro e w6 ⟨u6,rfl,K,an⟩;obtain⟨a6,l6,c6,rfl⟩:=K.form;obtain⟨s6,ah⟩:=ex (decide (((c:Nat):Int)<0));rw[ah]at K;rw[ah];clear ah)
      |(go_at_call 82;refine(Qz.o _ _ an K).mono ?_;rintro e M ⟨u7,rfl,L,bh⟩;obtain⟨a7,l7,c7,rfl⟩:=L.form;obtain⟨s7,ai⟩:=ex (decide (((n:Nat):Int)*((c:Nat):Int)<0));rw[ai]at L;rw[ai];clear ai))
     obtain⟨az,rfl⟩:=Rj (n:=n*c) L (by rw[Fl]);have bx:=Jn.new M 83 (C a7 l7 c7) (.bool false);obtain⟨W8,G⟩:=ex (M.alloc (.cells #[C a7 l7 c7,.bool false] 83));have Qf:Bl f M:=Bt an bh;have Qa:Bl f W8:=by rw[<-G];exact Qf.alloc Qf.size _
     have Ug:RN W8 (C a7 l7 c7) (n*c):=by rw[<-G];exact RN.below az (Ba M _)
     rw[G]at bx ⊢;obtain⟨k0,k1⟩:=bx.cp;have Ue:n*c<=T:=by rw[<-Qu.o];exact Nat.mul_div_le T n
     have Ud:=Y (Li _ _ T (n*c) W8 (RN.below R Qa) Ug Ue (by
      have D:=(Js R).1;rw[<-D];have h2:=(Js R).2.2.2.1;have h3:=JO (B:=10000) O (n:=T) (k:=(Jc 10000 n).length+1) (by
       have h4:=Yl (Jo (B:=10000) O n);rw[Jp O]at h4;rw[Cc];exact Ap hT (Af _ (FL h4)))
      have h5:=Qy.o;omega))
     have Uf:=Y (show T-n*c=T%n by rw[<-Qu.o];have:=A4 T n;omega);rw[Uf.o]at Ud;have Qm:=AZ T (show n>0 by omega);have wk:IntKind.i64.wrap ((k:Int)-1)=(k:Int)-1:=IntWalk.i64_in _ O;clear G Ub Qz K L az Ue;go_wp2_with(go_at_call 115;refine Ud.o.mono ?_;rintro e w9 ⟨u9,rfl,bf,bi⟩;obtain⟨a9,c9,rfl⟩:=RN.form bf)
     have Qc:Bl f w9:=Bt Qa bi;exact⟨⟨k,T%n,Q.set k c,a9,_,c9,J,O,J,Y bf,Qm,Qx.below Qc,z,Bt Qo Qc⟩,by simp[intOf]⟩
