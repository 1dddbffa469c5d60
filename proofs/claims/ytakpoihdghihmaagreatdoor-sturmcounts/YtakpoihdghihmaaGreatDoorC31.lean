import Derived.Test.YtakpoihdghihmaaGreatDoorC30
import Derived.Lib.AppendZeros
open Go.Value renaming slice->C
set_option maxRecDepth 100000
set_option maxHeartbeats 16000000
namespace Go.Proofs.YtakpoihdghihmaaGreatDoor
open Go.RowKit Go.Shelf
attribute [local go_sem] Oper.semAt_some
theorem BU:type_of% @Lib.wpList_append_run:=@Lib.wpList_append_run
variable{Q ds:List Nat}{d n r:Nat}
theorem eU(ds:List Nat)(k:Nat)(h:k<ds.length):val 10000 (ds.drop k)=ds[k]?.getD 0+10000*val 10000 (ds.drop (k+1)):=by
 rw[Cp h,Yi,Af h];rfl
def IM(ds:List Nat)(n k r:Nat)(Q:List Nat):Prop:=
 Q.length=ds.length/\DQ 10000 Q/\r=val 10000 (ds.drop k)%n/\val 10000 Q=10000^k*(val 10000 (ds.drop k)/n)/\∀j,j<k->Q[j]?.getD 0=0
theorem IM.start(ds:List Nat)(n:Nat):IM ds n ds.length 0 (List.replicate ds.length 0):=by
 refine⟨Ay,λx b=>by rw[CS b];omega,?_,?_,λj _=>?_⟩
 . rw[List.drop_length,Lh,Nat.zero_mod]
 . rw[List.drop_length,Lh,Nat.zero_div,CF,Sf]
 . by_cases a:j<ds.length
   . rw[List.getElem?_replicate_of_lt a];rfl
   . rw[As (by rw[Ay];omega)];rfl
theorem IM.step{k:Nat}(h:IM ds n (k+1) r Q)(u:k<ds.length)(s:d=ds[k]?.getD 0)(b:0<n)(v:d<10000):
 d+10000*r<n*10000/\IM ds n k ((d+10000*r)%n) (Q.set k ((d+10000*r)/n)):=by
 obtain⟨o,p,e,q,f⟩:=h;have i:=eU ds k u;rw[<-s]at i;have x:r<n:=by rw[e];exact Ci _ b
 have c:d+10000*r<n*10000:=O
 have a:=RT (t:=val 10000 (ds.drop (k+1))) (k:=10000) (un0:=d) b;have l:val 10000 (ds.drop (k+1))*10000+d=val 10000 (ds.drop k):=by rw[i,At,Fy]
 have m:val 10000 (ds.drop (k+1))%n*10000+d=d+10000*r:=by rw[<-e,At,Fy]
 rw[l,m]at a;have hq:(d+10000*r)/n<10000:=by rw[Ca b,At 10000 n];exact c
 refine⟨c,by rw[CB];exact o,p.set k hq,a.2,?_,λj w=>?_⟩
 . have g:=PF 10000 Q k ((d+10000*r)/n) O;rw[f k O,CF,Ct]at g;rw[g,q,<-a.1,AZ];generalize val 10000 (ds.drop (k+1))/n=A;grind
 . rw[A6 O];exact f j O
theorem IM.fin{m:Nat}(h:IM ds n 0 r Q)(d:ds=Je 10000 m):JA Q=Je 10000 (m/n)/\r=m%n:=by
 obtain⟨e,c,b,a,f⟩:=h;rw[AW,d,Jq O]at b a;rw[Nat.pow_zero,CG]at a;exact⟨by rw[<-Yg O c,a],b⟩
theorem eV(a:d<10000):JA (d::Je 10000 r)=Je 10000 (d+10000*r):=by
 have h:=Yg (B:=10000) O (ds:=d::Je 10000 r) (DQ.cons a (Ju O r));rw[Yi,Jq O]at h;exact h.symm
theorem TE(a:Option Addr)(la ca:Nat)(b:Option Addr)(lb cb m n:Nat)(w:World)(ra:RN w (C a la ca) m)(rb:RN w (C b lb cb) n)(hn:n≠0)(bl:la<=100000000)(bm:lb<=100000000):
 Calls Tryz.prog 184 #[C a la ca,C b lb cb] w λe w'=>∃u v,e=.returned (.tuple #[u,v])/\RN w' u (m/n)/\RN w' v (m%n)/\Bl w w':=by
 obtain⟨ad,Ul,bt,bk,ap⟩:=Jw ra;have W:=(Jw rb).1;have Uc:=Se la O w;obtain⟨A,G⟩:∃A,A=w.alloc (.cells (cellsOf .i64 (List.replicate la 0)).toArray 3):=⟨_,rfl⟩;have Qv:Bl w A:=by rw[G];exact Ba w _
 have Qw:EB A w.heap.size (List.replicate la 0):=by rw[G];exact EB.made (BE w _)
 rw[<-G]at Uc;have P:=Y (IM.start (Je 10000 m) n);rw[<-ad]at P;have HF:=Y λQ r (h:IM (Je 10000 m) n 0 r Q)=>h.fin (m:=m) rfl;have xa:=Ju (B:=10000) O m;have Uk:=Y (show EP (n:Int)<=1000000000 by unfold EP;rw[AK,<-W];omega);generalize Je 10000 m=ds at *;obtain⟨Qq,H1,X,Qy⟩:=Dy ad ap rb W;clear ad ap G ra rb W;go_enter Tryz.func184,Tryz.ntmps184
 go_wp2_with fail
 go_loopw [7,8] (λrv iv wr=>∃(k r:Nat) (Q:List Nat) (o:Option Addr) (lr cr:Nat),iv=.int .i64 ((k:Int)-1)/\k<=la/\rv=C o lr cr/\Hid (RN wr (C o lr cr) r)/\r<n/\EB wr w.heap.size Q/\Hid (IM ds n k r Q)/\Bl w wr)
  (λ_ iv _=>(intOf iv+1).toNat)
 case atStart=>exact⟨la,0,List.replicate la 0,none,0,0,rfl,Aa _,rfl,Y (by unfold RN;rw[JH];exact Row.nil _ _),O,Qw,P,Qv⟩
 case round=>
  clear P Qw Qv Uc;obtain⟨k,r,Q,o,lr,cr,rfl,hk,rfl,x,ce,hA,l,hB⟩:=hrel;cases k with
  |zero=>
   obtain⟨f1,f2⟩:=HF.o Q r l.o;have Uj:=Y f2;have Ui:Q.length=la:=by rw[l.o.1,Qq.o]
   have Qe:Row .i64 wr (C (some ⟨w.heap.size,0,none⟩) la la) Q:=by
    have D:=hA.row 0 la la O (Aa _) O O;rwa[AW,Ac O]at D
   have g:=Y (Ku _ Q wr Qe);rw[f1]at g;clear f1 f2 Qe;go_wp2_with(go_at_call 148;refine g.o.mono ?_;rintro e w2 ⟨u,rfl,K,e2⟩;obtain⟨ua,uc,rfl⟩:=RN.form K;have e3:=e2.symm;subst e3;clear e2)
   exact A0 (v:=.tuple #[C ua (Je 10000 (m/n)).length uc,C o lr cr]) (by simp[results,Tryz.results184,go_sem]) rfl ⟨_,_,rfl,K,by rw[<-Uj.o];exact x.o,hB⟩
  |succ k=>
   obtain⟨ab,ao,rfl,az,an⟩:=H1.o k O;have e0:(((k+1:Nat):Int)-1)=(k:Int):=O
   rw[e0];have bh:wr.cell? ⟨ab,ao+k,none⟩=some (.int .i64 (ds[k]?.getD 0:Nat)):=(hB.cell (p:=⟨ab,ao+k,none⟩) az).trans an;have hd:=xa.getD O k;obtain⟨E,ax⟩:=l.o.step (by rw[<-Qq.o];omega) rfl O hd;have z:=Y ax;have Qp:=Y (eV (r:=r) hd);have bn:lr<=100000001:=by
    have D:=(Jw x.o).1;have h2:(Je 10000 r).length<=(Je 10000 n).length:=by
     rcases AQ (Je 10000 n).length (Je 10000 r).length with h|h
     . have:=Xc O h;omega
     . exact h
    have:=Qy.o;omega
   clear ax an e0;generalize ds[k]?.getD 0=d at *;obtain⟨g',l',c',w2,aj,aq,bi,ak⟩:=eT d 43 wr o lr cr _ x.o O;have g:=Y (eS _ _ _ _ _ aq);rw[Qp.o]at g;go_upto_region 8 with(at_builtin;refine BU _ rfl _ _ 43 43 rfl _ _ rfl rfl _ _ aj ?_)
   obtain⟨T,ai⟩:=ex (d+10000*r);rw[ai]at E z g Qp;clear ai aj aq;have R:Bl w w2:=Bt hB ak;have Ua:=hA.below ak;have bj:w.heap.size<wr.heap.size:=hA.lt;have Ui:Q.length=la:=by rw[l.o.1,Qq.o]
   have U:Q[k]?.getD 0=0:=l.o.2.2.2.2 k O;go_upto_region 9 with(go_at_call 148;refine g.o.mono ?_;rintro e cj ⟨l2,rfl,ae,rfl⟩)
   clear g x Qp;obtain⟨cm,t⟩:=ex (Xz T n:Int);have y:=Y (Od 10000 O _ _ (Je 10000 T) (Je 10000 n) _ ae (RN.below X.o R) (Ju O _) (Ju O _) (Xb O _) (Xb O _));rw[Jq O,Jq O,t]at y;by_cases F:T<n
   . rw[Hr F]at t;subst t;have HQ:=Y (show Q.set k (T/n)=Q by
      rw[Cv F];apply List.ext_getElem?;intro j;rw[List.getElem?_set];split
      . rename_i e;subst e;rw[BC O,Af O];rw[Af (show k<Q.length by omega)]at U;simp only[FN]at U;rw[U]
      . rfl)
     have HM:=Y (CA F);have wk:IntKind.i64.wrap ((k:Int)-1)=(k:Int)-1:=IntWalk.i64_in _ O;go_wp2_with(go_at_call 146;refine y.o.mono ?_;rintro e w3 ⟨rfl,i⟩)
     have h3:=z.o;rw[HQ.o,HM.o]at h3;exact⟨⟨k,T,Q,_,l2,c',rfl,O,rfl,Y (RN.below ae i),O,Ua.below i,Y h3,Bt R i⟩,by simp[intOf]⟩
   . have bg:¬(cm<0):=by rw[<-t];unfold Xz;rw[BB F];split<;>omega
     have Ul:(0:Int)<=cm:=O
     clear t;go_upto_region 10 with(go_at_call 146;refine y.o.mono ?_;rintro e w3 ⟨rfl,i⟩)
     have Qs:Bl w w3:=Bt R i;have Qt:=RN.below (n:=T) ae i;have Qn:=Ua.below i;have Qr:=Y (cM _ l2 c' b lb cb T n w3 Qt (RN.below X.o Qs) E O);obtain⟨c,I⟩:=ex (T/n);rw[I]at Qr z;have bu:c<10000:=by rw[<-I,Ca O,At];exact E
     have Qu:=Y I;clear I;have ki:(k:Int)<(la:Int):=O
     have kn:k<la:=O
     go_upto_region 11 with(go_at_call 207;refine Qr.o.mono ?_;rintro e w4 ⟨rfl,s⟩;have kc:=(Qn.below s).cell (j:=k) O;have kf:=(Qn.below s).frozen k)
     obtain⟨f,q⟩:=ex (w4.setCell ⟨w.heap.size,k,none⟩ (.int .i64 (c:Nat)));have Qx:EB f w.heap.size (Q.set k c):=by rw[<-q];exact(Qn.below s).set k c
     have Uh:Bl w w4:=Bt Qs s;have Qo:Bl w f:=by rw[<-q];exact Uh.setCell (p:=⟨w.heap.size,k,none⟩) (Aa _) _
     have S:RN f (C (some ⟨g',0,none⟩) l2 c') T:=by
      rw[<-q];exact Row.grown (RN.below Qt s) (JI w4 w.heap.size k _) (λp e _=>by cases e;simp only;omega)
     rw[q];have ci:f.cell? ⟨w.heap.size,k,none⟩=some (.int .i64 (c:Nat)):=by
      have h:=Qx.cell (j:=k) (by rw[CB];omega);rw[h,Cf O];rfl
     clear q kc kf Qr y;have Ub:=Y (IF (c:Nat) O O f);have Qz:=Y λ(V:World) (u:Value) (h:Bl f V) (K:Jv V u (c:Nat))=>XJ (.agg #[C b lb cb,.bool false]) u (n:Nat) (c:Nat) V (K3 (RN.below (RN.below X.o Qo) h)) K Uk.o (My O O);go_upto_region 12 with(first
      |(go_at_call 94;refine Ub.o.mono ?_;rintro e w6 ⟨u6,rfl,L,am⟩;obtain⟨a6,l6,c6,rfl⟩:=L.form;obtain⟨s6,af⟩:=ex (decide (((c:Nat):Int)<0));rw[af]at L;rw[af];clear af)
      |(go_at_call 97;refine(Qz.o _ _ am L).mono ?_;rintro e N ⟨u7,rfl,M,bc⟩;obtain⟨a7,l7,c7,rfl⟩:=M.form;obtain⟨s7,ah⟩:=ex (decide (((n:Nat):Int)*((c:Nat):Int)<0));rw[ah]at M;rw[ah];clear ah))
     obtain⟨aw,rfl⟩:=Sg (n:=n*c) M (by rw[Fo]);have bx:=Jp.new N 45 (C a7 l7 c7) (.bool false);obtain⟨W8,H⟩:=ex (N.alloc (.cells #[C a7 l7 c7,.bool false] 45));have Qf:Bl f N:=Bt am bc;have Qa:Bl f W8:=by rw[<-H];exact Qf.alloc Qf.size _
     have Ug:RN W8 (C a7 l7 c7) (n*c):=by rw[<-H];exact RN.below aw (Ba N _)
     rw[H]at bx ⊢;have k0:=bx.c0;have Ue:n*c<=T:=by rw[<-Qu.o];exact Nat.mul_div_le T n
     have Ud:=Y (Mc _ _ T (n*c) W8 (RN.below S Qa) Ug Ue (by
      have D:=(Jw S).1;rw[<-D];have h2:=(Jw S).2.2.2.1;have h3:=YL (B:=10000) O (n:=T) (k:=(Je 10000 n).length+1) (by
       have h4:=YB (Ju (B:=10000) O n);rw[Jq O]at h4;rw[AZ];exact AP E (Ah _ (F6 h4)))
      have h5:=Qy.o;omega))
     have Uf:=Y (show T-n*c=T%n by rw[<-Qu.o];have:=Cl T n;omega);rw[Uf.o]at Ud;have Qm:=Ci T (show n>0 by omega);have wk:IntKind.i64.wrap ((k:Int)-1)=(k:Int)-1:=IntWalk.i64_in _ O;clear H Ub Qz L M aw Ue;go_wp2_with(go_at_call 147;refine Ud.o.mono ?_;rintro e w9 ⟨u9,rfl,ay,bf⟩;obtain⟨a9,c9,rfl⟩:=RN.form ay)
     have Qc:Bl f w9:=Bt Qa bf;exact⟨⟨k,T%n,Q.set k c,a9,_,c9,rfl,O,rfl,Y ay,Qm,Qx.below Qc,z,Bt Qo Qc⟩,by simp[intOf]⟩
