import Derived.Test.YtcahodpphikgnaaGreatDoorV29
import Derived.Lib.AppendZeros
set_option linter.all false
open Go.Value renaming slice->C
set_option maxRecDepth 99999
set_option maxHeartbeats 0
namespace Go.Proofs.YtcahodpphikgnaaGreatDoor
open List renaming replicate->OA
open Go.RowKit Go.Shelf
attribute [local go_sem] Oper.semAt_some
variable{Q ds:Ja}{d n r:Nat}
def Nd(ds:Ja)(k:Nat)(h:k<ds.length):val 10000 (ds.drop k)=ds[k]?.getD 0+10000*val 10000 (ds.drop (k+1)):=by
 rw[Az h,JF,Ag h];rfl
def X7(ds:Ja)(n k r:Nat)(Q:Ja):Prop:=
 Q.length=ds.length/\Bs 10000 Q/\r=val 10000 (ds.drop k)%n/\val 10000 Q=10000^k*(val 10000 (ds.drop k)/n)/\∀j,j<k->Q[j]?.getD 0=0
def X7.start(ds:Ja)(n:Nat):X7 ds n ds.length 0 (OA ds.length 0):=by
 refine⟨A1,λx b=>by rw[Cy b];omega,?_,?_,λj _=>?_⟩
 . rw[List.drop_length,D6,Nat.zero_mod]
 . rw[List.drop_length,D6,Nat.zero_div,AU,IH]
 . by_cases a:j<ds.length
   . rw[List.getElem?_replicate_of_lt a];rfl
   . rw[AB (by rw[A1];omega)];rfl
theorem X7.step{k:Nat}(h:X7 ds n (k+1) r Q)(s:k<ds.length)(q:d=ds[k]?.getD 0)(b:0<n)(w:d<10000):
 d+10000*r<n*10000/\X7 ds n k ((d+10000*r)%n) (Q.set k ((d+10000*r)/n)):=by
 obtain⟨m,o,e,p,f⟩:=h;have g:=Nd ds k s;rw[<-q]at g;have y:r<n:=by rw[e];exact At _ b
 have c:d+10000*r<n*10000:=Y
 have a:=GW (t:=val 10000 (ds.drop (k+1))) (k:=10000) (un0:=d) b;have i:val 10000 (ds.drop (k+1))*10000+d=val 10000 (ds.drop k):=by rw[g,Am,CK]
 have l:val 10000 (ds.drop (k+1))%n*10000+d=d+10000*r:=by rw[<-e,Am,CK]
 rw[i,l]at a;have u:(d+10000*r)/n<10000:=by rw[Ah b,Am 10000 n];exact c
 refine⟨c,by rw[List.length_set];exact m,o.set k u,a.2,?_,λj x=>?_⟩
 . have hs:=GC 10000 Q k ((d+10000*r)/n) Y;rw[f k Y,AU,AK]at hs;rw[hs,p,<-a.1,AV];generalize val 10000 (ds.drop (k+1))/n=v;grind
 . rw[Cw Y];exact f j Y
def X7.fin{m:Nat}(h:X7 ds n 0 r Q)(d:ds=Jb 10000 m):Jl Q=Jb 10000 (m/n)/\r=m%n:=by
 obtain⟨e,c,b,a,f⟩:=h;rw[Aq,d,Je Y]at b a;rw[Nat.pow_zero,CS]at a;exact⟨by rw[<-JC Y c,a],b⟩
def Nf(a:d<10000):Jl (d::Jb 10000 r)=Jb 10000 (d+10000*r):=by
 have h:=JC (B:=10000) Y (ds:=d::Jb 10000 r) (Bs.cons a (Jf Y r));rw[JF,Je Y]at h;exact h.symm
def Ir(a:N8)(c ca:Nat)(b:N8)(lb F m n:Nat)(w:World)(ra:RN w (C a c ca) m)(rb:RN w (C b lb F) n)(hn:n≠0)(bm:c<=100000000000)(bn:lb<=100000000000):
 Calls Tryz.prog 92 #[C a c ca,C b lb F] w λe w'=>∃u v,e=.returned (.tuple #[u,v])/\RN w' u (m/n)/\RN w' v (m%n)/\Bl w w':=by
 obtain⟨aa,Ul,bt,bk,ap⟩:=Jm ra;have Qk:=(Jm rb).1;have Uc:=IG c Y w;obtain⟨E,K⟩:∃E,E=w.alloc (.cells (cellsOf .i64 (OA c 0)).toArray 3):=⟨_,J⟩;have Qv:Bl w E:=by rw[K];exact Ba w _
 have Qw:C3 E w.heap.size (OA c 0):=by rw[K];exact C3.made (BD w _)
 rw[<-K]at Uc;have U:=Z (X7.start (Jb 10000 m) n);rw[<-aa]at U;have HF:=Z λQ r (h:X7 (Jb 10000 m) n 0 r Q)=>h.fin (m:=m) J;have xa:=Jf (B:=10000) Y m;have Uk:=Z (show C8 (n:Int)<=400000000000 by unfold C8;rw[Cd,<-Qk];omega);generalize Jb 10000 m=ds at *;obtain⟨Qq,H1,Ql,Qy⟩:=Dh aa ap rb Qk;clear aa ap K ra rb Qk;go_enter Tryz.func92,Tryz.ntmps92
 go_wp2_with fail
 go_loopw [7,8] (λrv iv wr=>∃(k r:Nat) (Q:Ja) (q:N8) (lr s:Nat),iv=.int .i64 ((k:Int)-1)/\k<=c/\rv=C q lr s/\Hid (RN wr (C q lr s) r)/\r<n/\C3 wr w.heap.size Q/\Hid (X7 ds n k r Q)/\Bl w wr) (λ_ iv _=>(intOf iv+1).toNat)
 case atStart=>exact⟨c,0,OA c 0,none,0,0,J,Aa _,J,Z (by unfold RN;rw[Jq];exact Row.nil _ _),Y,Qw,U,Qv⟩
 case round=>
  clear U Qw Qv Uc;obtain⟨k,r,Q,q,lr,s,rfl,hk,rfl,z,bz,hA,o,hB⟩:=hrel;cases k with
  |zero=>
   obtain⟨f1,f2⟩:=HF.o Q r o.o;have Uj:=Z f2;have Ui:Q.length=c:=by rw[o.o.1,Qq.o]
   have Qe:Row .i64 wr (C (some ⟨w.heap.size,0,none⟩) c c) Q:=by
    have G:=hA.row 0 c c Y (Aa _) Y Y;rwa[Aq,Ab Y]at G
   have i:=Z (Du _ Q wr Qe);rw[f1]at i;clear f1 f2 Qe;go_wp2_with(go_at_call 56;refine i.o.mono ?_;rintro e w2 ⟨u,rfl,N,e2⟩;obtain⟨ua,uc,rfl⟩:=RN.form N;have e3:=e2.symm;subst e3;clear e2)
   exact BB (v:=.tuple #[C ua (Jb 10000 (m/n)).length uc,C q lr s]) (by simp[results,Tryz.results92,go_sem]) J ⟨_,_,J,N,by rw[<-Uj.o];exact z.o,hB⟩
  |succ k=>
   obtain⟨ab,ao,rfl,bc,an⟩:=H1.o k Y;have e0:(((k+1:Nat):Int)-1)=(k:Int):=Y
   rw[e0];have bh:wr.cell? ⟨ab,ao+k,none⟩=some (.int .i64 (ds[k]?.getD 0:Nat)):=(hB.cell (p:=⟨ab,ao+k,none⟩) bc).trans an;have hd:=xa.getD Y k;obtain⟨H,ay⟩:=o.o.step (by rw[<-Qq.o];omega) J Y hd;have D:=Z ay;have Qp:=Z (Nf (r:=r) hd);have bp:lr<=100000000001:=by
    have G:=(Jm z.o).1;have h2:(Jb 10000 r).length<=(Jb 10000 n).length:=by
     rcases As (Jb 10000 n).length (Jb 10000 r).length with h|h
     . have:=J0 Y h;omega
     . exact h
    have:=Qy.o;omega
   clear ay an e0;generalize ds[k]?.getD 0=d at *;obtain⟨g',l',c',w2,aj,aq,bi,ak⟩:=Nc d 30 wr q lr s _ z.o Y;have i:=Z (Nb _ _ _ _ _ aq);rw[Qp.o]at i;go_upto_region 8 with(at_builtin;refine Lib.wpList_append_run _ J _ _ 30 30 J _ _ J J _ _ aj ?_)
   obtain⟨T,ai⟩:=ex (d+10000*r);rw[ai]at H D i Qp;clear ai aj aq;have W:Bl w w2:=Bt hB ak;have Ua:=hA.below ak;have bj:w.heap.size<wr.heap.size:=hA.lt;have Ui:Q.length=c:=by rw[o.o.1,Qq.o]
   have Qj:Q[k]?.getD 0=0:=o.o.2.2.2.2 k Y;go_upto_region 9 with(go_at_call 56;refine i.o.mono ?_;rintro e cg ⟨l2,rfl,ad,rfl⟩)
   clear i z Qp;obtain⟨cm,y⟩:=ex (J6 T n:Int);have A:=Z (FN 10000 Y _ _ (Jb 10000 T) (Jb 10000 n) _ ad (RN.below Ql.o W) (Jf Y _) (Jf Y _) (JM Y _) (JM Y _));rw[Je Y,Je Y,y]at A;by_cases I:T<n
   . rw[YM I]at y;subst y;have HQ:=Z (show Q.set k (T/n)=Q by
      rw[AE I];apply List.ext_getElem?;intro j;rw[List.getElem?_set];split
      . rename_i e;subst e;rw[BW Y,Ag Y];rw[Ag (show k<Q.length by omega)]at Qj;simp only[Option.getD_some]at Qj;rw[Qj]
      . rfl)
     have HM:=Z (AZ I);have wk:IntKind.i64.wrap ((k:Int)-1)=(k:Int)-1:=IntWalk.i64_in _ Y;go_wp2_with(go_at_call 99;refine A.o.mono ?_;rintro e w3 ⟨rfl,l⟩)
     have h3:=D.o;rw[HQ.o,HM.o]at h3;exact⟨⟨k,T,Q,_,l2,c',J,Y,J,Z (RN.below ad l),Y,Ua.below l,Z h3,Bt W l⟩,by simp[intOf]⟩
   . have bg:¬(cm<0):=by rw[<-y];unfold J6;rw[BZ I];split<;>omega
     have Ul:(0:Int)<=cm:=Y
     clear y;go_upto_region 10 with(go_at_call 99;refine A.o.mono ?_;rintro e w3 ⟨rfl,l⟩)
     have Qs:Bl w w3:=Bt W l;have Qt:=RN.below (n:=T) ad l;have Qn:=Ua.below l;have Qr:=Z (MX _ l2 c' b lb F T n w3 Qt (RN.below Ql.o Qs) H Y);obtain⟨f,M⟩:=ex (T/n);rw[M]at Qr D;have bu:f<10000:=by rw[<-M,Ah Y,Am];exact H
     have Qu:=Z M;clear M;have ki:(k:Int)<(c:Int):=Y
     have kn:k<c:=Y
     go_upto_region 11 with(go_at_call 121;refine Qr.o.mono ?_;rintro e w4 ⟨rfl,x⟩;have kc:=(Qn.below x).cell (j:=k) Y;have kf:=(Qn.below x).frozen k)
     obtain⟨g,t⟩:=ex (w4.setCell ⟨w.heap.size,k,none⟩ (.int .i64 (f:Nat)));have Qx:C3 g w.heap.size (Q.set k f):=by rw[<-t];exact(Qn.below x).set k f
     have Uh:Bl w w4:=Bt Qs x;have Qo:Bl w g:=by rw[<-t];exact Uh.setCell (p:=⟨w.heap.size,k,none⟩) (Aa _) _
     have X:RN g (C (some ⟨g',0,none⟩) l2 c') T:=by
      rw[<-t];exact Row.grown (RN.below Qt x) (JD w4 w.heap.size k _) (λp e _=>by cases e;simp only;omega)
     rw[t];have ce:g.cell? ⟨w.heap.size,k,none⟩=some (.int .i64 (f:Nat)):=by
      have h:=Qx.cell (j:=k) (by rw[List.length_set];omega);rw[h,List.getElem?_set_self Y];rfl
     clear t kc kf Qr A;have Ub:=Z (Dv (f:Nat) Y Y g);have Qz:=Z λ(V:World) (u:Value) (h:Bl g V) (N:Jk V u (f:Nat))=>Yd (.agg #[C b lb F,.bool false]) u (n:Nat) (f:Nat) V (Dz (RN.below (RN.below Ql.o Qo) h)) N Uk.o (Ew Y Y);go_upto_region 12 with(first
      |(go_at_call 46;refine Ub.o.mono ?_;rintro e w6 ⟨u6,rfl,P,am⟩;obtain⟨a6,l6,c6,rfl⟩:=P.form;obtain⟨s6,ae⟩:=ex (decide (((f:Nat):Int)<0));rw[ae]at P;rw[ae];clear ae)
      |(go_at_call 67;refine(Qz.o _ _ am P).mono ?_;rintro e S ⟨u7,rfl,R,bd⟩;obtain⟨a7,l7,c7,rfl⟩:=R.form;obtain⟨s7,ah⟩:=ex (decide (((n:Nat):Int)*((f:Nat):Int)<0));rw[ah]at R;rw[ah];clear ah))
     obtain⟨aw,rfl⟩:=II (n:=n*f) R (by rw[CM]);have bx:=Jd.new S 32 (C a7 l7 c7) (.bool false);obtain⟨W8,L⟩:=ex (S.alloc (.cells #[C a7 l7 c7,.bool false] 32));have Qf:Bl g S:=Bt am bd;have Qa:Bl g W8:=by rw[<-L];exact Qf.alloc Qf.size _
     have Ug:RN W8 (C a7 l7 c7) (n*f):=by rw[<-L];exact RN.below aw (Ba S _)
     rw[L]at bx ⊢;have k0:=bx.c0;have Ue:n*f<=T:=by rw[<-Qu.o];exact Nat.mul_div_le T n
     have Ud:=Z (Eb _ _ T (n*f) W8 (RN.below X Qa) Ug Ue (by
      have G:=(Jm X).1;rw[<-G];have h2:=(Jm X).2.2.2.1;have h3:=JG (B:=10000) Y (n:=T) (k:=(Jb 10000 n).length+1) (by
       have h4:=JL (Jf (B:=10000) Y n);rw[Je Y]at h4;rw[AV];exact Ao H (Ae _ (Nat.le_of_lt h4)))
      have h5:=Qy.o;omega))
     have Uf:=Z (show T-n*f=T%n by rw[<-Qu.o];have:=Ay T n;omega);rw[Uf.o]at Ud;have Qm:=At T (show n>0 by omega);have wk:IntKind.i64.wrap ((k:Int)-1)=(k:Int)-1:=IntWalk.i64_in _ Y;clear L Ub Qz P R aw Ue;go_wp2_with(go_at_call 94;refine Ud.o.mono ?_;rintro e w9 ⟨u9,rfl,az,bf⟩;obtain⟨a9,c9,rfl⟩:=RN.form az)
     have Qc:Bl g w9:=Bt Qa bf;exact⟨⟨k,T%n,Q.set k f,a9,_,c9,J,Y,J,Z az,Qm,Qx.below Qc,D,Bt Qo Qc⟩,by simp[intOf]⟩
