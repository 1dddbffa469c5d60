import Derived.Test.YtcahejkcdcjjgaaGreatDoorV27
import Derived.Lib.AppendZeros
set_option linter.all false
open Go.Value renaming slice->C
set_option maxRecDepth 99999
set_option maxHeartbeats 0
namespace Go.Proofs.YtcahejkcdcjjgaaGreatDoor
open List renaming replicate->WC
open Go.RowKit Go.Shelf
attribute [local go_sem] Oper.semAt_some
def Bo:=@Lib.wpList_append_run
variable{Q ds:Ja}{d n r:Nat}
def Ti(ds:Ja)(k:Nat)(h:k<ds.length):val 10000 (ds.drop k)=ds[k]?.getD 0+10000*val 10000 (ds.drop (k+1)):=by
 rw[AH h,JS,Am h];rfl
def Et(ds:Ja)(n k r:Nat)(Q:Ja):Prop:=
 Q.length=ds.length/\DK 10000 Q/\r=val 10000 (ds.drop k)%n/\val 10000 Q=10000^k*(val 10000 (ds.drop k)/n)/\∀j,j<k->Q[j]?.getD 0=0
def Et.start(ds:Ja)(n:Nat):Et ds n ds.length 0 (WC ds.length 0):=by
 refine⟨AG,λx b=>by rw[CL b];omega,?_,?_,λj _=>?_⟩
 . rw[List.drop_length,GH,Nat.zero_mod]
 . rw[List.drop_length,GH,Nat.zero_div,Cc,NO]
 . by_cases a:j<ds.length
   . rw[List.getElem?_replicate_of_lt a];rfl
   . rw[AM (by rw[AG];omega)];rfl
theorem Et.step{k:Nat}(h:Et ds n (k+1) r Q)(s:k<ds.length)(q:d=ds[k]?.getD 0)(b:0<n)(v:d<10000):
 d+10000*r<n*10000/\Et ds n k ((d+10000*r)%n) (Q.set k ((d+10000*r)/n)):=by
 obtain⟨m,o,e,p,f⟩:=h;have g:=Ti ds k s;rw[<-q]at g;have x:r<n:=by rw[e];exact AN _ b
 have c:d+10000*r<n*10000:=O
 have a:=Lz (t:=val 10000 (ds.drop (k+1))) (k:=10000) (un0:=d) b;have i:val 10000 (ds.drop (k+1))*10000+d=val 10000 (ds.drop k):=by rw[g,AE,CP]
 have l:val 10000 (ds.drop (k+1))%n*10000+d=d+10000*r:=by rw[<-e,AE,CP]
 rw[i,l]at a;have u:(d+10000*r)/n<10000:=by rw[Aw b,AE 10000 n];exact c
 refine⟨c,by rw[CI];exact m,o.set k u,a.2,?_,λj w=>?_⟩
 . have hs:=LC 10000 Q k ((d+10000*r)/n) O;rw[f k O,Cc,AX]at hs;rw[hs,p,<-a.1,Ca];generalize val 10000 (ds.drop (k+1))/n=A;grind
 . rw[CA O];exact f j O
def Et.fin{m:Nat}(h:Et ds n 0 r Q)(d:ds=Jb 10000 m):Jr Q=Jb 10000 (m/n)/\r=m%n:=by
 obtain⟨e,c,b,a,f⟩:=h;rw[AF,d,Jk O]at b a;rw[Nat.pow_zero,C4]at a;exact⟨by rw[<-JP O c,a],b⟩
def Tj(a:d<10000):Jr (d::Jb 10000 r)=Jb 10000 (d+10000*r):=by
 have h:=JP (B:=10000) O (ds:=d::Jb 10000 r) (DK.cons a (Jj O r));rw[JS,Jk O]at h;exact h.symm
def Nu(a:V8)(la ca:Nat)(b:V8)(lb E m n:Nat)(w:World)(ra:RN w (C a la ca) m)(rb:RN w (C b lb E) n)(hn:n≠0)(bz:la<=100000000000)(ce:lb<=100000000000):
 Calls Tryz.prog 157 #[C a la ca,C b lb E] w λe w'=>∃u v,e=.returned (.tuple #[u,v])/\RN w' u (m/n)/\RN w' v (m%n)/\Bl w w':=by
 obtain⟨ad,Ul,cj,bt,aq⟩:=Jn ra;have X:=(Jn rb).1;have Uc:=NN la O w;obtain⟨D,H⟩:∃D,D=w.alloc (.cells (cellsOf .i64 (WC la 0)).toArray 3):=⟨_,J⟩;have Qv:Bl w D:=by rw[H];exact Ba w _
 have Qw:Df D w.heap.size (WC la 0):=by rw[H];exact Df.made (BG w _)
 rw[<-H]at Uc;have R:=Z (Et.start (Jb 10000 m) n);rw[<-ad]at R;have HF:=Z λQ r (h:Et (Jb 10000 m) n 0 r Q)=>h.fin (m:=m) J;have xa:=Jj (B:=10000) O m;have Uk:=Z (show Dl (n:Int)<=400000000000 by unfold Dl;rw[Cb,<-X];omega);generalize Jb 10000 m=ds at *;obtain⟨Qq,H1,Ql,Qy⟩:=Dr ad aq rb X;clear ad aq H ra rb X;go_enter Tryz.func157,Tryz.ntmps157
 go_wp2_with fail
 go_loopw [7,8] (λrv iv wr=>∃(k r:Nat) (Q:Ja) (o:V8) (lr q:Nat),iv=.int .i64 ((k:Int)-1)/\k<=la/\rv=C o lr q/\Hid (RN wr (C o lr q) r)/\r<n/\Df wr w.heap.size Q/\Hid (Et ds n k r Q)/\Bl w wr) (λ_ iv _=>(intOf iv+1).toNat)
 case atStart=>exact⟨la,0,WC la 0,none,0,0,J,Aa _,J,Z (by unfold RN;rw[Jw];exact Row.nil _ _),O,Qw,R,Qv⟩
 case round=>
  clear R Qw Qv Uc;obtain⟨k,r,Q,o,lr,q,rfl,hk,rfl,y,cn,hA,l,hB⟩:=hrel;cases k with
  |zero=>
   obtain⟨f1,f2⟩:=HF.o Q r l.o;have Uj:=Z f2;have Ui:Q.length=la:=by rw[l.o.1,Qq.o]
   have Qe:Row .i64 wr (C (some ⟨w.heap.size,0,none⟩) la la) Q:=by
    have F:=hA.row 0 la la O (Aa _) O O;rwa[AF,Ac O]at F
   have g:=Z (KL _ Q wr Qe);rw[f1]at g;clear f1 f2 Qe;go_wp2_with(go_at_call 140;refine g.o.mono ?_;rintro e w2 ⟨u,rfl,L,e2⟩;obtain⟨ua,uc,rfl⟩:=RN.form L;have e3:=e2.symm;subst e3;clear e2)
   exact BE (v:=.tuple #[C ua (Jb 10000 (m/n)).length uc,C o lr q]) (by simp[results,Tryz.results157,go_sem]) J ⟨_,_,J,L,by rw[<-Uj.o];exact y.o,hB⟩
  |succ k=>
   obtain⟨ab,ao,rfl,bg,ap⟩:=H1.o k O;have e0:(((k+1:Nat):Int)-1)=(k:Int):=O
   rw[e0];have bk:wr.cell? ⟨ab,ao+k,none⟩=some (.int .i64 (ds[k]?.getD 0:Nat)):=(hB.cell (p:=⟨ab,ao+k,none⟩) bg).trans ap;have hd:=xa.getD O k;obtain⟨hT,bd⟩:=l.o.step (by rw[<-Qq.o];omega) J O hd;have A:=Z bd;have Qp:=Z (Tj (r:=r) hd);have cg:lr<=100000000001:=by
    have F:=(Jn y.o).1;have h2:(Jb 10000 r).length<=(Jb 10000 n).length:=by
     rcases AD (Jb 10000 n).length (Jb 10000 r).length with h|h
     . have:=Yj O h;omega
     . exact h
    have:=Qy.o;omega
   clear bd ap e0;generalize ds[k]?.getD 0=d at *;obtain⟨g',l',c',w2,ak,az,bm,am⟩:=Th d 45 wr o lr q _ y.o O;have g:=Z (Tg _ _ _ _ _ az);rw[Qp.o]at g;go_upto_region 8 with(at_builtin;refine Bo _ J _ _ 45 45 J _ _ J J _ _ ak ?_)
   obtain⟨T,aj⟩:=ex (d+10000*r);rw[aj]at hT A g Qp;clear aj ak az;have S:Bl w w2:=Bt hB am;have Ua:=hA.below am;have bn:w.heap.size<wr.heap.size:=hA.lt;have Ui:Q.length=la:=by rw[l.o.1,Qq.o]
   have W:Q[k]?.getD 0=0:=l.o.2.2.2.2 k O;go_upto_region 9 with(go_at_call 140;refine g.o.mono ?_;rintro e cz ⟨l2,rfl,ae,rfl⟩)
   clear g y Qp;obtain⟨cm,x⟩:=ex (Yy T n:Int);have z:=Z (KM 10000 O _ _ (Jb 10000 T) (Jb 10000 n) _ ae (RN.below Ql.o S) (Jj O _) (Jj O _) (J4 O _) (J4 O _));rw[Jk O,Jk O,x]at z;by_cases G:T<n
   . rw[XF G]at x;subst x;have HQ:=Z (show Q.set k (T/n)=Q by
      rw[AV G];apply List.ext_getElem?;intro j;rw[List.getElem?_set];split
      . rename_i e;subst e;rw[BR O,Am O];rw[Am (show k<Q.length by omega)]at W;simp only[Option.getD_some]at W;rw[W]
      . rfl)
     have HM:=Z (Ce G);have bu:(k:Int)-1=((k:Int)-1):=rfl;have wk:IntKind.i64.wrap ((k:Int)-1)=(k:Int)-1:=IntWalk.i64_in _ O;go_wp2_with(go_at_call 143;refine z.o.mono ?_;rintro e w3 ⟨rfl,i⟩)
     have h3:=A.o;rw[HQ.o,HM.o]at h3;exact⟨⟨k,T,Q,_,l2,c',J,O,J,Z (RN.below ae i),O,Ua.below i,Z h3,Bt S i⟩,by simp[intOf]⟩
   . have bj:¬(cm<0):=by rw[<-x];unfold Yy;rw[BL G];split<;>omega
     have Ul:(0:Int)<=cm:=O
     clear x;go_upto_region 10 with(go_at_call 143;refine z.o.mono ?_;rintro e w3 ⟨rfl,i⟩)
     have Qs:Bl w w3:=Bt S i;have Qt:=RN.below (n:=T) ae i;have Qn:=Ua.below i;have Qr:=Z (Sb _ l2 c' b lb E T n w3 Qt (RN.below Ql.o Qs) hT O);obtain⟨c,K⟩:=ex (T/n);rw[K]at Qr A;have ck:c<10000:=by rw[<-K,Aw O,AE];exact hT
     have Qu:=Z K;clear K;have ki:(k:Int)<(la:Int):=O
     have kn:k<la:=O
     go_upto_region 11 with(go_at_call 183;refine Qr.o.mono ?_;rintro e w4 ⟨rfl,t⟩;have kc:=(Qn.below t).cell (j:=k) O;have kf:=(Qn.below t).frozen k)
     obtain⟨f,s⟩:=ex (w4.setCell ⟨w.heap.size,k,none⟩ (.int .i64 (c:Nat)));have Qx:Df f w.heap.size (Q.set k c):=by rw[<-s];exact(Qn.below t).set k c
     have Uh:Bl w w4:=Bt Qs t;have Qo:Bl w f:=by rw[<-s];exact Uh.setCell (p:=⟨w.heap.size,k,none⟩) (Aa _) _
     have U:RN f (C (some ⟨g',0,none⟩) l2 c') T:=by
      rw[<-s];exact Row.grown (RN.below Qt t) (Jy w4 w.heap.size k _) (λp e _=>by cases e;simp only;omega)
     rw[s];have co:f.cell? ⟨w.heap.size,k,none⟩=some (.int .i64 (c:Nat)):=by
      have h:=Qx.cell (j:=k) (by rw[CI];omega);rw[h,CO O];rfl
     clear s kc kf Qr z;have Ub:=Z (Ew (c:Nat) O O f);have Qz:=Z λ(V:World) (u:Value) (h:Bl f V) (L:Jp V u (c:Nat))=>Xk (.agg #[C b lb E,.bool false]) u (n:Nat) (c:Nat) V (F2 (RN.below (RN.below Ql.o Qo) h)) L Uk.o (IU O O);go_upto_region 12 with(first
      |(go_at_call 93;refine Ub.o.mono ?_;rintro e w6 ⟨u6,rfl,M,an⟩;obtain⟨a6,l6,c6,rfl⟩:=M.form;obtain⟨s6,ah⟩:=ex (decide (((c:Nat):Int)<0));rw[ah]at M;rw[ah];clear ah)
      |(go_at_call 109;refine(Qz.o _ _ an M).mono ?_;rintro e P ⟨u7,rfl,N,bh⟩;obtain⟨a7,l7,c7,rfl⟩:=N.form;obtain⟨s7,ai⟩:=ex (decide (((n:Nat):Int)*((c:Nat):Int)<0));rw[ai]at N;rw[ai];clear ai))
     obtain⟨bc,rfl⟩:=NP (n:=n*c) N (by rw[C0]);have bx:=Ji.new P 47 (C a7 l7 c7) (.bool false);obtain⟨W8,I⟩:=ex (P.alloc (.cells #[C a7 l7 c7,.bool false] 47));have Qf:Bl f P:=Bt an bh;have Qa:Bl f W8:=by rw[<-I];exact Qf.alloc Qf.size _
     have Ug:RN W8 (C a7 l7 c7) (n*c):=by rw[<-I];exact RN.below bc (Ba P _)
     rw[I]at bx ⊢;obtain⟨k0,k1⟩:=bx.cp;have Ue:n*c<=T:=by rw[<-Qu.o];exact Nat.mul_div_le T n
     have Ud:=Z (Hm _ _ T (n*c) W8 (RN.below U Qa) Ug Ue (by
      have F:=(Jn U).1;rw[<-F];have h2:=(Jn U).2.2.2.1;have h3:=JE (B:=10000) O (n:=T) (k:=(Jb 10000 n).length+1) (by
       have h4:=J1 (Jj (B:=10000) O n);rw[Jk O]at h4;rw[Ca];exact Al hT (Ae _ (Nat.le_of_lt h4)))
      have h5:=Qy.o;omega))
     have Uf:=Z (show T-n*c=T%n by rw[<-Qu.o];have:=AQ T n;omega);rw[Uf.o]at Ud;have Qm:=AN T (show n>0 by omega);have wk:IntKind.i64.wrap ((k:Int)-1)=(k:Int)-1:=IntWalk.i64_in _ O;clear I Ub Qz M N bc Ue;go_wp2_with(go_at_call 144;refine Ud.o.mono ?_;rintro e w9 ⟨u9,rfl,bf,bi⟩;obtain⟨a9,c9,rfl⟩:=RN.form bf)
     have Qc:Bl f w9:=Bt Qa bi;exact⟨⟨k,T%n,Q.set k c,a9,_,c9,J,O,J,Z bf,Qm,Qx.below Qc,A,Bt Qo Qc⟩,by simp[intOf]⟩
