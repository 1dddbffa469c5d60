import Derived.Test.YtakpoihdghihmaaGreatDoorU27
import Derived.Lib.AppendZeros
set_option linter.all false
open Go.Value renaming slice->C
set_option maxRecDepth 99999
set_option maxHeartbeats 0
namespace Go.Proofs.YtakpoihdghihmaaGreatDoor
open List renaming replicate->nL
open Go.RowKit Go.Shelf
attribute [local go_sem] Oper.semAt_some
def BS:=@Lib.wpList_append_run
variable{Q ds:m4}{d n r:Nat}
def fI(ds:m4)(k:Nat)(h:k<ds.length):val 10000 (ds.drop k)=ds[k]?.getD 0+10000*val 10000 (ds.drop (k+1)):=by
 rw[Cg h,Yi,Am h];rfl
def Hl(ds:m4)(n k r:Nat)(Q:m4):Prop:=
 Q.length=ds.length/\DJ 10000 Q/\r=val 10000 (ds.drop k)%n/\val 10000 Q=10000^k*(val 10000 (ds.drop k)/n)/\∀j,j<k->Q[j]?.getD 0=0
def Hl.start(ds:m4)(n:Nat):Hl ds n ds.length 0 (nL ds.length 0):=by
 refine⟨AW,λx b=>by rw[Fz b];omega,?_,?_,λj _=>?_⟩
 . rw[List.drop_length,LH,Nat.zero_mod]
 . rw[List.drop_length,LH,Nat.zero_div,Cz,Su]
 . by_cases a:j<ds.length
   . rw[List.getElem?_replicate_of_lt a];rfl
   . rw[A8 (by rw[AW];omega)];rfl
theorem Hl.step{k:Nat}(h:Hl ds n (k+1) r Q)(u:k<ds.length)(s:d=ds[k]?.getD 0)(b:0<n)(v:d<10000):
 d+10000*r<n*10000/\Hl ds n k ((d+10000*r)%n) (Q.set k ((d+10000*r)/n)):=by
 obtain⟨o,p,e,q,f⟩:=h;have i:=fI ds k u;rw[<-s]at i;have x:r<n:=by rw[e];exact A9 _ b
 have c:d+10000*r<n*10000:=O
 have a:=RY (t:=val 10000 (ds.drop (k+1))) (k:=10000) (un0:=d) b;have l:val 10000 (ds.drop (k+1))*10000+d=val 10000 (ds.drop k):=by rw[i,AD,FF]
 have m:val 10000 (ds.drop (k+1))%n*10000+d=d+10000*r:=by rw[<-e,AD,FF]
 rw[l,m]at a;have hq:(d+10000*r)/n<10000:=by rw[AM b,AD 10000 n];exact c
 refine⟨c,by rw[Fg];exact o,p.set k hq,a.2,?_,λj w=>?_⟩
 . have g:=PI 10000 Q k ((d+10000*r)/n) O;rw[f k O,Cz,Cl]at g;rw[g,q,<-a.1,Cm];generalize val 10000 (ds.drop (k+1))/n=A;grind
 . rw[Fb O];exact f j O
def Hl.fin{m:Nat}(h:Hl ds n 0 r Q)(d:ds=Jd 10000 m):Jz Q=Jd 10000 (m/n)/\r=m%n:=by
 obtain⟨e,c,b,a,f⟩:=h;rw[Ca,d,Jq O]at b a;rw[Nat.pow_zero,FD]at a;exact⟨by rw[<-Yd O c,a],b⟩
def fJ(a:d<10000):Jz (d::Jd 10000 r)=Jd 10000 (d+10000*r):=by
 have h:=Yd (B:=10000) O (ds:=d::Jd 10000 r) (DJ.cons a (Jr O r));rw[Yi,Jq O]at h;exact h.symm
def TS(a:nJ)(la ca:Nat)(b:nJ)(lb cb m n:Nat)(w:World)(ra:RN w (C a la ca) m)(rb:RN w (C b lb cb) n)(hn:n≠0)(ce:la<=100000000000)(cj:lb<=100000000000):
 Calls Tryz.prog 184 #[C a la ca,C b lb cb] w λe w'=>∃u v,e=.returned (.tuple #[u,v])/\RN w' u (m/n)/\RN w' v (m%n)/\Bl w w':=by
 obtain⟨ad,Ul,cn,bt,aq⟩:=Ju ra;have U:=(Ju rb).1;have Uc:=Ss la O w;obtain⟨A,F⟩:∃A,A=w.alloc (.cells (cellsOf .i64 (nL la 0)).toArray 3):=⟨_,J⟩;have Qv:Bl w A:=by rw[F];exact Ba w _
 have Qw:Dm A w.heap.size (nL la 0):=by rw[F];exact Dm.made (BB w _)
 rw[<-F]at Uc;have N:=Y (Hl.start (Jd 10000 m) n);rw[<-ad]at N;have HF:=Y λQ r (h:Hl (Jd 10000 m) n 0 r Q)=>h.fin (m:=m) J;have xa:=Jr (B:=10000) O m;have Uk:=Y (show D3 (n:Int)<=400000000000 by unfold D3;rw[AA,<-U];omega);generalize Jd 10000 m=ds at *;obtain⟨Qq,H1,W,Qy⟩:=Di ad aq rb U;clear ad aq F ra rb U;go_enter Tryz.func184,Tryz.ntmps184
 go_wp2_with fail
 go_loopw [7,8] (λrv iv wr=>∃(k r:Nat) (Q:m4) (o:nJ) (lr cr:Nat),iv=.int .i64 ((k:Int)-1)/\k<=la/\rv=C o lr cr/\Hid (RN wr (C o lr cr) r)/\r<n/\Dm wr w.heap.size Q/\Hid (Hl ds n k r Q)/\Bl w wr) (λ_ iv _=>(intOf iv+1).toNat)
 case atStart=>exact⟨la,0,nL la 0,none,0,0,J,Aa _,J,Y (by unfold RN;rw[JG];exact Row.nil _ _),O,Qw,N,Qv⟩
 case round=>
  clear N Qw Qv Uc;obtain⟨k,r,Q,o,lr,cr,rfl,hk,rfl,x,de,hA,l,hB⟩:=hrel;cases k with
  |zero=>
   obtain⟨f1,f2⟩:=HF.o Q r l.o;have Uj:=Y f2;have Ui:Q.length=la:=by rw[l.o.1,Qq.o]
   have Qe:Row .i64 wr (C (some ⟨w.heap.size,0,none⟩) la la) Q:=by
    have D:=hA.row 0 la la O (Aa _) O O;rwa[Ca,Ad O]at D
   have g:=Y (KX _ Q wr Qe);rw[f1]at g;clear f1 f2 Qe;go_wp2_with(go_at_call 148;refine g.o.mono ?_;rintro e w2 ⟨u,rfl,I,e2⟩;obtain⟨ua,uc,rfl⟩:=RN.form I;have e3:=e2.symm;subst e3;clear e2)
   exact A0 (v:=.tuple #[C ua (Jd 10000 (m/n)).length uc,C o lr cr]) (by simp[results,Tryz.results184,go_sem]) J ⟨_,_,J,I,by rw[<-Uj.o];exact x.o,hB⟩
  |succ k=>
   obtain⟨ab,ao,rfl,bg,ap⟩:=H1.o k O;have e0:(((k+1:Nat):Int)-1)=(k:Int):=O
   rw[e0];have bk:wr.cell? ⟨ab,ao+k,none⟩=some (.int .i64 (ds[k]?.getD 0:Nat)):=(hB.cell (p:=⟨ab,ao+k,none⟩) bg).trans ap;have hd:=xa.getD O k;obtain⟨hT,bc⟩:=l.o.step (by rw[<-Qq.o];omega) J O hd;have z:=Y bc;have Qp:=Y (fJ (r:=r) hd);have ck:lr<=100000000001:=by
    have D:=(Ju x.o).1;have h2:(Jd 10000 r).length<=(Jd 10000 n).length:=by
     rcases AQ (Jd 10000 n).length (Jd 10000 r).length with h|h
     . have:=Y4 O h;omega
     . exact h
    have:=Qy.o;omega
   clear bc ap e0;generalize ds[k]?.getD 0=d at *;obtain⟨g',l',c',w2,ak,ay,bm,am⟩:=fH d 43 wr o lr cr _ x.o O;have g:=Y (fG _ _ _ _ _ ay);rw[Qp.o]at g;go_upto_region 8 with(at_builtin;refine BS _ J _ _ 43 43 J _ _ J J _ _ ak ?_)
   obtain⟨T,aj⟩:=ex (d+10000*r);rw[aj]at hT z g Qp;clear aj ak ay;have P:Bl w w2:=Bt hB am;have Ua:=hA.below am;have bn:w.heap.size<wr.heap.size:=hA.lt;have Ui:Q.length=la:=by rw[l.o.1,Qq.o]
   have S:Q[k]?.getD 0=0:=l.o.2.2.2.2 k O;go_upto_region 9 with(go_at_call 148;refine g.o.mono ?_;rintro e di ⟨l2,rfl,ae,rfl⟩)
   clear g x Qp;obtain⟨cm,t⟩:=ex (Xt T n:Int);have y:=Y (OX 10000 O _ _ (Jd 10000 T) (Jd 10000 n) _ ae (RN.below W.o P) (Jr O _) (Jr O _) (Y3 O _) (Y3 O _));rw[Jq O,Jq O,t]at y;by_cases E:T<n
   . rw[Gz E]at t;subst t;have HQ:=Y (show Q.set k (T/n)=Q by
      rw[Cn E];apply List.ext_getElem?;intro j;rw[List.getElem?_set];split
      . rename_i e;subst e;rw[BG O,Am O];rw[Am (show k<Q.length by omega)]at S;simp only[Option.getD_some]at S;rw[S]
      . rfl)
     have HM:=Y (Ct E);have bu:(k:Int)-1=((k:Int)-1):=rfl;have wk:IntKind.i64.wrap ((k:Int)-1)=(k:Int)-1:=IntWalk.i64_in _ O;go_wp2_with(go_at_call 146;refine y.o.mono ?_;rintro e w3 ⟨rfl,i⟩)
     have h3:=z.o;rw[HQ.o,HM.o]at h3;exact⟨⟨k,T,Q,_,l2,c',J,O,J,Y (RN.below ae i),O,Ua.below i,Y h3,Bt P i⟩,by simp[intOf]⟩
   . have bj:¬(cm<0):=by rw[<-t];unfold Xt;rw[BD E];split<;>omega
     have Ul:(0:Int)<=cm:=O
     clear t;go_upto_region 10 with(go_at_call 146;refine y.o.mono ?_;rintro e w3 ⟨rfl,i⟩)
     have Qs:Bl w w3:=Bt P i;have Qt:=RN.below (n:=T) ae i;have X:=Ua.below i;have Qr:=Y (dE _ l2 c' b lb cb T n w3 Qt (RN.below W.o Qs) hT O);obtain⟨c,H⟩:=ex (T/n);rw[H]at Qr z;have co:c<10000:=by rw[<-H,AM O,AD];exact hT
     have Qu:=Y H;clear H;have ki:(k:Int)<(la:Int):=O
     have kn:k<la:=O
     go_upto_region 11 with(go_at_call 207;refine Qr.o.mono ?_;rintro e w4 ⟨rfl,s⟩;have kc:=(X.below s).cell (j:=k) O;have kf:=(X.below s).frozen k)
     obtain⟨f,q⟩:=ex (w4.setCell ⟨w.heap.size,k,none⟩ (.int .i64 (c:Nat)));have Qx:Dm f w.heap.size (Q.set k c):=by rw[<-q];exact(X.below s).set k c
     have Uh:Bl w w4:=Bt Qs s;have Qo:Bl w f:=by rw[<-q];exact Uh.setCell (p:=⟨w.heap.size,k,none⟩) (Aa _) _
     have R:RN f (C (some ⟨g',0,none⟩) l2 c') T:=by
      rw[<-q];exact Row.grown (RN.below Qt s) (JH w4 w.heap.size k _) (λp e _=>by cases e;simp only;omega)
     rw[q];have dh:f.cell? ⟨w.heap.size,k,none⟩=some (.int .i64 (c:Nat)):=by
      have h:=Qx.cell (j:=k) (by rw[Fg];omega);rw[h,FE O];rfl
     clear q kc kf Qr y;have Ub:=Y (Hb (c:Nat) O O f);have Qz:=Y λ(V:World) (u:Value) (h:Bl f V) (I:Jw V u (c:Nat))=>XG (.agg #[C b lb cb,.bool false]) u (n:Nat) (c:Nat) V (Kk (RN.below (RN.below W.o Qo) h)) I Uk.o (Mw O O);go_upto_region 12 with(first
      |(go_at_call 94;refine Ub.o.mono ?_;rintro e w6 ⟨u6,rfl,K,an⟩;obtain⟨a6,l6,c6,rfl⟩:=K.form;obtain⟨s6,ah⟩:=ex (decide (((c:Nat):Int)<0));rw[ah]at K;rw[ah];clear ah)
      |(go_at_call 97;refine(Qz.o _ _ an K).mono ?_;rintro e M ⟨u7,rfl,L,bh⟩;obtain⟨a7,l7,c7,rfl⟩:=L.form;obtain⟨s7,ai⟩:=ex (decide (((n:Nat):Int)*((c:Nat):Int)<0));rw[ai]at L;rw[ai];clear ai))
     obtain⟨az,rfl⟩:=Sv (n:=n*c) L (by rw[FG]);have bx:=Jp.new M 45 (C a7 l7 c7) (.bool false);obtain⟨W8,G⟩:=ex (M.alloc (.cells #[C a7 l7 c7,.bool false] 45));have Qf:Bl f M:=Bt an bh;have Qa:Bl f W8:=by rw[<-G];exact Qf.alloc Qf.size _
     have Ug:RN W8 (C a7 l7 c7) (n*c):=by rw[<-G];exact RN.below az (Ba M _)
     rw[G]at bx ⊢;obtain⟨k0,k1⟩:=bx.cp;have Ue:n*c<=T:=by rw[<-Qu.o];exact Nat.mul_div_le T n
     have Ud:=Y (MV _ _ T (n*c) W8 (RN.below R Qa) Ug Ue (by
      have D:=(Ju R).1;rw[<-D];have h2:=(Ju R).2.2.2.1;have h3:=YK (B:=10000) O (n:=T) (k:=(Jd 10000 n).length+1) (by
       have h4:=Yw (Jr (B:=10000) O n);rw[Jq O]at h4;rw[Cm];exact Aw hT (Ae _ (Nat.le_of_lt h4)))
      have h5:=Qy.o;omega))
     have Uf:=Y (show T-n*c=T%n by rw[<-Qu.o];have:=Ce T n;omega);rw[Uf.o]at Ud;have Qm:=A9 T (show n>0 by omega);have wk:IntKind.i64.wrap ((k:Int)-1)=(k:Int)-1:=IntWalk.i64_in _ O;clear G Ub Qz K L az Ue;go_wp2_with(go_at_call 147;refine Ud.o.mono ?_;rintro e w9 ⟨u9,rfl,bf,bi⟩;obtain⟨a9,c9,rfl⟩:=RN.form bf)
     have Qc:Bl f w9:=Bt Qa bi;exact⟨⟨k,T%n,Q.set k c,a9,_,c9,J,O,J,Y bf,Qm,Qx.below Qc,z,Bt Qo Qc⟩,by simp[intOf]⟩
