import Derived.Test.YtcahejkcdcjjgaaGreatDoorK30
import Derived.Lib.AppendZeros
set_option maxRecDepth 100000
set_option maxHeartbeats 16000000
namespace Go.Proofs.YtcahejkcdcjjgaaGreatDoor
open Go.RowKit Go.Shelf
attribute [local go_sem] Oper.semAt_some
theorem Jha(ds:List Nat)(k:Nat)(h:k<ds.length):val 10000 (ds.drop k)=ds[k]?.getD 0+10000*val 10000 (ds.drop (k+1)):=by
 rw[AV h,JX,Ae h];rfl
def Jdn(ds:List Nat)(n k r:Nat)(Q:List Nat):Prop:=
 Q.length=ds.length∧Dig 10000 Q∧r=val 10000 (ds.drop k)%n∧val 10000 Q=10000^k*(val 10000 (ds.drop k)/n)∧∀j,j<k→Q[j]?.getD 0=0
theorem Jdn.start(ds:List Nat)(n:Nat):Jdn ds n ds.length 0 (List.replicate ds.length 0):=by
 refine⟨At,fun x hx=>by rw[Cw hx];omega,?_,?_,fun j _=>?_⟩
 · rw[List.drop_length,Jd3,Nat.zero_mod]
 · rw[List.drop_length,Jd3,Nat.zero_div,Co,Jif]
 · by_cases hj:j<ds.length
   · rw[List.getElem?_replicate_of_lt hj];rfl
   · rw[Aq (by rw[At];omega)];rfl
theorem Jdn.step{ds Q:List Nat}{n k r d:Nat}(h:Jdn ds n (k+1) r Q)(hk:k<ds.length)(hd:d=ds[k]?.getD 0)(hn:0<n)(hdB:d<10000):
 d+10000*r<n*10000∧Jdn ds n k ((d+10000*r)%n) (Q.set k ((d+10000*r)/n)):=by
 obtain⟨h1,h2,h3,h4,h5⟩:=h;have hv:=Jha ds k hk;rw[←hd]at hv;have hr:r<n:=by rw[h3];exact A4 _ hn
 have Qa:d+10000*r<n*10000:=by omega
 have hh:=Jpz (t:=val 10000 (ds.drop (k+1))) (k:=10000) (un0:=d) hn;have e1:val 10000 (ds.drop (k+1))*10000+d=val 10000 (ds.drop k):=by rw[hv,As,CQ]
 have e2:val 10000 (ds.drop (k+1))%n*10000+d=d+10000*r:=by rw[←h3,As,CQ]
 rw[e1,e2]at hh;have hq:(d+10000*r)/n<10000:=by rw[AP hn,As 10000 n];exact Qa
 refine⟨Qa,by rw[Cs];exact h1,h2.set k hq,hh.2,?_,fun j hj=>?_⟩
 · have hs:=Jjn 10000 Q k ((d+10000*r)/n) (by omega);rw[h5 k (by omega),Co,Cd]at hs;rw[hs,h4,←hh.1,AK];generalize val 10000 (ds.drop (k+1))/n=A;grind
 · rw[AO (by omega)];exact h5 j (by omega)
theorem Jdn.fin{ds Q:List Nat}{n r m:Nat}(h:Jdn ds n 0 r Q)(hd:ds=Jc 10000 m):Jv Q=Jc 10000 (m/n)∧r=m%n:=by
 obtain⟨h1,h2,h3,h4,h5⟩:=h;rw[Ax,hd,Jl (by omega)]at h3 h4;rw[Nat.pow_zero,CK]at h4;exact⟨by rw[←JW (by omega) h2,h4],h3⟩
theorem Jmq{d r:Nat}(hd:d<10000):Jv (d::Jc 10000 r)=Jc 10000 (d+10000*r):=by
 have h:=JW (B:=10000) (by omega) (ds:=d::Jc 10000 r) (Dig.cons hd (Jm (by omega) r));rw[JX,Jl (by omega)]at h;exact h.symm
theorem Jnq(a:Option Addr)(la ca:Nat)(b:Option Addr)(lb cb m n:Nat)(w:World)(ra:RN w (.slice a la ca) m)(rb:RN w (.slice b lb cb) n)(hn:n≠0)(hla:la≤100000000)(hlb:lb≤100000000):
 Calls Tryz.prog 157 #[.slice a la ca,.slice b lb cb] w fun e w'=>∃u v,e=.returned (.tuple #[u,v])∧RN w' u (m/n)∧RN w' v (m%n)∧Below w.heap.size w w':=by
 obtain⟨hl1,Uf,hm1,hk1,hf1⟩:=Jp ra;have Qo:=(Jp rb).1;have Qv:=Jie la (by omega) w;obtain⟨W1,hW1⟩:∃W1,W1=w.alloc (.cells (cellsOf .i64 (List.replicate la 0)).toArray 3):=⟨_,rfl⟩;have Ud:Below w.heap.size w W1:=by rw[hW1];exact(Below.refl _ w).alloc (Aa _) _
 have Qw:ArI W1 w.heap.size (List.replicate la 0):=by rw[hW1];exact ArI.made (World.alloc_heap_new w _)
 rw[←hW1]at Qv;have HS:=Ja (Jdn.start (Jc 10000 m) n);rw[←hl1]at HS;have HF:=Ja (fun Q r (h:Jdn (Jc 10000 m) n 0 r Q)=>h.fin (m:=m) rfl);have xa:=Jm (B:=10000) (by omega) m;have Uk:=Ja (show szB (n:Int)≤1000000000 by unfold szB;rw[Ch,←Qo];omega);generalize Jc 10000 m=ds at *;have Qs:=Ja hl1;have H1:=Ja hf1;have Qk:=Ja rb;have Ue:=Ja Qo;clear hl1 hf1 hW1 ra rb Qo;go_enter Tryz.func157,Tryz.ntmps157
 go_wp2_with fail
 go_loopw [7,8] (fun rv iv wr=>∃(k r:Nat) (Q:List Nat) (ar:Option Addr) (lr cr:Nat),iv=.int .i64 ((k:Int)-1)∧k≤la∧rv=.slice ar lr cr∧Hid (RN wr (.slice ar lr cr) r)∧r<n∧ArI wr w.heap.size Q∧Hid (Jdn ds n k r Q)∧Below w.heap.size w wr)
  (fun _ iv _=>(intOf iv+1).toNat)
 case atStart=>exact⟨la,0,List.replicate la 0,none,0,0,rfl,Aa _,rfl,Ja (by unfold RN;rw[Jw];exact Row.nil _ _),by omega,Qw,HS,Ud⟩
 case round=>
  clear HS Qw Ud Qv;obtain⟨k,r,Q,ar,lr,cr,rfl,hk,rfl,HR,hrn,hA,HP,hB⟩:=hrel;cases k with
  |zero=>
   obtain⟨f1,f2⟩:=HF.o Q r HP.o;have Uh:=Ja f2;have Ul:Q.length=la:=by rw[HP.o.1,Qs.o]
   have Qc:Row .i64 wr (.slice (some ⟨w.heap.size,0,none⟩) la la) Q:=by
    have h1:=hA.row 0 la la (by omega) (Aa _) (by omega) (by omega);rwa[Ax,Ab (by omega)]at h1
   have Qb:=Ja (Jl1 _ Q wr Qc);rw[f1]at Qb;clear f1 f2 Qc;go_wp2_with(go_at_call 140;refine Qb.o.mono ?_;rintro e w2 ⟨u,rfl,hu,e2⟩;obtain⟨ua,uc,rfl⟩:=RN.form hu;have e3:=e2.symm;subst e3;clear e2)
   exact bodyPost_ret (v:=.tuple #[.slice ua (Jc 10000 (m/n)).length uc,.slice ar lr cr]) (by simp[results,Tryz.results157,go_sem]) rfl ⟨_,_,rfl,hu,by rw[←Uh.o];exact HR.o,hB⟩
  |succ k=>
   obtain⟨ab,ao,rfl,hab,hca⟩:=H1.o k (by omega);have e0:(((k+1:Nat):Int)-1)=(k:Int):=by omega
   rw[e0];have hcx:wr.cell? ⟨ab,ao+k,none⟩=some (.int .i64 (ds[k]?.getD 0:Nat)):=(hB.cell (p:=⟨ab,ao+k,none⟩) hab).trans hca;have hd:=xa.getD (by omega) k;obtain⟨hT,hst⟩:=HP.o.step (by rw[←Qs.o];omega) rfl (by omega) hd;have Qh:=Ja hst;have Qp:=Ja (Jmq (r:=r) hd);have hlr:lr≤100000001:=by
    have h1:=(Jp HR.o).1;have h2:(Jc 10000 r).length≤(Jc 10000 n).length:=by
     rcases AC (Jc 10000 n).length (Jc 10000 r).length with h|h
     · have:=Yx (by omega) h;omega
     · exact h
    have:=Ue.o;omega
   clear hst hca e0;generalize ds[k]?.getD 0=d at *;obtain⟨g',l',c',w2,hap,hr2,hg',hb2⟩:=Jk2 d 45 wr ar lr cr _ HR.o (by omega);have Qb:=Ja (Jui _ _ _ _ _ hr2);rw[Qp.o]at Qb;go_upto_region 8 with(at_builtin;refine Lib.wpList_append_run _ rfl _ _ 45 45 rfl _ _ rfl rfl _ _ hap ?_)
   obtain⟨T,hTe⟩:=ex (d+10000*r);rw[hTe]at hT Qh Qb Qp;clear hTe hap hr2;have Qd:Below w.heap.size w w2:=hB.trans (hb2.mono hB.size);have Qt:=hA.below hb2;have hgw:w.heap.size<wr.heap.size:=hA.lt;have Ul:Q.length=la:=by rw[HP.o.1,Qs.o]
   have Qj:Q[k]?.getD 0=0:=HP.o.2.2.2.2 k (by omega);go_upto_region 9 with(go_at_call 140;refine Qb.o.mono ?_;rintro e w2' ⟨l2,rfl,hr3,rfl⟩)
   clear Qb HR Qp;obtain⟨cm,hcm⟩:=ex (YP T n:Int);have Qg:=Ja (Ji7 10000 (by omega) _ _ (Jc 10000 T) (Jc 10000 n) _ hr3 (RN.below Qk.o Qd) (Jm (by omega) _) (Jm (by omega) _) (Ya (by omega) _) (Ya (by omega) _));rw[Jl (by omega),Jl (by omega),hcm]at Qg;by_cases hTn:T<n
   · rw[Xm hTn]at hcm;subst hcm;have HQ:=Ja (show Q.set k (T/n)=Q by
      rw[Ci hTn];apply List.ext_getElem?;intro j;rw[List.getElem?_set];split
      · rename_i e;subst e;rw[if_pos (by omega),Ae (by omega)];rw[Ae (show k<Q.length by omega)]at Qj;simp only[C1]at Qj;rw[Qj]
      · rfl)
     have HM:=Ja (Cn hTn);have hkm:(k:Int)-1=((k:Int)-1):=rfl;have wk:IntKind.i64.wrap ((k:Int)-1)=(k:Int)-1:=IntWalk.i64_in _ (by omega);go_wp2_with(go_at_call 143;refine Qg.o.mono ?_;rintro e w3 ⟨rfl,hb3⟩)
     have h3:=Qh.o;rw[HQ.o,HM.o]at h3;exact⟨⟨k,T,Q,_,l2,c',rfl,by omega,rfl,Ja (RN.below hr3 hb3),by omega,Qt.below hb3,Ja h3,Qd.trans (hb3.mono Qd.size)⟩,by simp[intOf]⟩
   · have hc0:¬(cm<0):=by rw[←hcm];unfold YP;rw[if_neg hTn];split<;>omega
     have Uf:(0:Int)≤cm:=by omega
     clear hcm;go_upto_region 10 with(go_at_call 143;refine Qg.o.mono ?_;rintro e w3 ⟨rfl,hb3⟩)
     have Qi:Below w.heap.size w w3:=Qd.trans (hb3.mono Qd.size);have Ub:=RN.below (n:=T) hr3 hb3;have Qm:=Qt.below hb3;have Qq:=Ja (Jqw _ l2 c' b lb cb T n w3 Ub (RN.below Qk.o Qi) hT (by omega));obtain⟨qd,hqd⟩:=ex (T/n);rw[hqd]at Qq Qh;have hqB:qd<10000:=by rw[←hqd,AP (by omega),As];exact hT
     have Qz:=Ja hqd;clear hqd;have ki:(k:Int)<(la:Int):=by omega
     have kn:k<la:=by omega
     go_upto_region 11 with(go_at_call 183;refine Qq.o.mono ?_;rintro e w4 ⟨rfl,hb4⟩;have kc:=(Qm.below hb4).cell (j:=k) (by omega);have kf:=(Qm.below hb4).frozen k)
     obtain⟨W5,hW5⟩:=ex (w4.setCell ⟨w.heap.size,k,none⟩ (.int .i64 (qd:Nat)));have Qx:ArI W5 w.heap.size (Q.set k qd):=by rw[←hW5];exact(Qm.below hb4).set k qd
     have Ui:Below w.heap.size w w4:=Qi.trans (hb4.mono Qi.size);have Qr:Below w.heap.size w W5:=by rw[←hW5];exact Ui.setCell (p:=⟨w.heap.size,k,none⟩) (Aa _) _
     have Qn:RN W5 (.slice (some ⟨g',0,none⟩) l2 c') T:=by
      rw[←hW5];exact Row.grown (RN.below Ub hb4) (JE w4 w.heap.size k _) (fun p e _=>by cases e;simp only;omega)
     rw[hW5];have kc5:W5.cell? ⟨w.heap.size,k,none⟩=some (.int .i64 (qd:Nat)):=by
      have h:=Qx.cell (j:=k) (by rw[Cs];omega);rw[h,AY (by omega)];rfl
     clear hW5 kc kf Qq Qg;have Uc:=Ja (Jja (qd:Nat) (by omega) (by omega) W5);have Qy:=Ja (fun(V:World) (u:Value) (h:Below W5.heap.size W5 V) (hu:Jo V u (qd:Nat))=>Xt (.agg #[.slice b lb cb,.bool false]) u (n:Nat) (qd:Nat) V (Jig (RN.below (RN.below Qk.o Qr) h)) hu Uk.o (Jfx (by omega) (by omega)));go_upto_region 12 with(first
      |(go_at_call 93;refine Uc.o.mono ?_;rintro e w6 ⟨u6,rfl,hu6,hb6⟩;obtain⟨a6,l6,c6,rfl⟩:=hu6.form;obtain⟨s6,hs6⟩:=ex (decide (((qd:Nat):Int)<0));rw[hs6]at hu6;rw[hs6];clear hs6)
      |(go_at_call 109;refine(Qy.o _ _ hb6 hu6).mono ?_;rintro e w7 ⟨u7,rfl,hu7,hb7⟩;obtain⟨a7,l7,c7,rfl⟩:=hu7.form;obtain⟨s7,hs7⟩:=ex (decide (((n:Nat):Int)*((qd:Nat):Int)<0));rw[hs7]at hu7;rw[hs7];clear hs7))
     obtain⟨hr7,rfl⟩:=Juy (n:=n*qd) hu7 (by rw[CW]);have bx:=Jk.new w7 47 (.slice a7 l7 c7) (.bool false);obtain⟨W8,hW8⟩:=ex (w7.alloc (.cells #[.slice a7 l7 c7,.bool false] 47));have Qf:Below W5.heap.size W5 w7:=hb6.trans (hb7.mono hb6.size);have Qa:Below W5.heap.size W5 W8:=by rw[←hW8];exact Qf.alloc Qf.size _
     have Uj:RN W8 (.slice a7 l7 c7) (n*qd):=by rw[←hW8];exact RN.below hr7 ((Below.refl _ w7).alloc (Aa _) _)
     rw[hW8]at bx ⊢;have k0:=bx.c0;have k1:=bx.c1;have Qu:n*qd≤T:=by rw[←Qz.o];exact Nat.mul_div_le T n
     have Ua:=Ja (Jfs _ _ T (n*qd) W8 (RN.below Qn Qa) Uj Qu (by
      have h1:=(Jp Qn).1;rw[←h1];have h2:=(Jp Qn).2.2.2.1;have h3:=JG (B:=10000) (by omega) (n:=T) (k:=(Jc 10000 n).length+1) (by
       have h4:=J7 (Jm (B:=10000) (by omega) n);rw[Jl (by omega)]at h4;rw[AK];exact AA hT (Am _ (Ft h4)))
      have h5:=Ue.o;omega))
     have Ug:=Ja (show T-n*qd=T%n by rw[←Qz.o];have:=A8 T n;omega);rw[Ug.o]at Ua;have Ql:=A4 T (show n>0 by omega);have wk:IntKind.i64.wrap ((k:Int)-1)=(k:Int)-1:=IntWalk.i64_in _ (by omega);clear hW8 Uc Qy hu6 hu7 hr7 Qu;go_wp2_with(go_at_call 144;refine Ua.o.mono ?_;rintro e w9 ⟨u9,rfl,hu9,hb9⟩;obtain⟨a9,c9,rfl⟩:=RN.form hu9)
     have Qe:Below W5.heap.size W5 w9:=Qa.trans (hb9.mono Qa.size);exact⟨⟨k,T%n,Q.set k qd,a9,_,c9,rfl,by omega,rfl,Ja hu9,Ql,Qx.below Qe,Qh,Qr.trans (Qe.mono Qr.size)⟩,by simp[intOf]⟩
