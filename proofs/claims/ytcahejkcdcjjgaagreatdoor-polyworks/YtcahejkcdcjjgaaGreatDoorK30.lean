import Derived.Test.YtcahejkcdcjjgaaGreatDoorK25
import Derived.Deep.Upon
set_option maxRecDepth 100000
set_option maxHeartbeats 16000000
namespace Go.Proofs.YtcahejkcdcjjgaaGreatDoor
open Go.RowKit Go.Shelf
attribute [local go_sem] Oper.semAt_some
theorem Jui(a:Option Addr)(len cap:Nat)(ds:List Nat)(w:World)(h:Row .i64 w (.slice a len cap) ds):Calls Tryz.prog 140 #[.slice a len cap] w fun e w'=>∃l,e=.returned (.slice a l cap)∧Row .i64 w (.slice a l cap) (Jv ds)∧w'=w:=by
 obtain⟨a',cap',ee,hlc,hcap,hlm,hcs⟩:=h;cases ee;have HC:Hid (ds=[]∨∃b off,a=some ⟨b,off,none⟩∧Typ .i64 w b∧∀j,j<ds.length→w.cell? ⟨b,off+j,none⟩=some (.int .i64 (ds[j]?.getD 0:Nat))):=hcs;clear hcs;go_enter Tryz.func140,Tryz.ntmps140
 go_wp2;go_loop [0] (fun d=>∃k:Nat,k≤ds.length∧d=.slice a k cap∧Hid (Jv (ds.take k)=Jv ds)) (fun d=>Jj1 d)
 case atStart=>exact⟨ds.length,Aa _,rfl,by rw[List.take_length];exact rfl⟩
 case round=>
  obtain⟨k,hk,rfl,ht⟩:=hrel;cases k with
  |zero=>
   go_wp2;go_ret;refine⟨0,rfl,?_,rfl⟩;have:Jv ds=[]:=by rw[←ht.o];simp[Jv]
   rw[this];exact⟨a,cap,rfl,by simp,hcap,by simp,Or.inl rfl⟩
  |succ k=>
   rcases HC.o with hd|⟨b,off,ea,hb,hc⟩
   · rw[hd]at hk;simp at hk
   · subst ea;have Qa:=hc k (by omega);have HH:Hid (∀j,j<ds.length→w.cell? ⟨b,off+j,none⟩=some (.int .i64 (ds[j]?.getD 0:Nat))):=hc;have HT:Hid (ds.take (k+1)=ds.take k++[ds[k]?.getD 0]):=by
      show ds.take (k+1)=_;rw[Ca (by omega),Ae (by omega)];rfl
     clear hc HC;generalize ds[k]?.getD 0=x at Qa HT;by_cases hx0:x=0
     · subst hx0;go_wp2;go_round
       case rel=>
        refine⟨k,by omega,by simp,?_⟩;show Jv (ds.take k)=Jv ds;rw[←ht.o,HT.o,Yw]
       case measure=>simp[Jj1]
     · have hx1:((x:Int)==0)=false:=by simp;exact hx0
       go_wp2;go_ret;refine⟨k+1,rfl,?_,rfl⟩;have e:Jv ds=ds.take (k+1):=by rw[←ht.o,HT.o,Y4 _ hx0]
       have el:(ds.take (k+1)).length=k+1:=by rw[Ag];omega
       rw[e];refine⟨_,cap,by rw[el],by omega,hcap,by omega,Or.inr ⟨b,off,rfl,hb,fun j hj=>?_⟩⟩;rw[el]at hj;rw[HH.o j (by omega),AE hj]
theorem Jk2(d:Nat)(ty:TypeId)(W:World)(a:Option Addr)(l c:Nat)(ds:List Nat)(h:Row .i64 W (.slice a l c) ds)(hl:l≤1000000000):
 ∃g l' c' w',(Builtin.append_ #[45,45] ty #[.slice (some ⟨W.heap.size,0,none⟩) 1 1,.slice a l c]).run Tryz.prog (W.alloc (.cells #[.int .i64 (d:Nat)] 3))=.ok (.slice (some ⟨g,0,none⟩) l' c') w'∧Row .i64 w' (.slice (some ⟨g,0,none⟩) l' c') (d::ds)∧W.heap.size≤g∧Below W.heap.size W w':=by
 obtain⟨i0,hi,hz0,hz1,hz2⟩:=info_parts Tryz.infoInt;obtain⟨h1,h2,h3,h4,h5⟩:=Jp h;have hA:ArI (W.alloc (.cells #[.int .i64 (d:Nat)] 3)) W.heap.size [d]:=ArI.made (World.alloc_heap_new W _);have hB:Below W.heap.size W (W.alloc (.cells #[.int .i64 (d:Nat)] 3)):=(Below.refl _ W).alloc (Aa _) _;have Qb:=hA.row 0 1 1 (by simp) (by omega) (by omega) (by omega);rcases AQ l with h0|h0
 · subst h0;obtain rfl:ds=[]:=Ao h1.symm;have Qd:Src Tryz.prog i0.size 45 (.slice a 0 c) 0 [] (W.alloc (.cells #[.int .i64 (d:Nat)] 3)):=by
    cases a with
    |none=>exact Src.ofNil _ Tryz.underlying45 c
    |some p=>exact Src.ofSlice _ Tryz.underlying45 p 0 c [] (by simp) (fun j u hu=>by simp at hu) (fun u hu=>by simp at hu)
   exact⟨W.heap.size,1,1,_,run_append_nothing (P:=Tryz.prog) _ 45 45 ty 3 i0 Tryz.underlying45 hi (some ⟨W.heap.size,0,none⟩) 1 1 (Aa _) _ Qd,Qb,Aa _,hB⟩
 · obtain⟨b,off,rfl,hbb,_⟩:=h5 0 h0;have Qa:(W.alloc (.cells #[.int .i64 (d:Nat)] 3)).ownsRow W.heap.size 3 1 (.slice (some ⟨W.heap.size,0,none⟩) 1 1) 1 (cellsOf .i64 [d]):=by
    exact⟨by simp[cellsOf],Or.inr ⟨W.heap.size,1,#[.int .i64 (d:Nat)],rfl,Aa _,World.alloc_heap_new W _,Aa _,by unfold maxLen;omega,by simp,by simp[cellsOf]⟩⟩
   obtain⟨v',w',hr,ho,hg,_⟩:=run_append_own (P:=Tryz.prog) (W.alloc (.cells #[.int .i64 (d:Nat)] 3)) W.heap.size 45 ty 3 i0 (.int .i64 0) 1 8 Tryz.underlying45 hi hz0 hz1 hz2 rfl (by decide) (.slice (some ⟨W.heap.size,0,none⟩) 1 1) 1 (cellsOf .i64 [d]) Qa ⟨b,off,none⟩ l c (cellsOf .i64 ds) (by rw[Yc];omega)
    (fun j u hu=>by
     have hj:j<ds.length:=by
      rcases AC j ds.length with h'|h'
      · exact h'
      · rw[Aq (by simpa[cellsOf]using h')]at hu;cases hu
     obtain⟨b',off',e2,hlt,hcell⟩:=h5 j (by omega);cases e2;rw[XH,(hB.cell (p:=⟨b,off+j,none⟩) hlt),hcell];simp only[cellsOf,CL,Ae hj,CX,Ak]at hu;rw[←hu,Ae hj];rfl) (fun u hu=>by
     rw[cellsOf,Fb]at hu;obtain⟨_,_,rfl⟩:=hu;rfl) (by unfold maxLen;omega) (by omega) (by simp)
   have he:cellsOf .i64 [d]++cellsOf .i64 ds=cellsOf .i64 (d::ds):=by simp[cellsOf]
   rw[he]at ho;have Qc:=Row.of_owns ho (by rw[Al];omega);rcases ho.2 with⟨_,e⟩|⟨g,cap,cur,e,hge,_⟩
   · omega
   · subst e;exact⟨g,1+l,cap,w',hr,Qc,hge,below_grown hB hg (Aa _)⟩
