import Derived.Test.YtcahejkcdcjjgaaGreatDoorT25
import Derived.Deep.Upon
open Go.Value renaming slice->B
open Go.IntKind renaming i64->C
set_option maxRecDepth 100000
set_option maxHeartbeats 16000000
namespace Go.Proofs.YtcahejkcdcjjgaaGreatDoor
open Go.RowKit Go.Shelf
attribute [local go_sem] Oper.semAt_some
theorem VL(a:Option Addr)(len cap:Nat)(ds:List Nat)(w:World)(h:Row C w (B a len cap) ds):Calls Tryz.prog 140 #[B a len cap] w λe A=>∃l,e=.returned (B a l cap)/\Row C w (B a l cap) (Jt ds)/\A=w:=by
 obtain⟨E,G,t,D,r,F,o⟩:=h;cases t;have n:Hid (ds=[]\/∃b off,a=some ⟨b,off,none⟩/\Ee C w b/\∀j,j<ds.length->w.cell? ⟨b,off+j,none⟩=some (.int C (ds[j]?.getD 0:Nat))):=o;clear o;go_enter Tryz.func140,Tryz.ntmps140
 go_wp2;go_loop [0] (λd=>∃k:Nat,k<=ds.length/\d=B a k cap/\Hid (Jt (ds.take k)=Jt ds)) (λd=>lenV d)
 case atStart=>exact⟨ds.length,Aa _,rfl,by rw[List.take_length];exact rfl⟩
 case round=>
  obtain⟨k,p,rfl,i⟩:=hrel;cases k with
  |zero=>
   go_wp2;go_ret;refine⟨0,rfl,?_,rfl⟩;have:Jt ds=[]:=by rw[<-i.o];simp[Jt]
   rw[this];exact⟨a,cap,rfl,DO,r,DO,Or.inl rfl⟩
  |succ k=>
   rcases n.o with v|⟨b,off,u,s,c⟩
   . rw[v]at p;simp at p
   . subst u;have z:=c k om;have y:Hid (∀j,j<ds.length->w.cell? ⟨b,off+j,none⟩=some (.int C (ds[j]?.getD 0:Nat))):=c;have g:Hid (ds.take (k+1)=ds.take k++[ds[k]?.getD 0]):=by
      show ds.take (k+1)=_;rw[A7 om,Af om];rfl
     clear c n;generalize ds[k]?.getD 0=x at z g;by_cases f:x=0
     . subst f;go_wp2;go_round
       case rel=>
        refine⟨k,om,DO,?_⟩;show Jt (ds.take k)=Jt ds;rw[<-i.o,g.o,YB]
       case measure=>simp[lenV]
     . have H:((x:Int)==0)=false:=by simp;exact f
       go_wp2;go_ret;refine⟨k+1,rfl,?_,rfl⟩;have e:Jt ds=ds.take (k+1):=by rw[<-i.o,g.o,Xd _ f]
       have q:(ds.take (k+1)).length=k+1:=by rw[Ai];omega
       rw[e];refine⟨_,cap,by rw[q],om,r,om,Or.inr ⟨b,off,rfl,s,λj m=>?_⟩⟩;rw[q]at m;rw[y.o j om,AH m]
theorem VM(d:Nat)(ty:TypeId)(W:World)(a:Option Addr)(l c:Nat)(ds:List Nat)(h:Row C W (B a l c) ds)(hl:l<=1000000000):
 ∃g t c' i,(Builtin.append_ #[45,45] ty #[B (some ⟨W.heap.size,0,none⟩) 1 1,B a l c]).run Tryz.prog (W.alloc (.cells #[.int C (d:Nat)] 3))=.ok (B (some ⟨g,0,none⟩) t c') i/\Row C i (B (some ⟨g,0,none⟩) t c') (d::ds)/\W.heap.size<=g/\Bl W i:=by
 obtain⟨m,s,M,F,y⟩:=Bp Tryz.infoInt;obtain⟨J,U,O,Q,v⟩:=Js h;have G:Dr (W.alloc (.cells #[.int C (d:Nat)] 3)) W.heap.size [d]:=Dr.made (BC W _);have q:Bl W (W.alloc (.cells #[.int C (d:Nat)] 3)):=Ba W _;have L:=G.row 0 1 1 DO om om om;rcases AQ l with o|o
 . subst o;obtain rfl:ds=[]:=Am J.symm;have H:Src Tryz.prog m.size 45 (B a 0 c) 0 [] (W.alloc (.cells #[.int C (d:Nat)] 3)):=by
    cases a with
    |none=>exact Src.ofNil _ Tryz.underlying45 c
    |some p=>exact Src.ofSlice _ Tryz.underlying45 p 0 c [] DO (λj u f=>by simp at f) (λu f=>by simp at f)
   exact⟨W.heap.size,1,1,_,run_append_nothing (P:=Tryz.prog) _ 45 45 ty 3 m Tryz.underlying45 s (some ⟨W.heap.size,0,none⟩) 1 1 (Aa _) _ H,L,Aa _,q⟩
 . obtain⟨b,off,rfl,S,_⟩:=v 0 o;have w:(W.alloc (.cells #[.int C (d:Nat)] 3)).ownsRow W.heap.size 3 1 (B (some ⟨W.heap.size,0,none⟩) 1 1) 1 (cellsOf C [d]):=by
    exact⟨by simp[cellsOf],Or.inr ⟨W.heap.size,1,#[.int C (d:Nat)],rfl,Aa _,BC W _,Aa _,by unfold maxLen;omega,DO,by simp[cellsOf]⟩⟩
   obtain⟨X,i,D,n,z,_⟩:=run_append_own (P:=Tryz.prog) (W.alloc (.cells #[.int C (d:Nat)] 3)) W.heap.size 45 ty 3 m (.int C 0) 1 8 Tryz.underlying45 s M F y rfl DR (B (some ⟨W.heap.size,0,none⟩) 1 1) 1 (cellsOf C [d]) w ⟨b,off,none⟩ l c (cellsOf C ds) (by rw[Yi];omega)
    (λj u f=>by
     have r:j<ds.length:=by
      rcases AB j ds.length with k|k
      . exact k
      . rw[Aq (by simpa[cellsOf]using k)]at f;cases f
     obtain⟨R,V,A,K,I⟩:=v j om;cases A;rw[IV,(q.cell (p:=⟨b,off+j,none⟩) K),I];simp only[cellsOf,CP,Af r,C1,Ak]at f;rw[<-f,Af r];rfl) (λu f=>by
     rw[cellsOf,Fc]at f;obtain⟨_,_,rfl⟩:=f;rfl) (by unfold maxLen;omega) om DO
   have N:cellsOf C [d]++cellsOf C ds=cellsOf C (d::ds):=by simp[cellsOf]
   rw[N]at n;have x:=Row.of_owns n (by rw[Aj];omega);rcases n.2 with⟨_,e⟩|⟨g,cap,T,e,E,_⟩
   . omega
   . subst e;exact⟨g,1+l,cap,i,D,x,E,below_grown q z (Aa _)⟩
