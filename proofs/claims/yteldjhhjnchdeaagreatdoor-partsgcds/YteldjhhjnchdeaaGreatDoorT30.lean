import Derived.Test.YteldjhhjnchdeaaGreatDoorT25
import Derived.Deep.Upon
open Go.Value renaming slice->B
open Go.IntKind renaming i64->C
set_option maxRecDepth 100000
set_option maxHeartbeats 16000000
namespace Go.Proofs.YteldjhhjnchdeaaGreatDoor
open Go.RowKit Go.Shelf
attribute [local go_sem] Oper.semAt_some
theorem aF(a:Option Addr)(len cap:Nat)(ds:List Nat)(w:World)(h:Row C w (B a len cap) ds):Calls Tryz.prog 116 #[B a len cap] w λe v=>∃l,e=.returned (B a l cap)/\Row C w (B a l cap) (Jw ds)/\v=w:=by
 obtain⟨a',F,z,E,r,D,n⟩:=h;cases z;have q:Hid (ds=[]\/∃b off,a=some ⟨b,off,none⟩/\FX C w b/\∀j,j<ds.length->w.cell? ⟨b,off+j,none⟩=some (.int C (ds[j]?.getD 0:Nat))):=n;clear n;go_enter Tryz.func116,Tryz.ntmps116
 go_wp2;go_loop [0] (λd=>∃k:Nat,k<=ds.length/\d=B a k cap/\Hid (Jw (ds.take k)=Jw ds)) (λd=>IA d)
 case atStart=>exact⟨ds.length,Aa _,rfl,by rw[List.take_length];exact rfl⟩
 case round=>
  obtain⟨k,p,rfl,i⟩:=hrel;cases k with
  |zero=>
   go_wp2;go_ret;refine⟨0,rfl,?_,rfl⟩;have:Jw ds=[]:=by rw[<-i.o];simp[Jw]
   rw[this];exact⟨a,cap,rfl,DQ,r,DQ,Or.inl rfl⟩
  |succ k=>
   rcases q.o with t|⟨b,off,A,y,f⟩
   . rw[t]at p;simp at p
   . subst A;have u:=f k om;have s:Hid (∀j,j<ds.length->w.cell? ⟨b,off+j,none⟩=some (.int C (ds[j]?.getD 0:Nat))):=f;have c:Hid (ds.take (k+1)=ds.take k++[ds[k]?.getD 0]):=by
      show ds.take (k+1)=_;rw[Cg om,Ah om];rfl
     clear f q;generalize ds[k]?.getD 0=x at u c;by_cases g:x=0
     . subst g;go_wp2;go_round
       case rel=>
        refine⟨k,om,DQ,?_⟩;show Jw (ds.take k)=Jw ds;rw[<-i.o,c.o,YK]
       case measure=>simp[IA]
     . have G:((x:Int)==0)=false:=by simp;exact g
       go_wp2;go_ret;refine⟨k+1,rfl,?_,rfl⟩;have e:Jw ds=ds.take (k+1):=by rw[<-i.o,c.o,Xr _ g]
       have o:(ds.take (k+1)).length=k+1:=by rw[Al];omega
       rw[e];refine⟨_,cap,by rw[o],om,r,om,Or.inr ⟨b,off,rfl,y,λj m=>?_⟩⟩;rw[o]at m;rw[s.o j om,AH m]
theorem aG(d:Nat)(ty:TypeId)(W:World)(a:Option Addr)(l c:Nat)(ds:List Nat)(h:Row C W (B a l c) ds)(hl:l<=1000000000):
 ∃g l' c' i,(Builtin.append_ #[81,81] ty #[B (some ⟨W.heap.size,0,none⟩) 1 1,B a l c]).run Tryz.prog (W.alloc (.cells #[.int C (d:Nat)] 3))=.ok (B (some ⟨g,0,none⟩) l' c') i/\Row C i (B (some ⟨g,0,none⟩) l' c') (d::ds)/\W.heap.size<=g/\Bl W i:=by
 obtain⟨m,s,L,M,v⟩:=Bo Tryz.infoInt;obtain⟨H,U,V,Q,r⟩:=Ju h;have D:EG (W.alloc (.cells #[.int C (d:Nat)] 3)) W.heap.size [d]:=EG.made (BE W _);have o:Bl W (W.alloc (.cells #[.int C (d:Nat)] 3)):=Ba W _;have F:=D.row 0 1 1 DQ om om om;rcases AY l with k|k
 . subst k;obtain rfl:ds=[]:=Ap H.symm;have I:Src Tryz.prog m.size 81 (B a 0 c) 0 [] (W.alloc (.cells #[.int C (d:Nat)] 3)):=by
    cases a with
    |none=>exact Src.ofNil _ Tryz.underlying81 c
    |some p=>exact Src.ofSlice _ Tryz.underlying81 p 0 c [] DQ (λj u f=>by simp at f) (λu f=>by simp at f)
   exact⟨W.heap.size,1,1,_,run_append_nothing (P:=Tryz.prog) _ 81 81 ty 3 m Tryz.underlying81 s (some ⟨W.heap.size,0,none⟩) 1 1 (Aa _) _ I,F,Aa _,o⟩
 . obtain⟨b,off,rfl,S,_⟩:=r 0 k;have z:(W.alloc (.cells #[.int C (d:Nat)] 3)).ownsRow W.heap.size 3 1 (B (some ⟨W.heap.size,0,none⟩) 1 1) 1 (cellsOf C [d]):=by
    exact⟨by simp[cellsOf],Or.inr ⟨W.heap.size,1,#[.int C (d:Nat)],rfl,Aa _,BE W _,Aa _,by unfold maxLen;omega,DQ,by simp[cellsOf]⟩⟩
   obtain⟨T,i,K,n,w,_⟩:=run_append_own (P:=Tryz.prog) (W.alloc (.cells #[.int C (d:Nat)] 3)) W.heap.size 81 ty 3 m (.int C 0) 1 8 Tryz.underlying81 s L M v rfl DS (B (some ⟨W.heap.size,0,none⟩) 1 1) 1 (cellsOf C [d]) z ⟨b,off,none⟩ l c (cellsOf C ds) (by rw[Yn];omega)
    (λj u f=>by
     have t:j<ds.length:=by
      rcases AO j ds.length with q|q
      . exact q
      . rw[At (by simpa[cellsOf]using q)]at f;cases f
     obtain⟨R,O,G,J,E⟩:=r j om;cases G;rw[Y1,(o.cell (p:=⟨b,off+j,none⟩) J),E];simp only[cellsOf,CT,Ah t,Fg,Ag]at f;rw[<-f,Ah t];rfl) (λu f=>by
     rw[cellsOf,FA]at f;obtain⟨_,_,rfl⟩:=f;rfl) (by unfold maxLen;omega) om DQ
   have A:cellsOf C [d]++cellsOf C ds=cellsOf C (d::ds):=by simp[cellsOf]
   rw[A]at n;have y:=Row.of_owns n (by rw[Am];omega);rcases n.2 with⟨_,e⟩|⟨g,cap,N,e,x,_⟩
   . omega
   . subst e;exact⟨g,1+l,cap,i,K,y,x,below_grown o w (Aa _)⟩
