import Derived.Test.YtakpoihdghihmaaGreatDoorC25
import Derived.Deep.Upon
open Go.Value renaming slice->B
open Go.IntKind renaming i64->C
set_option maxRecDepth 100000
set_option maxHeartbeats 16000000
namespace Go.Proofs.YtakpoihdghihmaaGreatDoor
open Go.RowKit Go.Shelf
attribute [local go_sem] Oper.semAt_some
theorem eS(a:Option Addr)(len cap:Nat)(ds:List Nat)(w:World)(h:Row C w (B a len cap) ds):Calls Tryz.prog 148 #[B a len cap] w λe A=>∃l,e=.returned (B a l cap)/\Row C w (B a l cap) (JA ds)/\A=w:=by
 obtain⟨a',D,v,E,o,F,p⟩:=h;cases v;have m:Hid (ds=[]\/∃b off,a=some ⟨b,off,none⟩/\GH C w b/\∀j,j<ds.length->w.cell? ⟨b,off+j,none⟩=some (.int C (ds[j]?.getD 0:Nat))):=p;clear p;go_enter Tryz.func148,Tryz.ntmps148
 go_wp2;go_loop [0] (λd=>∃k:Nat,k<=ds.length/\d=B a k cap/\Hid (JA (ds.take k)=JA ds)) λd=>IV d
 case atStart=>exact⟨ds.length,Aa _,rfl,by rw[FO];exact rfl⟩
 case round=>
  obtain⟨k,r,rfl,g⟩:=hrel;cases k with
  |zero=>
   go_wp2;go_ret;refine⟨0,rfl,?_,rfl⟩
   have:JA ds=[]:=by rw[<-g.o];simp[JA]
   rw[this];exact⟨a,cap,rfl,Z,o,Z,Or.inl rfl⟩
  |succ k=>
   rcases m.o with z|⟨b,off,u,y,f⟩
   . rw[z]at r;simp at r
   . subst u;have t:=f k O;have s:Hid (∀j,j<ds.length->w.cell? ⟨b,off+j,none⟩=some (.int C (ds[j]?.getD 0:Nat))):=f;have c:Hid (ds.take (k+1)=ds.take k++[ds[k]?.getD 0]):=by
      show ds.take (k+1)=_;rw[Cg O,Af O];rfl
     clear f m;generalize ds[k]?.getD 0=x at t c;by_cases i:x=0
     . subst i;go_wp2;go_round
       case rel=>
        refine⟨k,O,Z,?_⟩;show JA (ds.take k)=JA ds;rw[<-g.o,c.o,X4]
       case measure=>simp[IV]
     . have G:((x:Int)==0)=false:=by simp;exact i
       go_wp2;go_ret;refine⟨k+1,rfl,?_,rfl⟩;have e:JA ds=ds.take (k+1):=by rw[<-g.o,c.o,XZ _ i]
       have n:(ds.take (k+1)).length=k+1:=by rw[Ak];omega
       rw[e];refine⟨_,cap,by rw[n],O,o,O,Or.inr ⟨b,off,rfl,y,λj q=>?_⟩⟩;rw[n]at q;rw[s.o j O,AV q]
theorem eT(d:Nat)(ty:TypeId)(W:World)(a:Option Addr)(l c:Nat)(ds:List Nat)(h:Row C W (B a l c) ds)(hl:l<=1000000000):
 ∃g l' c' i,(Builtin.append_ #[43,43] ty #[B (some ⟨W.heap.size,0,none⟩) 1 1,B a l c]).run Tryz.prog (W.alloc (.cells #[.int C (d:Nat)] 3))=.ok (B (some ⟨g,0,none⟩) l' c') i/\Row C i (B (some ⟨g,0,none⟩) l' c') (d::ds)/\W.heap.size<=g/\Bl W i:=by
 obtain⟨q,s,L,M,N⟩:=Bu Tryz.infoInt;obtain⟨A,S,T,U,r⟩:=Jw h;have D:EB (W.alloc (.cells #[.int C (d:Nat)] 3)) W.heap.size [d]:=EB.made (BE W _);have n:Bl W (W.alloc (.cells #[.int C (d:Nat)] 3)):=Ba W _;have x:=D.row 0 1 1 Z O O O;rcases A9 l with m|m
 . subst m;obtain rfl:ds=[]:=Ao A.symm;have v:Src Tryz.prog q.size 43 (B a 0 c) 0 [] (W.alloc (.cells #[.int C (d:Nat)] 3)):=by
    cases a with
    |none=>exact Src.ofNil _ Tryz.underlying43 c
    |some p=>exact Src.ofSlice _ Tryz.underlying43 p 0 c [] Z (λj u f=>by simp at f) (λu f=>by simp at f)
   exact⟨W.heap.size,1,1,_,run_append_nothing (P:=Tryz.prog) _ 43 43 ty 3 q Tryz.underlying43 s (some ⟨W.heap.size,0,none⟩) 1 1 (Aa _) _ v,x,Aa _,n⟩
 . obtain⟨b,off,rfl,V,_⟩:=r 0 m;have w:(W.alloc (.cells #[.int C (d:Nat)] 3)).ownsRow W.heap.size 3 1 (B (some ⟨W.heap.size,0,none⟩) 1 1) 1 (cellsOf C [d]):=by
    exact⟨by simp[cellsOf],Or.inr ⟨W.heap.size,1,#[.int C (d:Nat)],rfl,Aa _,BE W _,Aa _,by unfold maxLen;omega,Z,by simp[cellsOf]⟩⟩
   obtain⟨v',i,K,o,G,_⟩:=run_append_own (P:=Tryz.prog) (W.alloc (.cells #[.int C (d:Nat)] 3)) W.heap.size 43 ty 3 q (.int C 0) 1 8 Tryz.underlying43 s L M N rfl DO (B (some ⟨W.heap.size,0,none⟩) 1 1) 1 (cellsOf C [d]) w ⟨b,off,none⟩ l c (cellsOf C ds) (by rw[YG];omega)
    (λj u f=>by
     have t:j<ds.length:=by
      rcases AQ j ds.length with k|k
      . exact k
      . rw[As (by simpa[cellsOf]using k)]at f;cases f
     obtain⟨Q,X,z,I,E⟩:=r j O;cases z;rw[Xr,(n.cell (p:=⟨b,off+j,none⟩) I),E];simp only[cellsOf,C7,Af t,FI,An]at f;rw[<-f,Af t];rfl) (λu f=>by
     rw[cellsOf,CJ]at f;obtain⟨_,_,rfl⟩:=f;rfl) (by unfold maxLen;omega) O Z
   have F:cellsOf C [d]++cellsOf C ds=cellsOf C (d::ds):=by simp[cellsOf]
   rw[F]at o;have y:=Row.of_owns o (by rw[Ai];omega);rcases o.2 with⟨_,e⟩|⟨g,cap,R,e,H,_⟩
   . omega
   . subst e;exact⟨g,1+l,cap,i,K,y,H,below_grown n G (Aa _)⟩
